import PyProof.Rows.All
import Wide.All
import OpenK.AllK
import Wide.FinOn
import HandS.ForMost
import HandS.Defaults
import HandS.MakeKwOnly
import HandS.IsInst
import HandS.Wide
import HandS.Style
import HandS.Zip
import HandS.Codes
import HandS.OwnEq
import HandS.TupAny
import HandS.TupMul
import HandS.More
import HandS.Exc
import HandS.TryMany
import HandS.ExcInit
import HandS.ExcField
import HandS.ExcIs
import HandS.WordsExc
import HandS.Dict
import HandS.Deep
import KE.KDictDisplayH
import PyProof.InstNe
import PyProof.NeKinds
import PySem.Challenge.RW_wholedrops_k57_whole_rounds_led_on_and_d
set_option Elab.async false
set_option linter.all false
set_option maxRecDepth 100000
set_option maxHeartbeats 4000000
namespace Kp
/-! ### an if whose test is a Bool -/
theorem ifT {c : Bool} {A B : Prop} (hc : c = true) (h : A) : if c = true then A else B := by
  rw [if_pos hc]
  exact h
theorem ifF {c : Bool} {A B : Prop} (hc : c = false) (h : B) : if c = true then A else B := by
  rw [hc, if_neg Bool.false_ne_true]
  exact h
theorem ifD {P A B : Prop} [Decidable P] (h1 : P → A) (h2 : ¬ P → B) : if decide P = true then A else B := by
  by_cases h : P
  · exact ifT (decide_eq_true h) (h1 h)
  · exact ifF (decide_eq_false h) (h2 h)
theorem ifN {P A B : Prop} [Decidable P] (h1 : P → B) (h2 : ¬ P → A) : if (!decide P) = true then A else B := by
  by_cases h : P
  · exact ifF (by rw [decide_eq_true h]; rfl) (h1 h)
  · exact ifT (by rw [decide_eq_false h]; rfl) (h2 h)
/-! ### lists of ints -/
def at0 (l : List Int) (i : Nat) : Int := l.getD i 0
theorem at0_get {l : List Int} {i : Nat} (h : i < l.length) : l[i]? = some (at0 l i) := by
  unfold at0
  rw [List.getD_eq_getElem?_getD, List.getElem?_eq_getElem h]
  rfl
theorem at0_of {l : List Int} {i : Nat} {v : Int} (h : l[i]? = some v) : at0 l i = v := by
  unfold at0
  rw [List.getD_eq_getElem?_getD, h]
  rfl
theorem at0_set {l : List Int} {i j : Nat} {v : Int} (h : i < l.length) : at0 (l.set i v) j = if i = j then v else at0 l j := by
  unfold at0
  rw [List.getD_eq_getElem?_getD, List.getD_eq_getElem?_getD, List.getElem?_set]
  by_cases e : i = j
  · subst e
    simp [h]
  · simp [e]
theorem at0_map {l : List Int} {f : Int → Int} {i : Nat} (h : i < l.length) : at0 (l.map f) i = f (at0 l i) := by
  have := at0_get h
  exact at0_of (by rw [List.getElem?_map, this]; rfl)
theorem ext0 {l m : List Int} (h : l.length = m.length) (e : ∀ i, i < l.length → at0 l i = at0 m i) : l = m := by
  apply List.ext_getElem? 
  intro i
  by_cases hi : i < l.length
  · rw [at0_get hi, at0_get (h ▸ hi), e i hi]
  · rw [List.getElem?_eq_none (by omega), List.getElem?_eq_none (by omega)]
/-! ### the deeds -/
inductive D where
  | pour (a b : Nat) | put (a : Nat) (k : Int) | draw (a : Nat) (k : Int) | change (a b : Nat)
  deriving DecidableEq
/-- what a deed must be for jars of these sizes -/
def D.ok (caps : List Int) : D → Prop
  | .pour a b => a < caps.length ∧ b < caps.length ∧ a ≠ b
  | .put a k => a < caps.length ∧ 1 ≤ k ∧ k ≤ 1000000000000
  | .draw a k => a < caps.length ∧ 1 ≤ k ∧ k ≤ 1000000000000
  | .change a b => a < caps.length ∧ b < caps.length ∧ a ≠ b ∧ at0 caps a = at0 caps b
/-- one deed, as behind_deed reckons it -/
def D.act (caps : List Int) (p : Int) (st : List Int) : D → List Int
  | .pour a b =>
    let m := if at0 caps b * p - at0 st b < at0 st a then at0 caps b * p - at0 st b else at0 st a
    (st.set a (at0 st a - m)).set b (at0 st b + m)
  | .put a k => st.set a (if at0 caps a * p < at0 st a + k * p then at0 caps a * p else at0 st a + k * p)
  | .draw a k => st.set a (if 0 > at0 st a - k * p then 0 else at0 st a - k * p)
  | .change a b => (st.set a (at0 st b)).set b (at0 st a)
def run (caps : List Int) (p : Int) (ds : List D) (st : List Int) : List Int := ds.foldl (D.act caps p) st
def runs (caps : List Int) (p : Int) (ds : List D) : Nat → List Int → List Int
  | 0, st => st
  | n + 1, st => run caps p ds (runs caps p ds n st)
/-- a start that can be -/
structure Stand (caps : List Int) (p : Int) (st : List Int) : Prop where
  len : st.length = caps.length
  lo : ∀ i, i < caps.length → 0 ≤ at0 st i
  hi : ∀ i, i < caps.length → at0 st i ≤ at0 caps i * p
structure Caps (caps : List Int) : Prop where
  l1 : 1 ≤ caps.length
  l6 : caps.length ≤ 6
  lo : ∀ i, i < caps.length → 1 ≤ at0 caps i
  hi : ∀ i, i < caps.length → at0 caps i ≤ 1000000000000
theorem act_len {caps st : List Int} {p : Int} {d : D} : (d.act caps p st).length = st.length := by
  cases d <;> simp [D.act]
theorem act_stand {caps st : List Int} {p : Int} {d : D} (hp : 1 ≤ p) (h : Stand caps p st) (hd : d.ok caps) : Stand caps p (d.act caps p st) := by
  have hl := h.len
  refine ⟨by rw [act_len, hl], ?_, ?_⟩
  all_goals
    intro i hi
    have z0 := h.lo i hi
    have z1 := h.hi i hi
    cases d with
    | pour a b =>
      obtain ⟨ha, hb, hab⟩ := hd
      have a0 := h.lo a ha
      have a1 := h.hi a ha
      have b0 := h.lo b hb
      have b1 := h.hi b hb
      simp only [D.act]
      rw [at0_set (by rw [List.length_set]; omega), at0_set (by omega)]
      by_cases e1 : b = i
      · subst e1
        rw [if_pos rfl]
        split <;> omega
      · rw [if_neg e1]
        by_cases e2 : a = i
        · subst e2
          rw [if_pos rfl]
          split <;> omega
        · rw [if_neg e2]
          omega
    | put a k =>
      obtain ⟨ha, hk, _⟩ := hd
      have a0 := h.lo a ha
      have a1 := h.hi a ha
      have kp : 0 ≤ k * p := Int.mul_nonneg (by omega) (by omega)
      simp only [D.act]
      rw [at0_set (by omega)]
      by_cases e1 : a = i
      · subst e1
        rw [if_pos rfl]
        split <;> omega
      · rw [if_neg e1]
        omega
    | draw a k =>
      obtain ⟨ha, hk, _⟩ := hd
      have a0 := h.lo a ha
      have a1 := h.hi a ha
      have kp : 0 ≤ k * p := Int.mul_nonneg (by omega) (by omega)
      simp only [D.act]
      rw [at0_set (by omega)]
      by_cases e1 : a = i
      · subst e1
        rw [if_pos rfl]
        split <;> omega
      · rw [if_neg e1]
        omega
    | change a b =>
      obtain ⟨ha, hb, hab, hs⟩ := hd
      have a0 := h.lo a ha
      have a1 := h.hi a ha
      have b0 := h.lo b hb
      have b1 := h.hi b hb
      simp only [D.act]
      rw [at0_set (by rw [List.length_set]; omega), at0_set (by omega)]
      by_cases e1 : b = i
      · subst e1
        rw [if_pos rfl]
        rw [hs] at a1
        omega
      · rw [if_neg e1]
        by_cases e2 : a = i
        · subst e2
          rw [if_pos rfl]
          rw [← hs] at b1
          omega
        · rw [if_neg e2]
          omega
theorem run_len {caps : List Int} {p : Int} : ∀ {ds : List D} {st : List Int}, (run caps p ds st).length = st.length
  | [], _ => rfl
  | d :: ds, st => (run_len (ds := ds) (st := d.act caps p st)).trans act_len
theorem run_stand {caps : List Int} {p : Int} (hp : 1 ≤ p) : ∀ {ds : List D} {st : List Int}, Stand caps p st → (∀ d ∈ ds, d.ok caps) → Stand caps p (run caps p ds st)
  | [], _, h, _ => h
  | d :: ds, st, h, hd => run_stand (ds := ds) hp (act_stand hp h (hd d (List.mem_cons_self ..))) fun e he => hd e (List.mem_cons_of_mem _ he)
theorem runs_stand {caps : List Int} {p : Int} (hp : 1 ≤ p) {ds : List D} (hd : ∀ d ∈ ds, d.ok caps) : ∀ {n : Nat} {st : List Int}, Stand caps p st → Stand caps p (runs caps p ds n st)
  | 0, _, h => h
  | n + 1, _, h => run_stand hp (runs_stand hp hd (n := n) h) hd
theorem run_app {caps : List Int} {p : Int} {ds es : List D} {st : List Int} : run caps p (ds ++ es) st = run caps p es (run caps p ds st) := List.foldl_append ..
theorem runs_add {caps : List Int} {p : Int} {ds : List D} : ∀ (m n : Nat) (st : List Int), runs caps p ds m (runs caps p ds n st) = runs caps p ds (n + m) st
  | 0, _, _ => rfl
  | m + 1, n, st => congrArg (run caps p ds) (runs_add m n st)
theorem runs_nil {caps : List Int} {p : Int} : ∀ (n : Nat) (st : List Int), runs caps p [] n st = st
  | 0, _ => rfl
  | n + 1, st => runs_nil n st
theorem run_snoc {caps : List Int} {p : Int} {ds : List D} {d : D} {i : Nat} {st : List Int} (h : ds[i]? = some d) : run caps p (ds.take (i + 1)) st = d.act caps p (run caps p (ds.take i) st) := by
  rw [List.take_add_one, h, run_app]
  rfl
end Kp

namespace Kp
theorem at0_app {l : List Int} {z : Int} {i : Nat} : at0 (l ++ [z]) i = if i < l.length then at0 l i else if i = l.length then z else 0 := by
  unfold at0
  rw [List.getD_eq_getElem?_getD, List.getD_eq_getElem?_getD]
  by_cases h : i < l.length
  · rw [if_pos h, List.getElem?_append_left h]
  · rw [if_neg h, List.getElem?_append_right (by omega)]
    by_cases e : i = l.length
    · subst e
      simp
    · rw [if_neg e, List.getElem?_eq_none (by simp; omega)]
      rfl
/-- sizes that are none too small, none too big -/
def Mid (caps : List Int) : Prop := ∀ c ∈ caps, 1 ≤ c ∧ c ≤ 1000000000000
theorem Mid.nil : Mid [] := fun c h => by cases h
theorem Mid.app {caps : List Int} {z : Int} (h : Mid caps) (h1 : 1 ≤ z) (h2 : z ≤ 1000000000000) : Mid (caps ++ [z]) := fun c hc => by
  rcases List.mem_append.mp hc with q | q
  · exact h c q
  · have : c = z := by simpa using q
    subst this
    exact ⟨h1, h2⟩
theorem at0_mem {l : List Int} {i : Nat} (h : i < l.length) : at0 l i ∈ l := List.mem_of_getElem? (at0_get h)
theorem Mid.set {caps : List Int} {i j : Nat} (h : Mid caps) (hj : j < caps.length) : Mid (caps.set i (at0 caps j)) := fun c hc => by
  rcases List.mem_or_eq_of_mem_set hc with q | q
  · exact h c q
  · rw [q]
    exact h _ (at0_mem hj)
theorem Mid.caps {caps : List Int} (h : Mid caps) (h1 : 1 ≤ caps.length) (h6 : caps.length ≤ 6) : Caps caps :=
  ⟨h1, h6, fun i hi => (h _ (at0_mem hi)).1, fun i hi => (h _ (at0_mem hi)).2⟩
/-- starts as far as they are made -/
structure Part (caps : List Int) (p : Int) (st : List Int) : Prop where
  lo : ∀ i, i < st.length → 0 ≤ at0 st i
  hi : ∀ i, i < st.length → at0 st i ≤ at0 caps i * p
theorem Part.nil {caps : List Int} {p : Int} : Part caps p [] := ⟨fun i h => absurd h (Nat.not_lt_zero _), fun i h => absurd h (Nat.not_lt_zero _)⟩
theorem Part.app {caps st : List Int} {p z : Int} (h : Part caps p st) (h0 : 0 ≤ z) (h1 : z ≤ at0 caps st.length * p) : Part caps p (st ++ [z]) := by
  refine ⟨fun i hi => ?_, fun i hi => ?_⟩
  all_goals
    rw [List.length_append] at hi
    rw [at0_app]
    by_cases q : i < st.length
    · rw [if_pos q]
      first | exact h.lo i q | exact h.hi i q
    · have e : i = st.length := by simp at hi; omega
      subst e
      rw [if_neg q, if_pos rfl]
      first | exact h0 | exact h1
theorem Part.stand {caps st : List Int} {p : Int} (h : Part caps p st) (hl : st.length = caps.length) : Stand caps p st :=
  ⟨hl, fun i hi => h.lo i (by omega), fun i hi => h.hi i (by omega)⟩
/-- the words of the deeds -/
inductive Wd where
  | pour | put | draw | change
  deriving DecidableEq
def sixW : List Wd := [.pour, .pour, .pour, .put, .draw, .change]
theorem unit_ok {n : Nat} (h : n < 6) : 1 ≤ at0 [1, 1, 1, 7, 1000000, 100000000000] n ∧ at0 [1, 1, 1, 7, 1000000, 100000000000] n ≤ 100000000000 := by
  have : ∀ n : Fin 6, 1 ≤ at0 [1, 1, 1, 7, 1000000, 100000000000] n.1 ∧ at0 [1, 1, 1, 7, 1000000, 100000000000] n.1 ≤ 100000000000 := by decide
  exact this ⟨n, h⟩
theorem pick4 {a b c d lo hi : Int} {n : Nat} (h : n < 4) (ha : lo ≤ a ∧ a ≤ hi) (hb : lo ≤ b ∧ b ≤ hi) (hc : lo ≤ c ∧ c ≤ hi) (hd : lo ≤ d ∧ d ≤ hi) : lo ≤ at0 [a, b, c, d] n ∧ at0 [a, b, c, d] n ≤ hi := by
  match n, h with
  | 0, _ => exact ha
  | 1, _ => exact hb
  | 2, _ => exact hc
  | 3, _ => exact hd
theorem pick5 {a b c d e lo hi : Int} {n : Nat} (h : n < 5) (ha : lo ≤ a ∧ a ≤ hi) (hb : lo ≤ b ∧ b ≤ hi) (hc : lo ≤ c ∧ c ≤ hi) (hd : lo ≤ d ∧ d ≤ hi) (he : lo ≤ e ∧ e ≤ hi) : lo ≤ at0 [a, b, c, d, e] n ∧ at0 [a, b, c, d, e] n ≤ hi := by
  match n, h with
  | 0, _ => exact ha
  | 1, _ => exact hb
  | 2, _ => exact hc
  | 3, _ => exact hd
  | 4, _ => exact he
end Kp

namespace Kp
def MidN (b : Int) (caps : List Int) : Prop := ∀ c ∈ caps, 1 ≤ c ∧ c ≤ b
theorem MidN.nil {b : Int} : MidN b [] := fun c h => by cases h
theorem MidN.app {b : Int} {caps : List Int} {z : Int} (h : MidN b caps) (h1 : 1 ≤ z) (h2 : z ≤ b) : MidN b (caps ++ [z]) := fun c hc => by
  rcases List.mem_append.mp hc with q | q
  · exact h c q
  · have : c = z := by simpa using q
    subst this
    exact ⟨h1, h2⟩
theorem MidN.set {b : Int} {caps : List Int} {i j : Nat} (h : MidN b caps) (hj : j < caps.length) : MidN b (caps.set i (at0 caps j)) := fun c hc => by
  rcases List.mem_or_eq_of_mem_set hc with q | q
  · exact h c q
  · rw [q]
    exact h _ (at0_mem hj)
theorem MidN.caps {b : Int} {caps : List Int} (h : MidN b caps) (hb : b ≤ 1000000000000) (h1 : 1 ≤ caps.length) (h6 : caps.length ≤ 6) : Caps caps :=
  ⟨h1, h6, fun i hi => (h _ (at0_mem hi)).1, fun i hi => Int.le_trans (h _ (at0_mem hi)).2 hb⟩
/-- the pour as the law's own walk reckons it -/
def stepL (caps : List Int) (p : Int) (st : List Int) : D → List Int
  | .pour a b =>
    let x := if at0 caps b * p < at0 st a + at0 st b then at0 caps b * p else at0 st a + at0 st b
    (st.set b x).set a (at0 st a + at0 st b - x)
  | .put a k => st.set a (if at0 caps a * p < at0 st a + k * p then at0 caps a * p else at0 st a + k * p)
  | .draw a k => st.set a (if 0 > at0 st a - k * p then 0 else at0 st a - k * p)
  | .change a b => (st.set a (at0 st b)).set b (at0 st a)
theorem stepL_act {caps st : List Int} {p : Int} {d : D} (hl : st.length = caps.length) (ok : d.ok caps) : stepL caps p st d = d.act caps p st := by
  cases d with
  | pour a b =>
    obtain ⟨ha, hb, hab⟩ := ok
    simp only [stepL, D.act]
    apply ext0
    · simp
    · intro i hi
      rw [at0_set (by rw [List.length_set]; omega), at0_set (by omega), at0_set (by rw [List.length_set]; omega), at0_set (by omega)]
      by_cases e1 : a = i
      · by_cases e2 : b = i
        · exact absurd (e1.trans e2.symm) hab
        · rw [if_pos e1, if_neg e2, if_pos e1]
          split <;> split <;> omega
      · by_cases e2 : b = i
        · rw [if_neg e1, if_pos e2, if_pos e2]
          split <;> split <;> omega
        · rw [if_neg e1, if_neg e2, if_neg e2, if_neg e1]
  | put a k => rfl
  | draw a k => rfl
  | change a b => rfl
theorem runs_len {caps : List Int} {p : Int} {ds : List D} : ∀ {n : Nat} {st : List Int}, (runs caps p ds n st).length = st.length
  | 0, _ => rfl
  | n + 1, st => run_len.trans (runs_len (n := n))
end Kp

namespace Kp
/-! ### amounts in finer parts, greater houses -/
def mulL (m : Int) (l : List Int) : List Int := l.map (· * m)
theorem at0_mul {m : Int} {l : List Int} {i : Nat} : at0 (mulL m l) i = at0 l i * m := by
  by_cases h : i < l.length
  · exact at0_map h
  · unfold at0 mulL
    rw [List.getD_eq_getElem?_getD, List.getD_eq_getElem?_getD, List.getElem?_eq_none (by simp; omega), List.getElem?_eq_none (by omega)]
    simp
def D.sc (m : Int) : D → D
  | .pour a b => .pour a b
  | .put a k => .put a (k * m)
  | .draw a k => .draw a (k * m)
  | .change a b => .change a b
theorem lt_mul {x y q : Int} (hq : 0 < q) : x * q < y * q ↔ x < y := ⟨fun h => Int.lt_of_mul_lt_mul_right h (Int.le_of_lt hq), fun h => Int.mul_lt_mul_of_pos_right h hq⟩
theorem min_mul {x y q : Int} (hq : 0 < q) : (if x * q < y * q then x * q else y * q) = (if x < y then x else y) * q := by
  by_cases h : x < y
  · rw [if_pos h, if_pos ((lt_mul hq).mpr h)]
  · rw [if_neg h, if_neg (fun z => h ((lt_mul hq).mp z))]
theorem max_mul {x q : Int} (hq : 0 < q) : (if 0 > x * q then 0 else x * q) = (if 0 > x then 0 else x) * q := by
  have e : x * q < 0 ↔ x < 0 := by
    have := @lt_mul x 0 q hq
    rwa [Int.zero_mul] at this
  by_cases h : 0 > x
  · rw [if_pos h, if_pos (e.mpr h), Int.zero_mul]
  · rw [if_neg h, if_neg (fun z => h (e.mp z))]
theorem act_sc {m p p' q : Int} (e : m * p' = p * q) (hq : 0 < q) {caps st : List Int} {d : D} : (d.sc m).act (mulL m caps) p' (mulL q st) = mulL q (d.act caps p st) := by
  have ec : ∀ x : Int, x * m * p' = x * p * q := fun x => by rw [Int.mul_assoc, e, Int.mul_assoc]
  cases d with
  | pour a b =>
    simp only [D.sc, D.act, at0_mul, ec]
    rw [← Int.sub_mul, min_mul hq]
    unfold mulL
    rw [List.map_set, List.map_set, Int.sub_mul, Int.add_mul]
  | put a k =>
    simp only [D.sc, D.act, at0_mul, ec]
    rw [← Int.add_mul, min_mul hq]
    unfold mulL
    rw [List.map_set]
  | draw a k =>
    simp only [D.sc, D.act, at0_mul, ec]
    rw [← Int.sub_mul, max_mul hq]
    unfold mulL
    rw [List.map_set]
  | change a b =>
    simp only [D.sc, D.act, at0_mul]
    unfold mulL
    rw [List.map_set, List.map_set]
theorem run_sc {m p p' q : Int} (e : m * p' = p * q) (hq : 0 < q) {caps : List Int} : ∀ {ds : List D} {st : List Int}, run (mulL m caps) p' (ds.map (D.sc m)) (mulL q st) = mulL q (run caps p ds st)
  | [], _ => rfl
  | d :: ds, st => by
    show run (mulL m caps) p' (ds.map (D.sc m)) ((d.sc m).act (mulL m caps) p' (mulL q st)) = mulL q (run caps p ds (d.act caps p st))
    rw [act_sc e hq]
    exact run_sc e hq
theorem runs_sc {m p p' q : Int} (e : m * p' = p * q) (hq : 0 < q) {caps : List Int} {ds : List D} : ∀ {n : Nat} {st : List Int}, runs (mulL m caps) p' (ds.map (D.sc m)) n (mulL q st) = mulL q (runs caps p ds n st)
  | 0, _ => rfl
  | n + 1, st => by
    show run (mulL m caps) p' (ds.map (D.sc m)) (runs (mulL m caps) p' (ds.map (D.sc m)) n (mulL q st)) = mulL q (run caps p ds (runs caps p ds n st))
    rw [runs_sc e hq, run_sc e hq]
theorem mulL_one (l : List Int) : mulL 1 l = l := by
  unfold mulL
  simp
theorem sc_one (ds : List D) : ds.map (D.sc 1) = ds := by
  have : D.sc 1 = id := by
    funext d
    cases d <;> simp [D.sc]
  rw [this, List.map_id]
theorem runs_fine {p q : Int} (hq : 0 < q) {caps st : List Int} {ds : List D} {n : Nat} : runs caps (p * q) ds n (mulL q st) = mulL q (runs caps p ds n st) := by
  have := @runs_sc 1 p (p * q) q (by rw [Int.one_mul]) hq caps ds n st
  rw [mulL_one, sc_one] at this
  exact this
theorem runs_wide {p q : Int} (hq : 0 < q) {caps st : List Int} {ds : List D} {n : Nat} : runs (mulL q caps) p (ds.map (D.sc q)) n (mulL q st) = mulL q (runs caps p ds n st) :=
  runs_sc (Int.mul_comm q p) hq
theorem runs_grain {p : Int} {caps st : List Int} {ds : List D} {n : Nat} : runs (mulL p caps) 1 (ds.map (D.sc p)) n st = runs caps p ds n st := by
  have := @runs_sc p p 1 1 rfl (by decide) caps ds n st
  rw [mulL_one, mulL_one] at this
  exact this
theorem stand_fine {caps st : List Int} {p q : Int} (hq : 0 < q) (h : Stand caps p st) : Stand caps (p * q) (mulL q st) := by
  refine ⟨by unfold mulL; rw [List.length_map, h.len], fun i hi => ?_, fun i hi => ?_⟩
  · rw [at0_mul]
    exact Int.mul_nonneg (h.lo i hi) (Int.le_of_lt hq)
  · rw [at0_mul, ← Int.mul_assoc]
    exact Int.mul_le_mul_of_nonneg_right (h.hi i hi) (Int.le_of_lt hq)
theorem stand_wide {caps st : List Int} {p q : Int} (hq : 0 < q) (h : Stand caps p st) : Stand (mulL q caps) p (mulL q st) := by
  have ll : (mulL q caps).length = caps.length := by unfold mulL; rw [List.length_map]
  refine ⟨by rw [ll]; unfold mulL; rw [List.length_map, h.len], fun i hi => ?_, fun i hi => ?_⟩
  · rw [at0_mul]
    exact Int.mul_nonneg (h.lo i (by omega)) (Int.le_of_lt hq)
  · rw [at0_mul, at0_mul, Int.mul_assoc, Int.mul_comm q p, ← Int.mul_assoc]
    exact Int.mul_le_mul_of_nonneg_right (h.hi i (by omega)) (Int.le_of_lt hq)
theorem stand_grain {caps st : List Int} {p : Int} (h : Stand caps p st) : Stand (mulL p caps) 1 st := by
  have ll : (mulL p caps).length = caps.length := by unfold mulL; rw [List.length_map]
  refine ⟨by rw [ll, h.len], fun i hi => h.lo i (by omega), fun i hi => ?_⟩
  rw [at0_mul, Int.mul_one]
  exact h.hi i (by omega)
theorem caps_mul {caps : List Int} {q : Int} (h : Caps caps) (h12 : ∀ i, i < caps.length → at0 caps i ≤ 12) (q1 : 1 ≤ q) (q2 : q ≤ 70000000000) : Caps (mulL q caps) := by
  have ll : (mulL q caps).length = caps.length := by unfold mulL; rw [List.length_map]
  refine ⟨by rw [ll]; exact h.l1, by rw [ll]; exact h.l6, fun i hi => ?_, fun i hi => ?_⟩
  · rw [at0_mul]
    have := Int.mul_le_mul (h.lo i (by omega)) q1 (by decide) (by have := h.lo i (by omega); omega)
    simpa using this
  · rw [at0_mul]
    have := Int.mul_le_mul (h12 i (by omega)) q2 (by omega) (by decide)
    omega
end Kp

namespace Kp
theorem sum_set : ∀ {l : List Int} {i : Nat} {v : Int}, i < l.length → (l.set i v).sum = l.sum - at0 l i + v
  | [], i, v, h => absurd h (Nat.not_lt_zero _)
  | x :: l, 0, v, _ => by
    show v + l.sum = x + l.sum - x + v
    omega
  | x :: l, i + 1, v, h => by
    have ih := sum_set (l := l) (i := i) (v := v) (by simpa using h)
    show x + (l.set i v).sum = x + l.sum - at0 l i + v
    rw [ih]
    omega
def D.isPC : D → Bool
  | .pour _ _ => true
  | .change _ _ => true
  | _ => false
def D.putK : D → Option Int
  | .put _ k => some k
  | _ => none
def D.drawK : D → Option Int
  | .draw _ k => some k
  | _ => none
def D.up (p : Int) : D → Int
  | .put _ k => k * p
  | _ => 0
def D.dn (p : Int) : D → Int
  | .draw _ k => k * p
  | _ => 0
theorem act_sum {caps st : List Int} {p : Int} {d : D} (hp : 1 ≤ p) (h : Stand caps p st) (ok : d.ok caps) : st.sum - d.dn p ≤ (d.act caps p st).sum ∧ (d.act caps p st).sum ≤ st.sum + d.up p := by
  have hl := h.len
  cases d with
  | pour a b =>
    obtain ⟨ha, hb, hab⟩ := ok
    simp only [D.act, D.dn, D.up]
    rw [sum_set (by rw [List.length_set]; omega), sum_set (by omega), at0_set (by omega), if_neg hab]
    omega
  | put a k =>
    obtain ⟨ha, hk, _⟩ := ok
    have a0 := h.lo a ha
    have a1 := h.hi a ha
    have kp : 0 ≤ k * p := Int.mul_nonneg (by omega) (by omega)
    simp only [D.act, D.dn, D.up]
    rw [sum_set (by omega)]
    split <;> omega
  | draw a k =>
    obtain ⟨ha, hk, _⟩ := ok
    have a0 := h.lo a ha
    have kp : 0 ≤ k * p := Int.mul_nonneg (by omega) (by omega)
    simp only [D.act, D.dn, D.up]
    rw [sum_set (by omega)]
    split <;> omega
  | change a b =>
    obtain ⟨ha, hb, hab, _⟩ := ok
    simp only [D.act, D.dn, D.up]
    rw [sum_set (by rw [List.length_set]; omega), sum_set (by omega), at0_set (by omega), if_neg hab]
    omega
theorem run_sum {caps : List Int} {p : Int} (hp : 1 ≤ p) : ∀ {ds : List D} {st : List Int}, Stand caps p st → (∀ d ∈ ds, d.ok caps) →
    st.sum - (ds.map (D.dn p)).sum ≤ (run caps p ds st).sum ∧ (run caps p ds st).sum ≤ st.sum + (ds.map (D.up p)).sum
  | [], st, _, _ => by
    show st.sum - 0 ≤ st.sum ∧ st.sum ≤ st.sum + 0
    omega
  | d :: ds, st, h, ok => by
    have o1 := ok d (List.mem_cons_self ..)
    have a := act_sum hp h o1
    have b := run_sum (ds := ds) hp (act_stand hp h o1) fun e he => ok e (List.mem_cons_of_mem _ he)
    show st.sum - (d.dn p + (ds.map (D.dn p)).sum) ≤ (run caps p ds (d.act caps p st)).sum ∧ (run caps p ds (d.act caps p st)).sum ≤ st.sum + (d.up p + (ds.map (D.up p)).sum)
    omega
def putsL (ds : List D) : List Int := ds.filterMap D.putK
def drawsL (ds : List D) : List Int := ds.filterMap D.drawK
theorem ups {p : Int} : ∀ ds : List D, (ds.map (D.up p)).sum = p * (putsL ds).sum
  | [] => (Int.mul_zero p).symm
  | d :: ds => by
    have ih := ups (p := p) ds
    show d.up p + (ds.map (D.up p)).sum = p * (putsL (d :: ds)).sum
    rw [ih]
    cases d with
    | put a k =>
      show k * p + p * (putsL ds).sum = p * (k + (putsL ds).sum)
      rw [Int.mul_add, Int.mul_comm k p]
    | pour a b => exact Int.zero_add _
    | draw a k => exact Int.zero_add _
    | change a b => exact Int.zero_add _
theorem dns {p : Int} : ∀ ds : List D, (ds.map (D.dn p)).sum = p * (drawsL ds).sum
  | [] => (Int.mul_zero p).symm
  | d :: ds => by
    have ih := dns (p := p) ds
    show d.dn p + (ds.map (D.dn p)).sum = p * (drawsL (d :: ds)).sum
    rw [ih]
    cases d with
    | draw a k =>
      show k * p + p * (drawsL ds).sum = p * (k + (drawsL ds).sum)
      rw [Int.mul_add, Int.mul_comm k p]
    | pour a b => exact Int.zero_add _
    | put a k => exact Int.zero_add _
    | change a b => exact Int.zero_add _
theorem pc_sums {p : Int} {ds : List D} : ((ds.filter D.isPC).map (D.dn p)).sum = 0 ∧ ((ds.filter D.isPC).map (D.up p)).sum = 0 := by
  induction ds with
  | nil => exact ⟨rfl, rfl⟩
  | cons d ds ih =>
    cases d with
    | pour a b => exact ⟨(Int.zero_add _).trans ih.1, (Int.zero_add _).trans ih.2⟩
    | change a b => exact ⟨(Int.zero_add _).trans ih.1, (Int.zero_add _).trans ih.2⟩
    | put a k => exact ih
    | draw a k => exact ih
theorem runs_pc {caps : List Int} {p : Int} (hp : 1 ≤ p) {ds : List D} (ok : ∀ d ∈ ds, d.ok caps) : ∀ {n : Nat} {st : List Int}, Stand caps p st → (runs caps p (ds.filter D.isPC) n st).sum = st.sum
  | 0, _, _ => rfl
  | n + 1, st, h => by
    have ok' : ∀ d ∈ ds.filter D.isPC, d.ok caps := fun d hd => ok d (List.mem_filter.mp hd).1
    have ih := runs_pc hp ok (n := n) h
    have b := run_sum hp (runs_stand (n := n) hp ok' h) ok'
    have e := pc_sums (p := p) (ds := ds)
    show (run caps p (ds.filter D.isPC) (runs caps p (ds.filter D.isPC) n st)).sum = st.sum
    omega
/-- the jars that a deed names -/
def D.names : D → List Int
  | .pour a b => [(a : Int), (b : Int)]
  | .put a _ => [(a : Int)]
  | .draw a _ => [(a : Int)]
  | .change a b => [(a : Int), (b : Int)]
theorem act_else {caps st : List Int} {p : Int} {d : D} {i : Nat} (hl : st.length = caps.length) (ok : d.ok caps) (h : (i : Int) ∉ d.names) : at0 (d.act caps p st) i = at0 st i := by
  cases d with
  | pour a b =>
    obtain ⟨ha, hb, _⟩ := ok
    simp only [D.names, List.mem_cons, List.not_mem_nil, or_false, not_or] at h
    simp only [D.act]
    rw [at0_set (by rw [List.length_set]; omega), at0_set (by omega), if_neg (by omega), if_neg (by omega)]
  | put a k =>
    obtain ⟨ha, _⟩ := ok
    simp only [D.names, List.mem_cons, List.not_mem_nil, or_false] at h
    simp only [D.act]
    rw [at0_set (by omega), if_neg (by omega)]
  | draw a k =>
    obtain ⟨ha, _⟩ := ok
    simp only [D.names, List.mem_cons, List.not_mem_nil, or_false] at h
    simp only [D.act]
    rw [at0_set (by omega), if_neg (by omega)]
  | change a b =>
    obtain ⟨ha, hb, _⟩ := ok
    simp only [D.names, List.mem_cons, List.not_mem_nil, or_false, not_or] at h
    simp only [D.act]
    rw [at0_set (by rw [List.length_set]; omega), at0_set (by omega), if_neg (by omega), if_neg (by omega)]
theorem run_else {caps : List Int} {p : Int} {i : Nat} : ∀ {ds : List D} {st : List Int}, st.length = caps.length → (∀ d ∈ ds, d.ok caps) → (i : Int) ∉ ds.flatMap D.names → at0 (run caps p ds st) i = at0 st i
  | [], _, _, _, _ => rfl
  | d :: ds, st, hl, ok, h => by
    rw [List.flatMap_cons, List.mem_append, not_or] at h
    have e := run_else (p := p) (ds := ds) (st := d.act caps p st) (i := i) (act_len.trans hl) (fun e he => ok e (List.mem_cons_of_mem _ he)) h.2
    show at0 (run caps p ds (d.act caps p st)) i = at0 st i
    rw [e, act_else hl (ok d (List.mem_cons_self ..)) h.1]
theorem runs_else {caps : List Int} {p : Int} {i : Nat} {ds : List D} (ok : ∀ d ∈ ds, d.ok caps) (h : (i : Int) ∉ ds.flatMap D.names) : ∀ {n : Nat} {st : List Int}, st.length = caps.length → at0 (runs caps p ds n st) i = at0 st i
  | 0, _, _ => rfl
  | n + 1, st, hl => by
    show at0 (run caps p ds (runs caps p ds n st)) i = at0 st i
    rw [run_else (runs_len.trans hl) ok h, runs_else ok h hl]
end Kp

namespace Kp
/-- nowhere more -/
def Below (x y : List Int) : Prop := x.length = y.length ∧ ∀ i, i < x.length → at0 x i ≤ at0 y i
theorem act_below {caps x y : List Int} {p : Int} {d : D} (hp : 1 ≤ p) (hx : Stand caps p x) (hy : Stand caps p y) (ok : d.ok caps) (h : Below x y) : Below (d.act caps p x) (d.act caps p y) := by
  have lx := hx.len
  have ly := hy.len
  refine ⟨by rw [act_len, act_len, lx, ly], fun i hi => ?_⟩
  rw [act_len] at hi
  have hi0 := h.2 i hi
  cases d with
  | pour a b =>
    obtain ⟨ha, hb, hab⟩ := ok
    have a0 := h.2 a (by omega)
    have b0 := h.2 b (by omega)
    have xa := hx.hi b hb
    have ya := hy.hi b hb
    simp only [D.act]
    rw [at0_set (by rw [List.length_set]; omega), at0_set (by omega), at0_set (by rw [List.length_set]; omega), at0_set (by omega)]
    by_cases e1 : b = i
    · subst e1
      rw [if_pos rfl, if_pos rfl]
      split <;> split <;> omega
    · rw [if_neg e1, if_neg e1]
      by_cases e2 : a = i
      · subst e2
        rw [if_pos rfl, if_pos rfl]
        split <;> split <;> omega
      · rw [if_neg e2, if_neg e2]
        exact hi0
  | put a k =>
    obtain ⟨ha, hk, _⟩ := ok
    have a0 := h.2 a (by omega)
    simp only [D.act]
    rw [at0_set (by omega), at0_set (by omega)]
    by_cases e1 : a = i
    · subst e1
      rw [if_pos rfl, if_pos rfl]
      split <;> split <;> omega
    · rw [if_neg e1, if_neg e1]
      exact hi0
  | draw a k =>
    obtain ⟨ha, hk, _⟩ := ok
    have a0 := h.2 a (by omega)
    simp only [D.act]
    rw [at0_set (by omega), at0_set (by omega)]
    by_cases e1 : a = i
    · subst e1
      rw [if_pos rfl, if_pos rfl]
      split <;> split <;> omega
    · rw [if_neg e1, if_neg e1]
      exact hi0
  | change a b =>
    obtain ⟨ha, hb, hab, _⟩ := ok
    have a0 := h.2 a (by omega)
    have b0 := h.2 b (by omega)
    simp only [D.act]
    rw [at0_set (by rw [List.length_set]; omega), at0_set (by omega), at0_set (by rw [List.length_set]; omega), at0_set (by omega)]
    by_cases e1 : b = i
    · rw [if_pos e1, if_pos e1]
      exact a0
    · rw [if_neg e1, if_neg e1]
      by_cases e2 : a = i
      · rw [if_pos e2, if_pos e2]
        exact b0
      · rw [if_neg e2, if_neg e2]
        exact hi0
theorem run_below {caps : List Int} {p : Int} (hp : 1 ≤ p) : ∀ {ds : List D} {x y : List Int}, Stand caps p x → Stand caps p y → (∀ d ∈ ds, d.ok caps) → Below x y → Below (run caps p ds x) (run caps p ds y)
  | [], _, _, _, _, _, h => h
  | d :: ds, x, y, hx, hy, ok, h => by
    have od := ok d (List.mem_cons_self ..)
    exact run_below (ds := ds) (x := d.act caps p x) (y := d.act caps p y) hp (act_stand hp hx od) (act_stand hp hy od) (fun e he => ok e (List.mem_cons_of_mem _ he)) (act_below hp hx hy od h)
/-- the differences, by place -/
def difs (x y : List Int) : List Int := List.zipWith (fun a b => ((b - a).natAbs : Int)) x y
theorem difs_len {x y : List Int} (h : x.length = y.length) : (difs x y).length = x.length := by
  unfold difs
  rw [List.length_zipWith]
  omega
theorem difs_set : ∀ {x y : List Int} {i : Nat} {u v : Int}, difs (x.set i u) (y.set i v) = (difs x y).set i ((v - u).natAbs : Int)
  | [], [], _, _, _ => by simp [difs]
  | [], _ :: _, _, _, _ => by simp [difs]
  | _ :: _, [], _, _, _ => by simp [difs]
  | a :: x, b :: y, 0, u, v => by simp [difs]
  | a :: x, b :: y, i + 1, u, v => by
    have := difs_set (x := x) (y := y) (i := i) (u := u) (v := v)
    simp only [difs] at this
    simp [difs, this]
theorem difs_at {x y : List Int} {i : Nat} (hx : i < x.length) (hy : i < y.length) : at0 (difs x y) i = ((at0 y i - at0 x i).natAbs : Int) := by
  refine at0_of ?_
  unfold difs
  rw [List.getElem?_zipWith, at0_get hx, at0_get hy]
def apart (x y : List Int) : Int := (difs x y).sum
theorem apart_set {x y : List Int} {i : Nat} {u v : Int} (e : x.length = y.length) (h : i < x.length) : apart (x.set i u) (y.set i v) = apart x y - ((at0 y i - at0 x i).natAbs : Int) + ((v - u).natAbs : Int) := by
  unfold apart
  rw [difs_set, sum_set (by rw [difs_len e]; exact h), difs_at h (by omega)]
theorem act_apart {caps x y : List Int} {p : Int} {d : D} (hx : Stand caps p x) (hy : Stand caps p y) (ok : d.ok caps) : apart (d.act caps p x) (d.act caps p y) ≤ apart x y := by
  have lx := hx.len
  have ly := hy.len
  have e : x.length = y.length := by omega
  cases d with
  | pour a b =>
    obtain ⟨ha, hb, hab⟩ := ok
    have xa := hx.hi b hb
    have ya := hy.hi b hb
    have xl := hx.lo a ha
    have yl := hy.lo a ha
    simp only [D.act]
    rw [apart_set (by rw [List.length_set, List.length_set]; exact e) (by rw [List.length_set]; omega), apart_set e (by omega), at0_set (by omega), at0_set (by omega), if_neg hab, if_neg hab]
    split <;> split <;> omega
  | put a k =>
    obtain ⟨ha, hk, _⟩ := ok
    have xh := hx.hi a ha
    have yh := hy.hi a ha
    simp only [D.act]
    rw [apart_set e (by omega)]
    split <;> split <;> omega
  | draw a k =>
    obtain ⟨ha, hk, _⟩ := ok
    have xh := hx.lo a ha
    have yh := hy.lo a ha
    simp only [D.act]
    rw [apart_set e (by omega)]
    split <;> split <;> omega
  | change a b =>
    obtain ⟨ha, hb, hab, _⟩ := ok
    simp only [D.act]
    rw [apart_set (by rw [List.length_set, List.length_set]; exact e) (by rw [List.length_set]; omega), apart_set e (by omega), at0_set (by omega), at0_set (by omega), if_neg hab, if_neg hab]
    omega
theorem run_apart {caps : List Int} {p : Int} (hp : 1 ≤ p) : ∀ {ds : List D} {x y : List Int}, Stand caps p x → Stand caps p y → (∀ d ∈ ds, d.ok caps) → apart (run caps p ds x) (run caps p ds y) ≤ apart x y
  | [], _, _, _, _, _ => Int.le_refl _
  | d :: ds, x, y, hx, hy, ok => by
    have od := ok d (List.mem_cons_self ..)
    exact Int.le_trans (run_apart (ds := ds) (x := d.act caps p x) (y := d.act caps p y) hp (act_stand hp hx od) (act_stand hp hy od) (fun e he => ok e (List.mem_cons_of_mem _ he))) (act_apart hx hy od)
/-- the law's own step -/
def stepW (caps : List Int) (p : Int) (st : List Int) : D → List Int
  | .change a b => (st.set a (at0 st b)).set b (at0 st a)
  | .pour a b =>
    let m := if at0 caps b * p < at0 st a + at0 st b then at0 caps b * p else at0 st a + at0 st b
    (st.set b m).set a (at0 st a + at0 st b - at0 (st.set b m) b)
  | .put a k => st.set a (if at0 st a + k * p < at0 caps a * p then at0 st a + k * p else at0 caps a * p)
  | .draw a k => st.set a (if at0 st a - k * p > 0 then at0 st a - k * p else 0)
theorem stepW_act {caps st : List Int} {p : Int} {d : D} (hl : st.length = caps.length) (ok : d.ok caps) : stepW caps p st d = d.act caps p st := by
  cases d with
  | pour a b =>
    obtain ⟨ha, hb, hab⟩ := ok
    simp only [stepW, D.act]
    refine ext0 (by simp) fun i hi => ?_
    have q : at0 (st.set b (if at0 caps b * p < at0 st a + at0 st b then at0 caps b * p else at0 st a + at0 st b)) b = (if at0 caps b * p < at0 st a + at0 st b then at0 caps b * p else at0 st a + at0 st b) := by
      rw [at0_set (by omega), if_pos rfl]
    rw [q, at0_set (by rw [List.length_set]; omega), at0_set (by omega), at0_set (by rw [List.length_set]; omega), at0_set (by omega)]
    by_cases e1 : b = i
    · subst e1
      rw [if_neg hab, if_pos rfl, if_pos rfl]
      split <;> split <;> omega
    · rw [if_neg e1, if_neg e1]
      by_cases e2 : a = i
      · rw [if_pos e2, if_pos e2]
        split <;> split <;> omega
      · rw [if_neg e2, if_neg e2]
  | put a k =>
    simp only [stepW, D.act]
    congr 1
    split <;> split <;> omega
  | draw a k =>
    simp only [stepW, D.act]
    congr 1
    split <;> split <;> omega
  | change a b => rfl
end Kp

/-! Kp: rows done again and again: tails and rings. No Python here. -/
namespace Kp
def it {α : Type} (f : α → α) : Nat → α → α
  | 0, x => x
  | n + 1, x => f (it f n x)
theorem it_add {α : Type} {f : α → α} {x : α} {m : Nat} : ∀ n, it f (m + n) x = it f n (it f m x)
  | 0 => rfl
  | n + 1 => congrArg f (it_add n)
/-- the tail t and the ring n of x, all stands before the first that comes again being different -/
structure Fate {α : Type} (f : α → α) (x : α) (t n : Nat) : Prop where
  pos : 1 ≤ n
  ring : it f (t + n) x = it f t x
  dist : ∀ i j, i < j → j < t + n → it f i x ≠ it f j x
theorem Fate.of_fix {α : Type} {f : α → α} {x : α} {t : Nat} (δ : α → Int) (h1 : f (it f t x) = it f t x) (h2 : ∀ i j, i < j → j ≤ t → δ (it f i x) ≠ δ (it f j x)) : Fate f x t 1 :=
  ⟨Nat.le_refl _, h1, fun i j h k e => h2 i j h (by omega) (congrArg δ e)⟩
/-- so many times a goes into d, rounded up -/
def over (a d : Int) : Int := 0 - (0 - a) / d
theorem over_lo {a d : Int} (hd : 0 < d) : a ≤ over a d * d := by
  have h1 := Int.emod_add_mul_ediv (0 - a) d
  have h2 := Int.emod_nonneg (0 - a) (show d ≠ 0 by omega)
  have h3 := Int.mul_comm ((0 - a) / d) d
  have h4 : over a d * d = 0 - ((0 - a) / d) * d := by unfold over; rw [Int.sub_mul, Int.zero_mul]
  omega
theorem over_hi {a d : Int} (hd : 0 < d) : over a d * d < a + d := by
  have h1 := Int.emod_add_mul_ediv (0 - a) d
  have h2 := Int.emod_lt_of_pos (0 - a) hd
  have h3 := Int.mul_comm ((0 - a) / d) d
  have h4 : over a d * d = 0 - ((0 - a) / d) * d := by unfold over; rw [Int.sub_mul, Int.zero_mul]
  omega
theorem over_pos {a d : Int} (hd : 0 < d) (ha : 0 ≤ a) : 0 ≤ over a d := by
  have h1 := over_lo (a := a) hd
  rcases Int.lt_or_le (over a d) 0 with h | h
  · have := Int.mul_neg_of_neg_of_pos h hd
    omega
  · exact h
/-- what falls by d each time, to nought: how much is left behind k times -/
theorem fall {α : Type} {f : α → α} {x : α} {d : Int} (δ : α → Int) (P : α → Prop) (hd : 0 < d) (p0 : P x) (ps : ∀ y, P y → P (f y)) (hs : ∀ y, P y → δ (f y) = if d < δ y then δ y - d else 0) (h0 : 0 ≤ δ x) : ∀ k : Nat, P (it f k x) ∧ δ (it f k x) = if (k : Int) * d < δ x then δ x - (k : Int) * d else 0
  | 0 => ⟨p0, by
    show δ x = if ((0 : Nat) : Int) * d < δ x then δ x - ((0 : Nat) : Int) * d else 0
    rw [show ((0 : Nat) : Int) * d = 0 from by simp]
    split <;> omega⟩
  | k + 1 => by
    obtain ⟨h1, h2⟩ := fall δ P hd p0 ps hs h0 k
    refine ⟨ps _ h1, ?_⟩
    show δ (f (it f k x)) = _
    rw [hs _ h1, h2]
    have e : ((k + 1 : Nat) : Int) * d = (k : Int) * d + d := by rw [Int.natCast_add, Int.add_mul]; simp
    rw [e]
    by_cases c : (k : Int) * d < δ x
    · rw [if_pos c]
      by_cases c2 : d < δ x - (k : Int) * d
      · rw [if_pos c2, if_pos (by omega)]
        omega
      · rw [if_neg c2, if_neg (by omega)]
    · rw [if_neg c, if_neg (by omega), if_neg (by omega)]
/-- its fate -/
theorem fall_fate {α : Type} {f : α → α} {x : α} {d : Int} (δ : α → Int) (P : α → Prop) (hd : 0 < d) (p0 : P x) (ps : ∀ y, P y → P (f y)) (hs : ∀ y, P y → δ (f y) = if d < δ y then δ y - d else 0) (h0 : 0 ≤ δ x)
    (fix : ∀ y, P y → δ y = 0 → f y = y) : Fate f x (over (δ x) d).toNat 1 := by
  have F := fall δ P hd p0 ps hs h0
  have o0 := over_pos hd h0
  have o1 := over_lo (a := δ x) hd
  have o2 := over_hi (a := δ x) hd
  have oe : (((over (δ x) d).toNat : Nat) : Int) = over (δ x) d := by omega
  refine Fate.of_fix δ (fix _ (F _).1 ?_) ?_
  · rw [(F _).2, oe, if_neg (by omega)]
  · intro i j hij hj e
    rw [(F i).2, (F j).2] at e
    have ij : (i : Int) * d + d ≤ (j : Int) * d := by
      have : ((i + 1 : Nat) : Int) * d ≤ (j : Int) * d := Int.mul_le_mul_of_nonneg_right (by omega) (by omega)
      rw [Int.natCast_add, Int.add_mul] at this
      simpa using this
    have jt : (j : Int) * d ≤ over (δ x) d * d := Int.mul_le_mul_of_nonneg_right (by omega) (by omega)
    rw [if_pos (by omega)] at e
    split at e <;> omega
/-! ### pigeons -/
theorem pigeon : ∀ (m : Nat) (l : List Nat), (∀ x ∈ l, x < m) → l.Nodup → l.length ≤ m
  | 0, [], _, _ => Nat.le_refl _
  | 0, x :: _, h, _ => absurd (h x (List.mem_cons_self ..)) (Nat.not_lt_zero _)
  | m + 1, l, h, nd => by
    have h1 : ∀ x ∈ l.erase m, x < m := fun x hx => by
      have a := h x (List.mem_of_mem_erase hx)
      have b : x ≠ m := fun z => by
        subst z
        exact (List.Nodup.not_mem_erase nd) hx
      omega
    have h2 := pigeon m (l.erase m) h1 (nd.erase _)
    by_cases c : m ∈ l
    · rw [List.length_erase_of_mem c] at h2
      omega
    · rw [List.erase_of_not_mem c] at h2
      omega
theorem it_inj {f : Nat → Nat} {m : Nat} (lt : ∀ i, i < m → f i < m) (inj : ∀ i j, i < m → j < m → f i = f j → i = j) : ∀ (k i j : Nat), i < m → j < m → it f k i = it f k j → i = j
  | 0, _, _, _, _, h => h
  | k + 1, i, j, hi, hj, h => by
    have lk : ∀ (k i : Nat), i < m → it f k i < m := fun k i hi => by
      induction k with
      | zero => exact hi
      | succ k ih => exact lt _ ih
    exact it_inj lt inj k i j hi hj (inj _ _ (lk k i hi) (lk k j hj) h)
theorem it_mul {α : Type} {f : α → α} {x : α} {p : Nat} (h : it f p x = x) : ∀ q, it f (p * q) x = x
  | 0 => rfl
  | q + 1 => by
    rw [Nat.mul_succ, it_add, it_mul h q, h]
/-- a turn of at most six places is over after sixty times -/
theorem sixty {f : Nat → Nat} {m i : Nat} (m6 : m ≤ 6) (lt : ∀ i, i < m → f i < m) (inj : ∀ i j, i < m → j < m → f i = f j → i = j) (hi : i < m) : it f 60 i = i := by
  have lk : ∀ (k : Nat), it f k i < m := fun k => by
    induction k with
    | zero => exact hi
    | succ k ih => exact lt _ ih
  have ex : ∃ a b, a < b ∧ b ≤ 6 ∧ it f a i = it f b i := by
    refine Classical.byContradiction fun no => ?_
    have nd : ((List.range 7).map fun k => it f k i).Nodup := by
      rw [List.nodup_iff_pairwise_ne, List.pairwise_map]
      refine List.Pairwise.imp_of_mem ?_ (List.pairwise_lt_range (n := 7))
      intro a b ha hb hab e
      exact no ⟨a, b, hab, by have := List.mem_range.mp hb; omega, e⟩
    have := pigeon m _ (fun x hx => by obtain ⟨k, _, rfl⟩ := List.mem_map.mp hx; exact lk k) nd
    rw [List.length_map, List.length_range] at this
    omega
  obtain ⟨a, b, hab, b6, e⟩ := ex
  have e1 : it f (b - a) i = i := by
    have : it f b i = it f a (it f (b - a) i) := by rw [← it_add, show b - a + a = b by omega]
    rw [this] at e
    exact (it_inj lt inj a i (it f (b - a) i) hi (lk _) e).symm
  have : b - a = 1 ∨ b - a = 2 ∨ b - a = 3 ∨ b - a = 4 ∨ b - a = 5 ∨ b - a = 6 := by omega
  rcases this with h | h | h | h | h | h <;> rw [h] at e1
  · exact it_mul e1 60
  · exact it_mul e1 30
  · exact it_mul e1 20
  · exact it_mul e1 15
  · exact it_mul e1 12
  · exact it_mul e1 10
end Kp

/-! Kp: the fates of three kinds of rows. No Python here. -/
namespace Kp
theorem runs_it {caps : List Int} {p : Int} {ds : List D} {st : List Int} : ∀ n, runs caps p ds n st = it (run caps p ds) n st
  | 0 => rfl
  | n + 1 => congrArg (run caps p ds) (runs_it n)
theorem over_few {a d : Int} {n : Int} (hd : 0 < d) (h : a ≤ n * d) : over a d ≤ n := by
  have h1 := over_hi (a := a) hd
  rcases Int.lt_or_le n (over a d) with c | c
  · have : (n + 1) * d ≤ over a d * d := Int.mul_le_mul_of_nonneg_right (by omega) (by omega)
    rw [Int.add_mul] at this
    omega
  · exact c
theorem over_three {a d : Int} : over (a * 3) (d * 3) = over a d := by
  unfold over
  have : (0 - a * 3) / (d * 3) = (0 - a) / d := by
    rw [show 0 - a * 3 = (0 - a) * 3 by omega, Int.mul_ediv_mul_of_pos_left _ _ (by decide)]
  rw [this]
/-- how often, at a distance -/
def tailAt (away d : Int) : Int := if away > 0 then over away d else if away ≠ 0 then 1 else 0
/-- one jar, more put in than drawn out -/
theorem up_run {S l s p x : Int} (hp : 1 ≤ p) (l0 : 0 ≤ l) (lS : l ≤ S) (s1 : 1 ≤ s) (x0 : 0 ≤ x) : run [S] p [.put 0 (l + s), .draw 0 l] [x] = [if (S - l) * p < x + s * p then (S - l) * p else x + s * p] := by
  have e1 : (l + s) * p = l * p + s * p := Int.add_mul ..
  have e2 : (S - l) * p = S * p - l * p := Int.sub_mul ..
  have h1 : 0 ≤ l * p := Int.mul_nonneg l0 (by omega)
  have h2 : l * p ≤ S * p := Int.mul_le_mul_of_nonneg_right lS (by omega)
  have h3 : 0 ≤ s * p := Int.mul_nonneg (by omega) (by omega)
  show [if 0 > (if S * p < x + (l + s) * p then S * p else x + (l + s) * p) - l * p then 0 else (if S * p < x + (l + s) * p then S * p else x + (l + s) * p) - l * p] = _
  rw [e1, e2]
  congr 1
  by_cases c : S * p < x + (l * p + s * p)
  · rw [if_pos c, if_neg (by omega), if_pos (by omega)]
  · rw [if_neg c, if_neg (by omega), if_neg (by omega)]
    omega
theorem down_run {S l s p x : Int} (hp : 1 ≤ p) (l0 : 0 ≤ l) (lS : l ≤ S) (s1 : 1 ≤ s) (x0 : 0 ≤ x) (xS : x ≤ S * p) : run [S] p [.draw 0 (l + s), .put 0 l] [x] = [if x - s * p < l * p then l * p else x - s * p] := by
  have e1 : (l + s) * p = l * p + s * p := Int.add_mul ..
  have h1 : 0 ≤ l * p := Int.mul_nonneg l0 (by omega)
  have h2 : l * p ≤ S * p := Int.mul_le_mul_of_nonneg_right lS (by omega)
  have h3 : 0 ≤ s * p := Int.mul_nonneg (by omega) (by omega)
  show [if S * p < (if 0 > x - (l + s) * p then 0 else x - (l + s) * p) + l * p then S * p else (if 0 > x - (l + s) * p then 0 else x - (l + s) * p) + l * p] = _
  rw [e1]
  congr 1
  by_cases c : 0 > x - (l * p + s * p)
  · rw [if_pos c, if_neg (by omega), if_pos (by omega)]
    omega
  · rw [if_neg c, if_neg (by omega), if_neg (by omega)]
    omega
theorem up_fate {S l s p x : Int} (hp : 1 ≤ p) (l0 : 0 ≤ l) (lS : l ≤ S) (s1 : 1 ≤ s) (x0 : 0 ≤ x) : Fate (run [S] p [.put 0 (l + s), .draw 0 l]) [x] (tailAt ((S - l) * p - x) (s * p)).toNat 1 := by
  have d0 : 0 < s * p := Int.mul_pos (by omega) (by omega)
  have G0 : 0 ≤ (S - l) * p := Int.mul_nonneg (by omega) (by omega)
  have R : ∀ x, 0 ≤ x → run [S] p [.put 0 (l + s), .draw 0 l] [x] = [if (S - l) * p < x + s * p then (S - l) * p else x + s * p] := fun x h => up_run hp l0 lS s1 h
  generalize (S - l) * p = G at R G0 ⊢
  generalize s * p = d at R d0 ⊢
  unfold tailAt
  by_cases c : G - x > 0
  · rw [if_pos c]
    exact fall_fate (fun st => G - at0 st 0) (fun st => ∃ v, st = [v] ∧ 0 ≤ v ∧ v ≤ G) d0 ⟨x, rfl, x0, by omega⟩ (by
      rintro y ⟨v, rfl, v0, vG⟩
      rw [R v v0]
      exact ⟨_, rfl, by split <;> omega, by split <;> omega⟩) (by
      rintro y ⟨v, rfl, v0, vG⟩
      rw [R v v0]
      show G - (if G < v + d then G else v + d) = if d < G - v then G - v - d else 0
      split <;> split <;> omega) (by show 0 ≤ G - x; omega) (by
      rintro y ⟨v, rfl, v0, vG⟩ e
      have e : G - v = 0 := e
      rw [R v v0]
      congr 1
      split <;> omega)
  · rw [if_neg c]
    by_cases c2 : G - x ≠ 0
    · rw [if_pos c2]
      have e1 : run [S] p [.put 0 (l + s), .draw 0 l] [x] = [G] := by
        rw [R x x0, if_pos (by omega)]
      have e2 : run [S] p [.put 0 (l + s), .draw 0 l] [G] = [G] := by
        rw [R G G0, if_pos (by omega)]
      refine Fate.of_fix (t := 1) (fun st => at0 st 0) ?_ ?_
      · show run _ _ _ (run _ _ _ [x]) = run _ _ _ [x]
        rw [e1, e2]
      · intro i j hi hj
        have h1 : i = 0 := by omega
        have h2 : j = 1 := by omega
        subst h1 h2
        show x ≠ at0 (run [S] p [.put 0 (l + s), .draw 0 l] [x]) 0
        rw [e1]
        show x ≠ G
        omega
    · rw [if_neg c2]
      have e : x = G := by omega
      subst e
      refine Fate.of_fix (t := 0) (fun st => at0 st 0) ?_ (fun i j hi hj => absurd hj (by omega))
      show run _ _ _ [x] = [x]
      rw [R x x0, if_pos (by omega)]
theorem down_fate {S l s p x : Int} (hp : 1 ≤ p) (l0 : 0 ≤ l) (lS : l ≤ S) (s1 : 1 ≤ s) (x0 : 0 ≤ x) (xS : x ≤ S * p) : Fate (run [S] p [.draw 0 (l + s), .put 0 l]) [x] (tailAt (x - l * p) (s * p)).toNat 1 := by
  have d0 : 0 < s * p := Int.mul_pos (by omega) (by omega)
  have G0 : 0 ≤ l * p := Int.mul_nonneg l0 (by omega)
  have GS : l * p ≤ S * p := Int.mul_le_mul_of_nonneg_right lS (by omega)
  have R : ∀ x, 0 ≤ x → x ≤ S * p → run [S] p [.draw 0 (l + s), .put 0 l] [x] = [if x - s * p < l * p then l * p else x - s * p] := fun x h h2 => down_run hp l0 lS s1 h h2
  generalize l * p = G at R G0 GS ⊢
  generalize s * p = d at R d0 ⊢
  generalize S * p = U at R GS xS
  unfold tailAt
  by_cases c : x - G > 0
  · rw [if_pos c]
    exact fall_fate (fun st => at0 st 0 - G) (fun st => ∃ v, st = [v] ∧ G ≤ v ∧ v ≤ U) d0 ⟨x, rfl, by omega, xS⟩ (by
      rintro y ⟨v, rfl, v0, vG⟩
      rw [R v (by omega) vG]
      exact ⟨_, rfl, by split <;> omega, by split <;> omega⟩) (by
      rintro y ⟨v, rfl, v0, vG⟩
      rw [R v (by omega) vG]
      show (if v - d < G then G else v - d) - G = if d < v - G then v - G - d else 0
      split <;> split <;> omega) (by show 0 ≤ x - G; omega) (by
      rintro y ⟨v, rfl, v0, vG⟩ e
      have e : v - G = 0 := e
      rw [R v (by omega) vG]
      congr 1
      split <;> omega)
  · rw [if_neg c]
    by_cases c2 : x - G ≠ 0
    · rw [if_pos c2]
      have e1 : run [S] p [.draw 0 (l + s), .put 0 l] [x] = [G] := by
        rw [R x x0 xS, if_pos (by omega)]
      have e2 : run [S] p [.draw 0 (l + s), .put 0 l] [G] = [G] := by
        rw [R G G0 GS, if_pos (by omega)]
      refine Fate.of_fix (t := 1) (fun st => at0 st 0) ?_ ?_
      · show run _ _ _ (run _ _ _ [x]) = run _ _ _ [x]
        rw [e1, e2]
      · intro i j hi hj
        have h1 : i = 0 := by omega
        have h2 : j = 1 := by omega
        subst h1 h2
        show x ≠ at0 (run [S] p [.draw 0 (l + s), .put 0 l] [x]) 0
        rw [e1]
        show x ≠ G
        omega
    · rw [if_neg c2]
      have e : x = G := by omega
      subst e
      refine Fate.of_fix (t := 0) (fun st => at0 st 0) ?_ (fun i j hi hj => absurd hj (by omega))
      show run _ _ _ [x] = [x]
      rw [R x x0 xS, if_pos (by omega)]
/-- two jars, the one drawn out by little and filled up from the other one -/
theorem pour_fate {W S l p x : Int} (hp : 1 ≤ p) (l1 : 1 ≤ l) (lS : l ≤ S) (x0 : 0 ≤ x) : Fate (run [W, S] p [.draw 1 l, .pour 0 1]) [x, S * p] (over (x + S * p) (l * p)).toNat 1 := by
  have d0 : 0 < l * p := Int.mul_pos (by omega) (by omega)
  have dS : l * p ≤ S * p := Int.mul_le_mul_of_nonneg_right lS (by omega)
  have R : ∀ x y, run [W, S] p [.draw 1 l, .pour 0 1] [x, y] = (let y1 := if 0 > y - l * p then 0 else y - l * p; let m := if S * p - y1 < x then S * p - y1 else x; [x - m, y1 + m]) := fun x y => rfl
  generalize l * p = d at R d0 dS ⊢
  generalize S * p = U at R dS ⊢
  refine fall_fate (fun st => at0 st 0 + at0 st 1) (fun st => ∃ x y, st = [x, y] ∧ 0 ≤ x ∧ 0 ≤ y ∧ y ≤ U ∧ (y = U ∨ x = 0)) d0 ⟨x, U, rfl, x0, by omega, Int.le_refl _, .inl rfl⟩ ?_ ?_ (by show 0 ≤ x + U; omega) ?_
  · rintro y ⟨a, b, rfl, a0, b0, bU, h⟩
    rw [R a b]
    refine ⟨_, _, rfl, ?_, ?_, ?_, ?_⟩ <;> split <;> split <;> omega
  · rintro y ⟨a, b, rfl, a0, b0, bU, h⟩
    rw [R a b]
    show (a - _) + (_ + _) = if d < a + b then a + b - d else 0
    split <;> split <;> split <;> omega
  · rintro y ⟨a, b, rfl, a0, b0, bU, h⟩ e
    have e : a + b = 0 := e
    have ea : a = 0 := by omega
    have eb : b = 0 := by omega
    subst ea eb
    have e1 : (if 0 > (0 : Int) - d then (0 : Int) else 0 - d) = 0 := if_pos (by omega)
    rw [R 0 0]
    dsimp only
    rw [e1]
    have e2 : (if U - 0 < 0 then U - 0 else (0 : Int)) = 0 := if_neg (by omega)
    rw [e2]
    rfl
/-! ### jars that are changed about -/
def swp (a b i : Nat) : Nat := if i = a then b else if i = b then a else i
def turnOf : List D → Nat → Nat
  | [], i => i
  | .change a b :: ds, i => swp a b (turnOf ds i)
  | _ :: ds, i => turnOf ds i
def D.chg (m : Nat) (d : D) : Prop := ∃ a b, d = .change a b ∧ a < m ∧ b < m
theorem swp_lt {a b i m : Nat} (ha : a < m) (hb : b < m) (hi : i < m) : swp a b i < m := by
  unfold swp
  split
  · exact hb
  · split
    · exact ha
    · exact hi
theorem swp_inj {a b i j : Nat} (h : swp a b i = swp a b j) : i = j := by
  unfold swp at h
  split at h <;> split at h <;> (try split at h) <;> (try split at h) <;> omega
theorem turn_lt {m : Nat} : ∀ {ds : List D} {i : Nat}, (∀ d ∈ ds, d.chg m) → i < m → turnOf ds i < m
  | [], i, _, hi => hi
  | d :: ds, i, h, hi => by
    obtain ⟨a, b, rfl, ha, hb⟩ := h d (List.mem_cons_self ..)
    exact swp_lt ha hb (turn_lt (fun e he => h e (List.mem_cons_of_mem _ he)) hi)
theorem turn_inj {m : Nat} : ∀ {ds : List D} {i j : Nat}, (∀ d ∈ ds, d.chg m) → turnOf ds i = turnOf ds j → i = j
  | [], i, j, _, h => h
  | d :: ds, i, j, hc, h => by
    obtain ⟨a, b, rfl, ha, hb⟩ := hc d (List.mem_cons_self ..)
    exact turn_inj (fun e he => hc e (List.mem_cons_of_mem _ he)) (swp_inj h)
theorem turn_at {caps : List Int} {p : Int} : ∀ {ds : List D} {st : List Int} {i : Nat}, (∀ d ∈ ds, d.chg st.length) → i < st.length → at0 (run caps p ds st) i = at0 st (turnOf ds i)
  | [], st, i, _, _ => rfl
  | d :: ds, st, i, h, hi => by
    obtain ⟨a, b, rfl, ha, hb⟩ := h d (List.mem_cons_self ..)
    have l1 : ((D.change a b).act caps p st).length = st.length := act_len
    have hr : ∀ d ∈ ds, d.chg st.length := fun e he => h e (List.mem_cons_of_mem _ he)
    show at0 (run caps p ds ((D.change a b).act caps p st)) i = at0 st (swp a b (turnOf ds i))
    rw [turn_at (by rw [l1]; exact hr) (by omega)]
    have ht := turn_lt hr hi
    generalize turnOf ds i = k at ht
    simp only [D.act, swp]
    rw [at0_set (by rw [List.length_set]; omega), at0_set (by omega)]
    by_cases e1 : k = a
    · by_cases e2 : k = b
      · subst e1
        subst e2
        simp
      · rw [if_pos e1, if_neg (by omega), if_pos (by omega)]
    · by_cases e2 : k = b
      · rw [if_neg e1, if_pos e2, if_pos (by omega)]
      · rw [if_neg e1, if_neg e2, if_neg (by omega), if_neg (by omega)]
theorem it_comm {α : Type} {f : α → α} {x : α} : ∀ n, it f n (f x) = f (it f n x)
  | 0 => rfl
  | n + 1 => congrArg f (it_comm n)
theorem turns_at {caps : List Int} {p : Int} {ds : List D} {st : List Int} (h : ∀ d ∈ ds, d.chg st.length) : ∀ (n : Nat) {i : Nat}, i < st.length → at0 (it (run caps p ds) n st) i = at0 st (it (turnOf ds) n i)
  | 0, i, _ => rfl
  | n + 1, i, hi => by
    have l : (it (run caps p ds) n st).length = st.length := by rw [← runs_it, runs_len]
    show at0 (run caps p ds (it (run caps p ds) n st)) i = at0 st (turnOf ds (it (turnOf ds) n i))
    rw [turn_at (by rw [l]; exact h) (by omega), turns_at h n (turn_lt h hi), it_comm]
theorem turns_back {caps : List Int} {p : Int} {ds : List D} {st : List Int} (h : ∀ d ∈ ds, d.chg st.length) (m6 : st.length ≤ 6) : it (run caps p ds) 60 st = st := by
  have l : (it (run caps p ds) 60 st).length = st.length := by rw [← runs_it, runs_len]
  refine ext0 l fun i hi => ?_
  rw [turns_at h 60 (by omega), sixty m6 (fun i hi => turn_lt h hi) (fun i j _ _ e => turn_inj h e) (by omega)]
theorem least {P : Nat → Prop} : ∀ n, P n → ∃ m, m ≤ n ∧ P m ∧ ∀ k, k < m → ¬ P k := fun n => by
  induction n using Nat.strongRecOn with
  | ind n ih =>
    intro h
    by_cases c : ∃ k, k < n ∧ P k
    · obtain ⟨k, hk, pk⟩ := c
      obtain ⟨m, h1, h2, h3⟩ := ih k hk pk
      exact ⟨m, by omega, h2, h3⟩
    · exact ⟨n, Nat.le_refl _, h, fun k hk pk => c ⟨k, hk, pk⟩⟩
theorem turn_fate {caps : List Int} {p : Int} {ds : List D} {st : List Int} (h : ∀ d ∈ ds, d.chg st.length) (m6 : st.length ≤ 6) : ∃ n, n ≤ 60 ∧ Fate (run caps p ds) st 0 n ∧ ∀ k, 1 ≤ k → k < n → it (run caps p ds) k st ≠ st := by
  have b := turns_back (caps := caps) (p := p) h m6
  obtain ⟨n, h1, ⟨h2, h3⟩, h4⟩ := least (P := fun n => 1 ≤ n ∧ it (run caps p ds) n st = st) 60 ⟨by decide, b⟩
  refine ⟨n, h1, ⟨h2, by rw [Nat.zero_add]; exact h3, fun i j hij hj e => ?_⟩, fun k k1 k2 e => h4 k k2 ⟨k1, e⟩⟩
  have e2 : it (run caps p ds) (i + (60 - i)) st = it (run caps p ds) (j + (60 - i)) st := by rw [it_add, it_add, e]
  rw [show i + (60 - i) = 60 by omega, show j + (60 - i) = 60 + (j - i) by omega, it_add, b] at e2
  exact h4 (j - i) (by omega) ⟨by omega, e2.symm⟩
end Kp

/-! Kp: small jars: how many stands there are at most, that each start has a fate, and what a fate tells. No Python here. -/
namespace Kp
theorem nodup_le {α : Type} [DecidableEq α] : ∀ (l m : List α), l.Nodup → (∀ a ∈ l, a ∈ m) → l.length ≤ m.length
  | [], m, _, _ => Nat.zero_le _
  | a :: l, m, nd, h => by
    have ha := h a (List.mem_cons_self ..)
    have nd' := List.nodup_cons.mp nd
    have := nodup_le l (m.erase a) nd'.2 (fun b hb => by
      refine (List.mem_erase_of_ne (fun z => ?_)).mpr (h b (List.mem_cons_of_mem _ hb))
      subst z
      exact nd'.1 hb)
    rw [List.length_erase_of_mem ha] at this
    have := List.length_pos_of_mem ha
    simp only [List.length_cons]
    omega
theorem fate_ex {α : Type} [DecidableEq α] {f : α → α} {x : α} (L : List α) (h : ∀ k, it f k x ∈ L) : ∃ t n, Fate f x t n ∧ t + n ≤ L.length := by
  have ex : ∃ n, n ≤ L.length ∧ ∃ i, i < n ∧ it f i x = it f n x := by
    refine Classical.byContradiction fun no => ?_
    have nd : ((List.range (L.length + 1)).map fun k => it f k x).Nodup := by
      rw [List.nodup_iff_pairwise_ne, List.pairwise_map]
      refine List.Pairwise.imp_of_mem ?_ (List.pairwise_lt_range (n := L.length + 1))
      intro a b ha hb hab e
      exact no ⟨b, by have := List.mem_range.mp hb; omega, a, hab, e⟩
    have := nodup_le _ L nd (fun a ha => by obtain ⟨k, _, rfl⟩ := List.mem_map.mp ha; exact h k)
    rw [List.length_map, List.length_range] at this
    omega
  obtain ⟨m, mL, hm⟩ := ex
  obtain ⟨c, cm, ⟨t, tc, e⟩, mn⟩ := least (P := fun n => ∃ i, i < n ∧ it f i x = it f n x) m hm
  refine ⟨t, c - t, ⟨by omega, ?_, fun i j hij hj e2 => mn j (by omega) ⟨i, hij, e2⟩⟩, by omega⟩
  rw [show t + (c - t) = c by omega]
  exact e.symm
theorem Fate.red {α : Type} {f : α → α} {x : α} {t n : Nat} (F : Fate f x t n) : ∀ k : Nat, it f (t + k) x = it f (t + k % n) x := fun k => by
  have n1 := F.pos
  induction k using Nat.strongRecOn with
  | ind k ih =>
    by_cases c : k < n
    · rw [Nat.mod_eq_of_lt c]
    · have e : it f (t + k) x = it f (t + (k - n)) x := by
        rw [show t + k = (t + n) + (k - n) by omega, it_add, F.ring, ← it_add]
      rw [e, ih (k - n) (by omega), ← Nat.mod_eq_sub_mod (by omega)]
/-- two rounds have the same stand just where they are one, or a number of rings apart behind the tail -/
theorem Fate.same {α : Type} {f : α → α} {x : α} {t n : Nat} (F : Fate f x t n) {a b : Nat} (hab : a < b) : it f a x = it f b x ↔ t ≤ a ∧ n ∣ b - a := by
  have n1 := F.pos
  constructor
  · intro e
    by_cases ta : t ≤ a
    · refine ⟨ta, ?_⟩
      have ea := F.red (a - t)
      have eb := F.red (b - t)
      rw [show t + (a - t) = a by omega] at ea
      rw [show t + (b - t) = b by omega] at eb
      have la := Nat.mod_lt (a - t) n1
      have lb := Nat.mod_lt (b - t) n1
      have m : (a - t) % n = (b - t) % n := by
        rcases Nat.lt_trichotomy ((a - t) % n) ((b - t) % n) with h | h | h
        · exact absurd (ea.symm.trans (e.trans eb)) (F.dist _ _ (by omega) (by omega))
        · exact h
        · exact absurd (eb.symm.trans (e.symm.trans ea)) (F.dist _ _ (by omega) (by omega))
      have h1 := Nat.div_add_mod (a - t) n
      have h2 := Nat.div_add_mod (b - t) n
      refine ⟨(b - t) / n - (a - t) / n, ?_⟩
      rw [Nat.mul_sub]
      omega
    · exfalso
      by_cases tb : b < t + n
      · exact F.dist a b hab tb e
      · have eb := F.red (b - t)
        rw [show t + (b - t) = b by omega] at eb
        have lb := Nat.mod_lt (b - t) n1
        exact F.dist a _ (by omega) (by omega) (e.trans eb)
  · rintro ⟨ta, q, hq⟩
    have ea := F.red (a - t)
    have eb := F.red (b - t)
    rw [show t + (a - t) = a by omega] at ea
    rw [show t + (b - t) = b by omega] at eb
    rw [ea, eb]
    have : b - t = (a - t) + n * q := by omega
    rw [this, Nat.add_mul_mod_self_left]
theorem Fate.uniq {α : Type} {f : α → α} {x : α} {t n t2 n2 : Nat} (F : Fate f x t n) (G : Fate f x t2 n2) : t = t2 ∧ n = n2 := by
  have n1 := F.pos
  have n21 := G.pos
  have a := (F.same (a := t2) (b := t2 + n2) (by omega)).mp G.ring.symm
  have b := (G.same (a := t) (b := t + n) (by omega)).mp F.ring.symm
  refine ⟨by omega, Nat.dvd_antisymm ?_ ?_⟩
  · have := a.2
    rwa [Nat.add_sub_cancel_left] at this
  · have := b.2
    rwa [Nat.add_sub_cancel_left] at this
/-! ### the stands of a few small jars -/
/-- what of x the jars that f tells i of hold -/
def gs (φ : List Nat) (x : List Int) (i : Nat) : Int := (List.zipWith (fun f v => if f = i then v else 0) φ x).sum
theorem gs0 {τ : Nat → Nat} {i : Nat} (h : ∀ f, τ f ≠ i) : ∀ {φ : List Nat} {x : List Int}, gs (φ.map τ) x i = 0
  | [], x => by simp [gs]
  | f :: φ, [] => by simp [gs]
  | f :: φ, v :: x => by
    have := gs0 (φ := φ) (x := x) h
    simp only [gs, List.map_cons, List.zipWith_cons_cons, List.sum_cons] at this ⊢
    rw [this, if_neg (h f)]
    rfl
theorem gs1 {τ : Nat → Nat} {i a : Nat} (h : ∀ f, τ f = i ↔ f = a) : ∀ {φ : List Nat} {x : List Int}, gs (φ.map τ) x i = gs φ x a
  | [], x => by simp [gs]
  | f :: φ, [] => by simp [gs]
  | f :: φ, v :: x => by
    have := gs1 (φ := φ) (x := x) h
    simp only [gs, List.map_cons, List.zipWith_cons_cons, List.sum_cons] at this ⊢
    rw [this]
    by_cases c : f = a
    · rw [if_pos c, if_pos ((h f).mpr c)]
    · rw [if_neg c, if_neg (fun z => c ((h f).mp z))]
theorem gs2 {τ : Nat → Nat} {i a b : Nat} (ab : a ≠ b) (h : ∀ f, τ f = i ↔ f = a ∨ f = b) : ∀ {φ : List Nat} {x : List Int}, gs (φ.map τ) x i = gs φ x a + gs φ x b
  | [], x => by simp [gs]
  | f :: φ, [] => by simp [gs]
  | f :: φ, v :: x => by
    have := gs2 (φ := φ) (x := x) ab h
    simp only [gs, List.map_cons, List.zipWith_cons_cons, List.sum_cons] at this ⊢
    rw [this]
    by_cases c : f = a
    · rw [if_pos ((h f).mpr (.inl c)), if_pos c, if_neg (by omega)]
      omega
    · by_cases c2 : f = b
      · rw [if_pos ((h f).mpr (.inr c2)), if_neg c, if_pos c2]
        omega
      · rw [if_neg (fun z => ((h f).mp z).elim c c2), if_neg c, if_neg c2]
        omega
/-- each jar holds what some of the start's jars held, whole jars more or less -/
structure Rep (p : Int) (m : Nat) (x st : List Int) (φ : List Nat) : Prop where
  len : st.length = m
  fl : φ.length = m
  dom : ∀ f ∈ φ, f < m ∨ f = 9
  eq : ∀ i, i < m → ∃ q, at0 st i = gs φ x i + q * p
theorem gs_id : ∀ {x : List Int} {k i : Nat}, gs ((List.range' k x.length)) x (k + i) = at0 x i
  | [], k, i => by simp [gs, at0]
  | v :: x, k, i => by
    have := fun i => gs_id (x := x) (k := k + 1) (i := i)
    simp only [gs, List.length_cons, List.range'_succ, List.zipWith_cons_cons, List.sum_cons] at this ⊢
    cases i with
    | zero =>
      simp only [Nat.add_zero]
      rw [if_pos trivial]
      have z : ∀ (x : List Int) (k j : Nat), k < j → (List.zipWith (fun f v => if f = k then v else 0) (List.range' j x.length) x).sum = 0 := by
        intro x
        induction x with
        | nil => intro k j _; simp
        | cons w x ih =>
          intro k j h
          simp only [List.length_cons, List.range'_succ, List.zipWith_cons_cons, List.sum_cons]
          rw [if_neg (by omega), ih k (j + 1) (by omega)]
          rfl
      rw [z x k (k + 1) (by omega)]
      simp [at0]
    | succ i =>
      have e := this i
      rw [show k + 1 + i = k + (i + 1) by omega] at e
      rw [e, if_neg (by omega)]
      simp [at0]
theorem Rep.start {p : Int} {x : List Int} : Rep p x.length x x (List.range' 0 x.length) :=
  ⟨rfl, List.length_range', fun f hf => by have := List.mem_range'_1.mp hf; omega, fun i hi => ⟨0, by
    have := gs_id (x := x) (k := 0) (i := i)
    rw [Nat.zero_add] at this
    rw [this]
    omega⟩⟩
theorem Rep.act {caps : List Int} {p : Int} {m : Nat} {x st : List Int} {φ : List Nat} {d : D} (m9 : m ≤ 9) (cm : caps.length = m) (ok : d.ok caps) (h : Rep p m x st φ) : ∃ φ', Rep p m x (d.act caps p st) φ' := by
  have hl := h.len
  -- one jar emptied of its group
  have drop : ∀ (a : Nat) (z q : Int), a < m → z = q * p → Rep p m x (st.set a z) (φ.map fun f => if f = a then 9 else f) := fun a z q ha hz =>
    ⟨by rw [List.length_set, hl], by rw [List.length_map, h.fl], fun f hf => by
      obtain ⟨g, hg, rfl⟩ := List.mem_map.mp hf
      by_cases c : g = a
      · rw [if_pos c]; exact .inr rfl
      · rw [if_neg c]; exact h.dom g hg, fun i hi => by
      rw [at0_set (by omega)]
      by_cases c : a = i
      · subst c
        rw [if_pos rfl, gs0 (fun f => by by_cases c : f = a <;> simp [c]; omega)]
        exact ⟨q, by omega⟩
      · rw [if_neg c, gs1 (a := i) (fun f => by by_cases c2 : f = a <;> simp [c2] <;> omega)]
        exact h.eq i hi⟩
  have keep : ∀ (a : Nat) (z q : Int), a < m → z = at0 st a + q * p → Rep p m x (st.set a z) φ := fun a z q ha hz =>
    ⟨by rw [List.length_set, hl], h.fl, h.dom, fun i hi => by
      rw [at0_set (by omega)]
      obtain ⟨r, hr⟩ := h.eq i hi
      by_cases c : a = i
      · subst c
        rw [if_pos rfl]
        exact ⟨r + q, by rw [Int.add_mul]; omega⟩
      · rw [if_neg c]
        exact ⟨r, hr⟩⟩
  have move : ∀ (a b : Nat) (za zb qa qb : Int), a < m → b < m → a ≠ b → za = qa * p → zb = at0 st a + at0 st b + qb * p → ∃ φ', Rep p m x ((st.set a za).set b zb) φ' ∧ Rep p m x ((st.set b zb).set a za) φ' := fun a b za zb qa qb ha hb hab hza hzb => by
    have dom : ∀ f ∈ (φ.map fun f => if f = a then b else f), f < m ∨ f = 9 := fun f hf => by
      obtain ⟨g, hg, rfl⟩ := List.mem_map.mp hf
      by_cases c : g = a
      · rw [if_pos c]; exact .inl hb
      · rw [if_neg c]; exact h.dom g hg
    have eq : ∀ i, i < m → ∃ q, (if b = i then zb else if a = i then za else at0 st i) = gs (φ.map fun f => if f = a then b else f) x i + q * p := fun i hi => by
      by_cases cb : b = i
      · subst cb
        rw [if_pos rfl, gs2 (a := a) (b := b) hab (fun f => by by_cases c : f = a <;> simp [c])]
        obtain ⟨r, hr⟩ := h.eq a ha
        obtain ⟨t, ht⟩ := h.eq b hb
        exact ⟨r + t + qb, by rw [Int.add_mul, Int.add_mul]; omega⟩
      · rw [if_neg cb]
        by_cases ca : a = i
        · subst ca
          rw [if_pos rfl, gs0 (fun f => by by_cases c : f = a <;> simp [c]; omega)]
          exact ⟨qa, by omega⟩
        · rw [if_neg ca, gs1 (a := i) (fun f => by by_cases c2 : f = a <;> simp [c2] <;> omega)]
          exact h.eq i hi
    refine ⟨_, ⟨by simp [hl], by simp [h.fl], dom, fun i hi => ?_⟩, ⟨by simp [hl], by simp [h.fl], dom, fun i hi => ?_⟩⟩
    · rw [at0_set (by rw [List.length_set]; omega), at0_set (by omega)]
      exact eq i hi
    · rw [at0_set (by rw [List.length_set]; omega), at0_set (by omega)]
      have := eq i hi
      by_cases ca : a = i
      · rw [if_pos ca]
        rw [if_neg (by omega), if_pos ca] at this
        exact this
      · rw [if_neg ca]
        rw [if_neg ca] at this
        exact this
  cases d with
  | put a k =>
    simp only [D.act]
    by_cases c : at0 caps a * p < at0 st a + k * p
    · rw [if_pos c]
      exact ⟨_, drop a _ (at0 caps a) (by have := ok.1; omega) rfl⟩
    · rw [if_neg c]
      exact ⟨_, keep a _ k (by have := ok.1; omega) rfl⟩
  | draw a k =>
    simp only [D.act]
    by_cases c : 0 > at0 st a - k * p
    · rw [if_pos c]
      exact ⟨_, drop a _ 0 (by have := ok.1; omega) (by omega)⟩
    · rw [if_neg c]
      exact ⟨_, keep a _ (-k) (by have := ok.1; omega) (by rw [Int.neg_mul]; omega)⟩
  | pour a b =>
    obtain ⟨ha, hb, hab⟩ := ok
    simp only [D.act]
    by_cases c : at0 caps b * p - at0 st b < at0 st a
    · rw [if_pos c]
      obtain ⟨φ', _, r⟩ := move b a (at0 st b + (at0 caps b * p - at0 st b)) (at0 st a - (at0 caps b * p - at0 st b)) (at0 caps b) (- at0 caps b) (by omega) (by omega) (Ne.symm hab) (by omega) (by rw [Int.neg_mul]; omega)
      exact ⟨φ', r⟩
    · rw [if_neg c]
      obtain ⟨φ', r, _⟩ := move a b (at0 st a - at0 st a) (at0 st b + at0 st a) 0 0 (by omega) (by omega) hab (by omega) (by omega)
      exact ⟨φ', r⟩
  | change a b =>
    obtain ⟨ha, hb, hab, _⟩ := ok
    refine ⟨φ.map (swp a b), by simp [D.act, hl], by simp [h.fl], fun f hf => ?_, fun i hi => ?_⟩
    · obtain ⟨g, hg, rfl⟩ := List.mem_map.mp hf
      unfold swp
      split
      · exact .inl (by omega)
      · split
        · exact .inl (by omega)
        · exact h.dom g hg
    · simp only [D.act]
      rw [at0_set (by rw [List.length_set]; omega), at0_set (by omega)]
      by_cases c : b = i
      · subst c
        rw [if_pos rfl, gs1 (a := a) (fun f => by unfold swp; constructor <;> (intro z; first | (split at z <;> (try split at z) <;> omega) | (subst z; simp)))]
        exact h.eq a (by omega)
      · rw [if_neg c]
        by_cases c2 : a = i
        · subst c2
          rw [if_pos rfl, gs1 (a := b) (fun f => by unfold swp; constructor <;> (intro z; first | (split at z <;> (try split at z) <;> omega) | (subst z; simp)))]
          · exact h.eq b (by omega)
        · rw [if_neg c2, gs1 (a := i) (fun f => by unfold swp; constructor <;> (intro z; first | (split at z <;> (try split at z) <;> omega) | (subst z; rw [if_neg (by omega), if_neg (by omega)])))]
          exact h.eq i hi
theorem Rep.run {caps : List Int} {p : Int} {m : Nat} {x : List Int} (m9 : m ≤ 9) (cm : caps.length = m) : ∀ {ds : List D} {st : List Int} {φ : List Nat}, (∀ d ∈ ds, d.ok caps) → Rep p m x st φ → ∃ φ', Rep p m x (run caps p ds st) φ'
  | [], st, φ, _, h => ⟨φ, h⟩
  | d :: ds, st, φ, ok, h => by
    obtain ⟨φ1, h1⟩ := h.act m9 cm (ok d (List.mem_cons_self ..))
    exact Rep.run (ds := ds) m9 cm (fun e he => ok e (List.mem_cons_of_mem _ he)) h1
/-- those that hold whole jars alone are told of no jar -/
theorem Rep.norm {p : Int} {m : Nat} {x st : List Int} {φ : List Nat} (m9 : m ≤ 9) (h : Rep p m x st φ) : ∃ φ', Rep p m x st φ' ∧ ∀ i, i < m → i ∈ φ' → gs φ' x i % p ≠ 0 := by
  have g1 : ∀ i, i < m → gs φ x i % p ≠ 0 → gs (φ.map fun f => if gs φ x f % p = 0 then 9 else f) x i = gs φ x i := fun i hi hz => by
    refine gs1 (fun f => ?_)
    by_cases c : gs φ x f % p = 0
    · rw [if_pos c]
      constructor
      · intro z; omega
      · rintro rfl; exact absurd c hz
    · rw [if_neg c]
  have g0 : ∀ i, i < m → gs φ x i % p = 0 → gs (φ.map fun f => if gs φ x f % p = 0 then 9 else f) x i = 0 := fun i hi hz => by
    refine gs0 (fun f => ?_)
    by_cases c : gs φ x f % p = 0
    · rw [if_pos c]; omega
    · rw [if_neg c]
      rintro rfl
      exact c hz
  refine ⟨φ.map fun f => if gs φ x f % p = 0 then 9 else f, ⟨h.len, by rw [List.length_map, h.fl], fun f hf => ?_, fun i hi => ?_⟩, fun i hi hm => ?_⟩
  · obtain ⟨g, hg, rfl⟩ := List.mem_map.mp hf
    by_cases c : gs φ x g % p = 0
    · rw [if_pos c]; exact .inr rfl
    · rw [if_neg c]; exact h.dom g hg
  · obtain ⟨q, hq⟩ := h.eq i hi
    by_cases c : gs φ x i % p = 0
    · rw [g0 i hi c]
      refine ⟨gs φ x i / p + q, ?_⟩
      have := Int.emod_add_mul_ediv (gs φ x i) p
      rw [Int.add_mul, Int.mul_comm (gs φ x i / p) p]
      omega
    · rw [g1 i hi c]
      exact ⟨q, hq⟩
  · obtain ⟨g, hg, e⟩ := List.mem_map.mp hm
    by_cases c : gs φ x g % p = 0
    · rw [if_pos c] at e
      omega
    · rw [if_neg c] at e
      subst e
      rw [g1 g hi c]
      exact c
/-- all lists of n of these -/
def words (A : List Nat) : Nat → List (List Nat)
  | 0 => [[]]
  | n + 1 => A.flatMap fun a => (words A n).map (a :: ·)
theorem mem_words {A : List Nat} : ∀ {n : Nat} {l : List Nat}, l.length = n → (∀ a ∈ l, a ∈ A) → l ∈ words A n
  | 0, l, h, _ => by
    obtain rfl := List.eq_nil_of_length_eq_zero h
    exact List.mem_singleton.mpr rfl
  | n + 1, [], h, _ => by cases h
  | n + 1, a :: l, h, k => List.mem_flatMap.mpr ⟨a, k a (List.mem_cons_self ..), List.mem_map.mpr ⟨l, mem_words (by simpa using h) (fun b hb => k b (List.mem_cons_of_mem _ hb)), rfl⟩⟩
/-- all lists of numbers below these -/
def prods : List Nat → List (List Nat)
  | [] => [[]]
  | b :: bs => (List.range b).flatMap fun a => (prods bs).map (a :: ·)
theorem mem_prods : ∀ {bs l : List Nat}, l.length = bs.length → (∀ (i a b : Nat), l[i]? = some a → bs[i]? = some b → a < b) → l ∈ prods bs
  | [], l, h, _ => by
    obtain rfl := List.eq_nil_of_length_eq_zero h
    exact List.mem_singleton.mpr rfl
  | b :: bs, [], h, _ => by cases h
  | b :: bs, a :: l, h, k => List.mem_flatMap.mpr ⟨a, List.mem_range.mpr (k 0 a b rfl rfl), List.mem_map.mpr ⟨l, mem_prods (by simpa using h) (fun i c d hc hd => k (i + 1) c d (by simpa using hc) (by simpa using hd)), rfl⟩⟩
def codes (m : Nat) : List (List Nat × List Nat) := (words (List.range m ++ [9]) m).flatMap fun φ => (prods ((List.range m).map fun i => if φ.contains i then 6 else 7)).map fun q => (φ, q)
def cand (p : Int) (m : Nat) (x : List Int) (c : List Nat × List Nat) : List Int := (List.range m).map fun i => ((c.2.getD i 0 : Nat) : Int) * p + gs c.1 x i % p
theorem Rep.mem {caps : List Int} {p : Int} {m : Nat} {x st : List Int} {φ : List Nat} (p1 : 1 ≤ p) (m9 : m ≤ 9) (cm : caps.length = m) (c6 : ∀ i, i < m → at0 caps i ≤ 6) (hs : Stand caps p st) (h : Rep p m x st φ) : st ∈ (codes m).map (cand p m x) := by
  obtain ⟨ψ, r, nz⟩ := h.norm m9
  have re : ∀ i, i < m → at0 st i = at0 st i / p * p + gs ψ x i % p := fun i hi => by
    obtain ⟨q, hq⟩ := r.eq i hi
    have e : at0 st i % p = gs ψ x i % p := by rw [hq, Int.add_mul_emod_self_right]
    have := Int.emod_add_mul_ediv (at0 st i) p
    rw [Int.mul_comm (at0 st i / p) p]
    omega
  have q0 : ∀ i, i < m → 0 ≤ at0 st i / p := fun i hi => Int.ediv_nonneg (hs.lo i (by omega)) (by omega)
  have q6 : ∀ i, i < m → at0 st i / p * p ≤ 6 * p - gs ψ x i % p := fun i hi => by
    have h1 := hs.hi i (by omega)
    have h2 : at0 caps i * p ≤ 6 * p := Int.mul_le_mul_of_nonneg_right (c6 i hi) (by omega)
    have := re i hi
    omega
  refine List.mem_map.mpr ⟨(ψ, (List.range m).map fun i => (at0 st i / p).toNat), List.mem_flatMap.mpr ⟨ψ, mem_words r.fl (fun f hf => ?_), List.mem_map.mpr ⟨_, mem_prods (by simp) (fun i a b ha hb => ?_), rfl⟩⟩, ?_⟩
  · rcases r.dom f hf with h | h
    · exact List.mem_append_left _ (List.mem_range.mpr h)
    · exact List.mem_append_right _ (List.mem_singleton.mpr h)
  · rw [List.getElem?_map] at ha hb
    obtain ⟨j, hj, rfl⟩ := Option.map_eq_some_iff.mp ha
    obtain ⟨k, hk, rfl⟩ := Option.map_eq_some_iff.mp hb
    obtain ⟨hi, ej⟩ := List.getElem?_eq_some_iff.mp hj
    obtain ⟨_, ek⟩ := List.getElem?_eq_some_iff.mp hk
    rw [List.getElem_range] at ej ek
    subst ej ek
    rw [List.length_range] at hi
    have a0 := q0 i hi
    have a6 := q6 i hi
    by_cases c : i ∈ ψ
    · have := nz i hi c
      have g0 := Int.emod_nonneg (gs ψ x i) (show p ≠ 0 by omega)
      rw [List.contains_iff_mem.mpr c, if_pos rfl]
      have lt : at0 st i / p < 6 := Int.lt_of_mul_lt_mul_right (a := p) (by omega) (by omega)
      omega
    · have g0 := Int.emod_nonneg (gs ψ x i) (show p ≠ 0 by omega)
      rw [if_neg (fun z => c (List.contains_iff_mem.mp z))]
      have lt : at0 st i / p ≤ 6 := Int.le_of_mul_le_mul_right (a := p) (by omega) (by omega)
      omega
  · refine (ext0 (by unfold cand; simp [h.len]) fun i hi => ?_).symm
    have hi : i < m := by rw [← h.len]; exact hi
    unfold cand
    rw [show at0 ((List.range m).map fun i => (((ψ, (List.range m).map fun i => (at0 st i / p).toNat) : List Nat × List Nat).2.getD i 0 : Nat) * p + gs (ψ, (List.range m).map fun i => (at0 st i / p).toNat).1 x i % p) i = (((List.range m).map fun i => (at0 st i / p).toNat).getD i 0 : Nat) * p + gs ψ x i % p from at0_of (by rw [List.getElem?_map, List.getElem?_range hi]; rfl)]
    rw [List.getD_eq_getElem?_getD, List.getElem?_map, List.getElem?_range hi]
    show at0 st i = ((at0 st i / p).toNat : Int) * p + _
    have := q0 i hi
    rw [show (((at0 st i / p).toNat : Nat) : Int) = at0 st i / p by omega]
    exact re i hi
theorem codes_few {m : Nat} (h : m ≤ 3) : (codes m).length ≤ 20000 := by
  have : ∀ m : Fin 4, (codes m.1).length ≤ 20000 := by decide +kernel
  exact this ⟨m, by omega⟩
theorem it_stand {caps : List Int} {p : Int} {ds : List D} (p1 : 1 ≤ p) (ok : ∀ d ∈ ds, d.ok caps) : ∀ {n : Nat} {st : List Int}, Stand caps p st → Stand caps p (it (run caps p ds) n st)
  | 0, st, h => h
  | n + 1, st, h => by
    have h1 := it_stand p1 ok (n := n) h
    show Stand caps p (run caps p ds (it (run caps p ds) n st))
    generalize it (run caps p ds) n st = st at h1
    clear h
    induction ds generalizing st with
    | nil => exact h1
    | cons d ds ih => exact ih (fun e he => ok e (List.mem_cons_of_mem _ he)) _ (act_stand p1 h1 (ok d (List.mem_cons_self ..)))
/-- each start of two or three small jars has a fate -/
theorem small_fate {caps : List Int} {p : Int} {ds : List D} {st : List Int} (p1 : 1 ≤ p) (m3 : caps.length ≤ 3) (c6 : ∀ i, i < caps.length → at0 caps i ≤ 6) (ok : ∀ d ∈ ds, d.ok caps) (hs : Stand caps p st) : ∃ t n, Fate (run caps p ds) st t n ∧ t + n ≤ 20000 := by
  have rp : ∀ k, ∃ φ, Rep p caps.length st (it (run caps p ds) k st) φ := fun k => by
    induction k with
    | zero =>
      have := Rep.start (p := p) (x := st)
      rw [hs.len] at this
      exact ⟨_, this⟩
    | succ k ih =>
      obtain ⟨φ, h⟩ := ih
      exact Rep.run (by omega) rfl ok h
  obtain ⟨t, n, F, hb⟩ := fate_ex ((codes caps.length).map (cand p caps.length st)) fun k => by
    obtain ⟨φ, h⟩ := rp k
    exact h.mem p1 (by omega) rfl c6 (it_stand p1 ok hs)
  refine ⟨t, n, F, Nat.le_trans hb ?_⟩
  rw [List.length_map]
  exact codes_few m3
end Kp

/-! Kp: a fate begun later, of rows put together, of greater jars and finer parts. No Python here. -/
namespace Kp
theorem it_semi {α β : Type} {f : α → α} {f' : β → β} {g : α → β} (hg : ∀ y, f' (g y) = g (f y)) {x : α} : ∀ k, it f' k (g x) = g (it f k x)
  | 0 => rfl
  | k + 1 => by
    show f' (it f' k (g x)) = g (f (it f k x))
    rw [it_semi hg k, hg]
theorem Fate.semi {α β : Type} {f : α → α} {f' : β → β} {g : α → β} (hg : ∀ y, f' (g y) = g (f y)) (inj : ∀ a b, g a = g b → a = b) {x : α} {t n : Nat} (F : Fate f x t n) : Fate f' (g x) t n :=
  ⟨F.pos, by rw [it_semi hg, it_semi hg, F.ring], fun i j h1 h2 e => F.dist i j h1 h2 (inj _ _ (by rw [← it_semi hg, ← it_semi hg]; exact e))⟩
theorem mulL_inj {q : Int} (hq : 0 < q) : ∀ {l m : List Int}, mulL q l = mulL q m → l = m
  | [], [], _ => rfl
  | [], _ :: _, h => by cases h
  | _ :: _, [], h => by cases h
  | a :: l, b :: m, h => by
    injection h with h1 h2
    rw [Int.eq_of_mul_eq_mul_right (by omega) h1, mulL_inj hq (l := l) (m := m) h2]
theorem Fate.wide {caps st : List Int} {p q : Int} {ds : List D} {t n : Nat} (hq : 0 < q) (F : Fate (run caps p ds) st t n) : Fate (run (mulL q caps) p (ds.map (D.sc q))) (mulL q st) t n :=
  F.semi (g := mulL q) (fun y => run_sc (m := q) (p := p) (p' := p) (q := q) (Int.mul_comm q p) hq) (fun a b => mulL_inj hq)
theorem Fate.fine {caps st : List Int} {p q : Int} {ds : List D} {t n : Nat} (hq : 0 < q) (F : Fate (run caps p ds) st t n) : Fate (run caps (p * q) ds) (mulL q st) t n :=
  F.semi (g := mulL q) (fun y => by
    have := run_sc (m := 1) (p := p) (p' := p * q) (q := q) (by omega) hq (caps := caps) (ds := ds) (st := y)
    rw [mulL_one, sc_one] at this
    exact this) (fun a b => mulL_inj hq)
theorem it_it {α : Type} {f : α → α} {x : α} {k : Nat} : ∀ i, it (it f k) i x = it f (k * i) x
  | 0 => rfl
  | i + 1 => by
    show it f k (it (it f k) i x) = _
    rw [it_it i, ← it_add, Nat.mul_succ]
/-- so many rounds as one -/
theorem Fate.many {α : Type} {f : α → α} {x : α} {t n k : Nat} (hk : 1 ≤ k) (F : Fate f x t n) : Fate (it f k) x ((t + k - 1) / k) (n / Nat.gcd n k) := by
  have n1 := F.pos
  have g1 : 0 < Nat.gcd n k := Nat.gcd_pos_of_pos_left _ n1
  have en : Nat.gcd n k * (n / Nat.gcd n k) = n := Nat.mul_div_cancel' (Nat.gcd_dvd_left n k)
  have ek : Nat.gcd n k * (k / Nat.gcd n k) = k := Nat.mul_div_cancel' (Nat.gcd_dvd_right n k)
  have pos : 1 ≤ n / Nat.gcd n k := Nat.div_pos (Nat.gcd_le_left _ n1) g1
  have hT : t ≤ k * ((t + k - 1) / k) := by
    have h1 := Nat.div_add_mod (t + k - 1) k
    have h2 := Nat.mod_lt (t + k - 1) (show k > 0 by omega)
    omega
  have lowT : ∀ i, t ≤ k * i → (t + k - 1) / k ≤ i := fun i hi => by
    have : (t + k - 1) / k < i + 1 := (Nat.div_lt_iff_lt_mul (by omega)).mpr (by
      rw [Nat.mul_comm, Nat.mul_succ]
      omega)
    omega
  refine ⟨pos, ?_, fun i j hij hj e => ?_⟩
  · rw [it_it, it_it]
    refine ((F.same ?_).mpr ⟨hT, ?_⟩).symm
    · exact Nat.mul_lt_mul_of_pos_left (by omega) (by omega)
    · rw [← Nat.mul_sub, Nat.add_sub_cancel_left]
      refine ⟨k / Nat.gcd n k, ?_⟩
      calc k * (n / Nat.gcd n k) = (Nat.gcd n k * (k / Nat.gcd n k)) * (n / Nat.gcd n k) := by rw [ek]
        _ = (Nat.gcd n k * (n / Nat.gcd n k)) * (k / Nat.gcd n k) := by rw [Nat.mul_assoc, Nat.mul_comm (k / _) (n / _), ← Nat.mul_assoc]
        _ = n * (k / Nat.gcd n k) := by rw [en]
  · rw [it_it, it_it] at e
    obtain ⟨h1, h2⟩ := (F.same (Nat.mul_lt_mul_of_pos_left hij (by omega))).mp e
    have i1 := lowT i h1
    rw [← Nat.mul_sub] at h2
    have h3 : n ∣ Nat.gcd n k * (j - i) := by
      rw [← Nat.gcd_mul_right]
      exact Nat.dvd_gcd ⟨j - i, rfl⟩ h2
    have h4 : n / Nat.gcd n k ∣ j - i := by
      have : Nat.gcd n k * (n / Nat.gcd n k) ∣ Nat.gcd n k * (j - i) := by rw [en]; exact h3
      exact Nat.dvd_of_mul_dvd_mul_left g1 this
    have := Nat.le_of_dvd (by omega) h4
    omega
/-- begun a round later -/
theorem Fate.later {α : Type} {f : α → α} {x : α} {t n : Nat} (F : Fate f x t n) : Fate f (f x) (t - 1) n := by
  have n1 := F.pos
  refine ⟨n1, ?_, fun i j hij hj e => ?_⟩
  · rw [it_comm, it_comm]
    show it f (t - 1 + n + 1) x = it f (t - 1 + 1) x
    refine ((F.same (by omega)).mpr ⟨by omega, ?_⟩).symm
    exact ⟨1, by omega⟩
  · rw [it_comm, it_comm] at e
    have := (F.same (a := i + 1) (b := j + 1) (by omega)).mp e
    have := Nat.le_of_dvd (by omega) this.2
    omega
theorem run_app2 {caps : List Int} {p : Int} {ds es : List D} {st : List Int} : run caps p (ds ++ es) st = run caps p es (run caps p ds st) := by
  unfold run
  rw [List.foldl_append]
theorem run_times {caps : List Int} {p : Int} {ds : List D} : ∀ (k : Nat) {st : List Int}, run caps p (List.replicate k ds).flatten st = it (run caps p ds) k st
  | 0, _ => rfl
  | k + 1, st => by
    rw [List.replicate_succ, List.flatten_cons, run_app2, run_times k, it_comm]
    rfl
theorem Fate.often {caps st : List Int} {p : Int} {ds : List D} {t n k : Nat} (hk : 1 ≤ k) (F : Fate (run caps p ds) st t n) : Fate (run caps p (List.replicate k ds).flatten) st ((t + k - 1) / k) (n / Nat.gcd n k) := by
  have e : run caps p (List.replicate k ds).flatten = it (run caps p ds) k := funext fun st => run_times k
  rw [e]
  exact F.many hk
end Kp

namespace KpR
open PySem PySem.Spec PyProof.Rows L2
open AutoSeq1 (wpAny_loadPart')
/-! ### xs + ys, each a list that can be read -/
theorem addMeets (l b : Addr) (xs ys : Array Value) (n m : Nat) (sl tl : Array (Option Value)) (hsz : xs.size + ys.size ≤ sizeLine) :
    Meets (Builtin.«list.__add__» ⟨[.ref l, .ref b], []⟩) (fun _ R s =>
      s.heap.get? l = some { cls := .type "list", dict := none, data := .seq xs n, slots := sl } ∧
      s.heap.get? b = some { cls := .type "list", dict := none, data := .seq ys m, slots := tl } ∧
      R (.ok (.ret (.ref s.heap.objs.size))) { s with heap := s.heap.push { cls := .type "list", data := .seq (xs ++ ys) } }) :=
  .of_wp fun prog w A R s h => by
    obtain ⟨hp, g, d, tk, os⟩ := s
    obtain ⟨e1, e2, h⟩ := h
    have z1 := AutoSeq1.idx_int
    have z2 := AutoSeq1.sub_tuple_tuple
    have z3 := AutoSeq1.sub_list_list
    have z4 := AutoSeq1.sub_tuple_list
    have z5 := AutoSeq1.sub_list_tuple
    wp_walk using wpAny_loadPart' e1, wpAny_loadPart' e2
    exact ⟨_, rfl, h⟩
theorem enumNewT (l : Addr) (its : Array Value) (n : Nat) (dct : Option Addr) (sl : Array (Option Value)) :
    Meets (Builtin.«enumerate.__new__» ⟨[.type "enumerate", .ref l], []⟩) (fun _ R s =>
      s.heap.get? l = some { cls := .type "tuple", dict := dct, data := .seq its n, slots := sl } ∧
      R (.ok (.ret (.ref (s.heap.push { cls := .type "tuple_iterator", data := .fields #[.ref l, .int 0 0] }).objs.size)))
        { s with heap := Heap.push (Heap.push s.heap { cls := .type "tuple_iterator", data := .fields #[.ref l, .int 0 0] }) { cls := .type "enumerate", data := .fields #[.none, .bool false, .ref s.heap.objs.size, rawInt 0, .none, .none] } }) :=
  .of_wp fun prog w A R s h => by
    obtain ⟨hp, g, d, tk, os⟩ := s
    obtain ⟨hl, h⟩ := h
    have hsub := sub_enumerate
    have hL : Heap.IsTuple (Shared.heap ⟨hp, g, d, tk, os⟩) l its := ⟨_, hl, rfl, n, rfl⟩
    wp_walk using wpAny_loadPart' hl
    refine wpAny_stack_any fun st => wpAny_pure ?_
    split
    · rename_i c _ _ _ _ _
      cases (c == Value.type "enumerate") <;>
        (wp_walk using wpAny_loadPart' hl, wpAny_pyIter_tuple hL
         exact ⟨_, rfl, h⟩)
    · wp_walk using wpAny_loadPart' hl, wpAny_pyIter_tuple hL
      exact ⟨_, rfl, h⟩
end KpR

namespace KpR
open PySem PySem.Spec PyProof.Rows L2
open AutoSeq1 (wpAny_loadPart')
def rCatR (K : PySem.W.Frag) : R2 := fun x y H Q => ∃ l b xs zs, x = .ref l ∧ y = .ref b ∧ SqL K H l xs ∧ SqL K H b zs ∧ xs.length + zs.length ≤ sizeLine ∧ ∀ q, H q = none → Q (.ref q) (upd H q (.lst (xs ++ zs)))
section
variable {X : Cx}
theorem op_catR : OpR X (binaryOp .Add) (rCatR X.K) := by
  intro pins s σ H x y v u Q I rx ry h
  obtain ⟨l, b, xs, zs, rfl, rfl, h1, h2, hz, q⟩ := h
  cases rx
  cases ry
  obtain ⟨its, r1, p1, _⟩ := I.list h1
  obtain ⟨jts, r2, p2, _⟩ := I.list h2
  obtain ⟨⟨c1, d1, t1, s1⟩, n1, g1, k1, k2, k3⟩ := p1
  obtain ⟨⟨c2, d2, t2, s2⟩, n2, g2, k4, k5, k6⟩ := p2
  cases k1; cases k2; cases k3; cases k4; cases k5; cases k6
  have e1 := r1.length
  have e2 := r2.length
  refine concat_meets ⟨_, g1, rfl⟩ ⟨_, g2, rfl⟩ noFill_list_add seq_list_add F.slot_list_add F.entry_list_add (F.args_list_add_2 _ _)
    (addMeets l b its.toArray jts.toArray n1 n2 s1 s2 (by rw [List.size_toArray, List.size_toArray]; omega)) ⟨g1, g2, ?_⟩
  have ea : its.toArray ++ jts.toArray = (its ++ jts).toArray := by simp
  rw [ea]
  exact ⟨.ref _, _, I.lnew (t' := s.toks) (r1.append r2) (by rw [List.length_append]; omega), rfl, q _ I.fresh⟩
end
/-! ### enumerate(tuple) -/
theorem drawsT {prog : Program} {w : World} {A : Around} (hh : A.handled = none) (it l : Addr) (hne : l ≠ it) (its : Array Value) :
    Draws prog w A it [it, l] its.size (fun i v => its[i]? = some v) (fun i h => h.IsTupleIter it l i ∧ h.IsTuple l its) where
  live := fun _ _ st => by
    obtain ⟨⟨o, ho, _⟩, _⟩ := st
    exact ⟨o, ho⟩
  frame := fun _ _ _ st kp => ⟨st.1.at fun o e => kp it (by simp) o e, st.2.at fun o e => kp l (by simp) o e⟩
  item := fun i s Q E hi st hQ => by
    refine RZ.nextOf_tuple_item st.1 st.2 (x := its[i]) (by simp [hi]) fun h1 hit1 hs1 => ?_
    exact hQ _ h1 s.toks (by simp [hi]) ⟨hit1, st.2.extBut hs1.extBut hne⟩ hs1
  done := fun s Q E st hE => RZ.nextOf_tuple_end hh st.1 st.2 (by simp) hE
section
variable {prog : Program} {w : World} {A : Around} {E : Value → Shared → Prop} {s : Shared}
theorem callEnumT {l : Addr} {its : Array Value} {Q : Value → Shared → Prop} (hL : s.heap.IsTuple l its)
    (h : ∀ h', IsEnum h' (s.heap.objs.size + 1) s.heap.objs.size 0 .none → h'.IsTupleIter s.heap.objs.size l 0 → h'.IsTuple l its →
      (∀ b o, s.heap.get? b = some o → h'.get? b = some o) → Q (.ref (s.heap.objs.size + 1)) { s with heap := h' }) :
    wpAny (model prog w) A (call (.type "enumerate") [.ref l]) Q E s := by
  obtain ⟨⟨c, dct, dt, sl⟩, hl, hc, n, hd⟩ := id hL
  cases hc
  cases hd
  refine callType_new F.called_enumerate (by decide) (F.typeCall_enumerate_1 _) (F.newCall_enumerate_1 _) (fun obj => F.args_object_init_2 obj _) F.entry_enumerate_new
    (enumNewT l its n dct sl) ⟨hl, ?_⟩
  have hz : (s.heap.push { cls := .type "tuple_iterator", data := .fields #[.ref l, .int 0 0] }).objs.size = s.heap.objs.size + 1 := Heap.size_push ..
  show _ ∧ _
  rw [hz]
  have he : IsEnum ((s.heap.push { cls := .type "tuple_iterator", data := .fields #[.ref l, .int 0 0] }).push
      { cls := .type "enumerate", data := .fields #[.none, .bool false, .ref s.heap.objs.size, rawInt 0, .none, .none] }) (s.heap.objs.size + 1) s.heap.objs.size 0 .none := by
    have q := Heap.get?_push_size (s.heap.push { cls := .type "tuple_iterator", data := .fields #[.ref l, .int 0 0] })
      (o := { cls := .type "enumerate", data := .fields #[.none, .bool false, .ref s.heap.objs.size, rawInt 0, .none, .none] }) rfl
    rw [hz] at q
    exact q
  exact ⟨⟨_, he, rfl⟩, h _ he ⟨_, Heap.get?_push_of_some _ (Heap.get?_push_size _ (by rfl)), by rfl, by rfl⟩ ((hL.push _).push _) fun b o x => Heap.get?_push_of_some _ (Heap.get?_push_of_some _ x)⟩
end
/-- the tuple at a: each item in a new pair -/
def IteT (K : PySem.W.Frag) (a : Addr) : It where
  go := fun i H => ∃ (xs : List V) (x : V), SqT K H a xs ∧ xs[i]? = some x
  yld := fun i H v H' => ∃ T x, v = .ref T ∧ H T = none ∧ H' = upd H T (.tup [.int (i : Nat), x]) ∧ ∀ xs, SqT K H a xs → xs[i]? = some x
  stop := fun i H => ∃ xs : List V, SqT K H a xs ∧ xs.length = i
theorem turnEnumT {P : Program} {w : World} {K : PySem.W.Frag} {elts : List Expr} {kk : Nat} {tpos : Pos} (a e it : Addr) :
    Turn P w K (.Tuple elts kk tpos) (IteT K a) [e, it] e (fun i h => (∃ old, IsEnum h e it ((i : Nat) : Int) old) ∧ h.IsTupleIter it a i ∧ e ≠ it ∧ a ≠ it ∧ e ≠ a) where
  mem := by simp
  obj := fun i h st b hb => by
    obtain ⟨⟨old, he⟩, ⟨o, ho, hc, hd⟩, _⟩ := st
    rcases (show b = e ∨ b = it by simpa using hb) with z | z
    · subst z
      exact ⟨_, he, fun v q => nomatch q⟩
    · subst z
      exact ⟨o, ho, fun v q => by rw [hd] at q; cases q⟩
  keep := fun i h h' st k => by
    obtain ⟨⟨old, he⟩, hi, r⟩ := st
    exact ⟨⟨old, k e (by simp) _ he⟩, hi.at fun o q => k it (by simp) o q, r⟩
  item := by
    intro X hP hw hK hc i pins s σ H E I hf st hg
    subst hP hw hK
    obtain ⟨⟨old, he⟩, hit, hne, hai, hea⟩ := st
    obtain ⟨xs, x, hq, hx⟩ := hg
    obtain ⟨its, rv, p, hz⟩ := I.tuple hq
    obtain ⟨u, hu, ru⟩ := rv.get hx
    have el : e < s.heap.objs.size := Heap.lt_size he
    have il : it < s.heap.objs.size := by
      obtain ⟨_, q, _⟩ := hit
      exact Heap.lt_size q
    have hlt : i < its.toArray.size := by
      have := (List.getElem?_eq_some_iff.mp hu).1
      simpa using this
    refine wpAny_pyNext_enum_itemD (drawsT (A := X.A.in1) (I.ok.hd hc) it a hai its.toArray) he ⟨hit, p⟩ hlt hne (by simp; exact ⟨hne, hea⟩) fun y h' tk hy ho st' hT hsz hk => ?_
    obtain rfl : y = u := by
      have q : its.toArray[i]? = some u := by simpa using hu
      rw [q] at hy
      exact (Option.some.inj hy).symm
    refine ⟨_, rfl, wpAny_letOwnedTupleGo_enum (s := { s with heap := h', toks := tk + 1 }) ho fun h2 he2 sb => ?_⟩
    have hT2 : h2.get? s.heap.objs.size = some { cls := .type "tuple", data := .seq #[.int i tk, y] } := (sb.2 _ (Nat.ne_of_gt el)).trans hT
    have new : ObjOk X.prog X.w (upd H s.heap.objs.size (.tup [.int (i : Nat), x])) h2 s.heap.objs.size (.tup [.int (i : Nat), x]) :=
      ⟨by show 2 ≤ sizeLine; decide, [.int i tk, y], .cons ⟨_, rfl⟩ (.cons ru .nil), ⟨_, hT2, rfl, _, rfl⟩⟩
    have I1 : Inv X pins σ (upd H s.heap.objs.size (.tup [.int (i : Nat), x])) { s with heap := h2, toks := tk + 1 } :=
      I.turnedNew (ch := [e, it]) (fun b ob hb q => (sb.2 b (fun z => hb (by simp [z]))).trans (hk b ob (fun z => hb (by simp [z])) (fun z => hb (by simp [z])) q)) hf (Nat.le_refl _) new
    refine ⟨.ref s.heap.objs.size, _, I1, rfl, ⟨_, x, rfl, I.hok.fresh (Nat.le_refl _), rfl, fun ys hy2 => by rw [I.tuple_inj hy2 hq]; exact hx⟩, ⟨⟨y, ?_⟩, st'.1.at fun o q => (sb.2 it (Ne.symm hne)).trans q, hne, hai, hea⟩, fun b hb => ?_⟩
    · have e1 : ((i + 1 : Nat) : Int) = (i : Int) + 1 := by omega
      rw [e1]
      exact he2
    · have hb2 : b < s.heap.objs.size := by
        rcases (show b = e ∨ b = it by simpa using hb) with z | z
        · rw [z]; exact el
        · rw [z]; exact il
      rw [upd_ne (Nat.ne_of_lt hb2)]
      exact (hf b hb).1
  done := by
    intro X hP hw hK hc i pins s σ H E I hf st hg
    subst hP hw hK
    obtain ⟨⟨old, he⟩, hit, hne, hai, hea⟩ := st
    obtain ⟨xs, hq, hx⟩ := hg
    obtain ⟨its, rv, p, hz⟩ := I.tuple hq
    obtain ⟨f0, f1, f2, f3, f4, f5⟩ := hf it (by simp)
    have hl := rv.length
    have hiEq : i = its.toArray.size := by
      rw [List.size_toArray]
      omega
    subst hiEq
    exact wpAny_pyNext_enum_endD (drawsT (A := X.A.in1) (I.ok.hd hc) it a hai its.toArray) he ⟨hit, p⟩ fun h' eb => ⟨rfl, I.turned (t' := s.toks) (fun b o hb q => eb b o hb q) f0 f1 f3 f4 f5⟩
  self := fun A i s Q E st h => by
    obtain ⟨⟨_, he⟩, _⟩ := st
    exact wpAny_pyIter_enum he h
def iEnumT (K : PySem.W.Frag) (ta : TA) : TI := fun σ H R => ta σ H fun vs H1 => ∃ a xs, vs = [.ref a] ∧ SqT K H1 a xs ∧ R (IteT K a) H1
theorem pi_enumT {X : Cx} {e : Expr} {ta : TA} {p pos tpos : Pos} {elts : List Expr} {kk : Nat} (hg : Gl X "enumerate") (hm : X.mg "enumerate" = none) (ha : PA X [e] ta) (hs : starEach [e] X.env = [(false, eval e X.env)] := by rfl) :
    PI X (.Tuple elts kk tpos) (.Call (.Name "enumerate" p) [e] [] pos) (iEnumT X.K ta) := by
  refine ⟨fun pins s σ H R I h => ?_⟩
  refine Call_ (ld_blt I hg hm boot_enumerate (PyProof.Rows.callWith_type1 (thn (ha.run pos pins s σ H _ I h) fun us s1 ⟨vs, H1, I1, r1, a, xs, ex, hq, q⟩ => ?_) hs rfl))
  subst ex
  cases r1 with
  | cons r rr =>
    cases rr
    cases r
    obtain ⟨its, rv, p1, hz⟩ := I1.tuple hq
    refine callEnumT p1 fun h1 he hit hT hk => wpAny_pyIter_enum he ?_
    have al : a < s1.heap.objs.size := by
      obtain ⟨o, ho, _⟩ := p1
      exact Heap.lt_size ho
    have I2 : Inv X pins σ H1 { s1 with heap := h1 } := I1.kept (t' := s1.toks) hk
    refine ⟨s1.heap.objs.size + 1, [s1.heap.objs.size + 1, s1.heap.objs.size], _, _, H1, rfl, I2, turnEnumT a (s1.heap.objs.size + 1) s1.heap.objs.size, ⟨⟨.none, he⟩, hit, Nat.succ_ne_self _, Nat.ne_of_lt al, Nat.ne_of_gt (Nat.lt_succ_of_lt al)⟩, fun b hb => ?_, q⟩
    have le : s1.heap.objs.size ≤ b := by
      rcases (show b = s1.heap.objs.size + 1 ∨ b = s1.heap.objs.size by simpa using hb) with z | z
      · rw [z]
        exact Nat.le_succ _
      · rw [z]
        exact Nat.le_refl _
    exact I1.fpOk le (I1.hok.fresh le)
/-- the loop's bookkeeping: the pair is a new tuple at T -/
theorem for_enumT {K : PySem.W.Frag} {a : Addr} {xs : List V} {g : TG} {tb : TS} {D : Ends} {σ : L2.St} {H : Hp} (Pv : Nat → L2.St → Hp → Prop) (h0 : Pv 0 σ H) (hl : ∀ i σ H, i ≤ xs.length → Pv i σ H → SqT K H a xs)
    (hs : ∀ i x T σ H, xs[i]? = some x → Pv i σ H → H T = none → g (.ref T) σ (upd H T (.tup [.int (i : Nat), x])) fun σ2 H2 => tb { D with nx := Pv (i + 1), ct := Pv (i + 1), bk := D.nx } σ2 H2) (hd : ∀ σ H, Pv xs.length σ H → D.nx σ H) :
    ∃ W : Nat → Nat → L2.St → Hp → Prop, (∃ m, W 0 m σ H) ∧ ∀ i m σ H, W i m σ H →
      ((IteT K a).stop i H ∧ D.nx σ H) ∨ ((IteT K a).go i H ∧ ∃ N : L2.St → Hp → Prop, (∀ σ' H', N σ' H' → ∃ m', m' < m ∧ W (i + 1) m' σ' H') ∧ ∀ x H', (IteT K a).yld i H x H' → g x σ H' fun σ2 H2 => tb { D with nx := N, ct := N, bk := D.nx } σ2 H2) := by
  refine ⟨fun i m σ H => m = xs.length - i ∧ i ≤ xs.length ∧ Pv i σ H, ⟨xs.length, by simp, Nat.zero_le _, h0⟩, ?_⟩
  rintro i m σ1 H1 ⟨rfl, hi, p⟩
  by_cases e : i = xs.length
  · subst e
    exact .inl ⟨⟨xs, hl _ _ _ hi p, rfl⟩, hd _ _ p⟩
  · have lt : i < xs.length := by omega
    have ge : xs[i]? = some xs[i] := List.getElem?_eq_getElem lt
    refine .inr ⟨⟨xs, xs[i], hl _ _ _ hi p, ge⟩, Pv (i + 1), fun σ2 H2 q => ⟨xs.length - (i + 1), by omega, rfl, by omega, q⟩, ?_⟩
    rintro x H2 ⟨T, y, rfl, hT, rfl, hy⟩
    have q := hy xs (hl _ _ _ hi p)
    exact hs i y T σ1 H1 q p hT
/-! ### f(k = v, ..): keywords alone -/
theorem pe_callN0 {X : Cx} {CX : CXT} {k : Nat} {f : Addr} {fd : FuncData} {ps ks : List Str} {sp : Sp} {E : XK} {x : Str} {p pos : Pos} {kws : List Keyword} {tk : TA} {g : List Value → List Value → List Value} {gV : List V → List V → List V}
    (F : FnOk X.prog X.w X.K X.mg X.base CX k f fd ps sp) (hr : Room k X.A) (hg : Gl X x) (hm : X.mg x = some (.ref f)) (hk : PySem.W.keepIn X.K (.ref f) = true) (hb : KBn X.K fd ps 0 ks g gV) (hx : Passes CX X E) (hkw : PK X kws tk)
    (hall : (backToKw pos (keywordEach kws X.env)).all (·.1.isSome) = true := by rfl) (hks : (backToKw pos (keywordEach kws X.env)).filterMap (·.1) = ks := by rfl) (hdb : (x == ("__debug__" : Str)) = false := by decide)
    (hpl : ((backTo pos (starEach [] X.env)).any (·.1) || (backToKw pos (keywordEach kws X.env)).any (·.1.isNone)) = false := by rfl) :
    PE X (.Call (.Name x p) [] kws pos) (tCallN 0 ks.length sp gV E tNil tk) := by
  refine ⟨fun pins s σ H Q I h => ?_⟩
  refine wpAny_Call_Name_kw (ld_glob I hg hm ?_ hdb)
  refine PySem.W.callWith_KW0 (h₀ := X.base) I.ok.mod.kin hk hall (thn (hkw.run pos pins s σ H _ I h) fun ws s2 ⟨zs, H2, I2, rz, l1, l2, q2⟩ => ⟨I2.kIn, ?_⟩) hpl
  rw [hks]
  exact run_fnN (us := []) (vs := []) F hr hb hx I2 .nil rz rfl l2 q2
/-! ### isinstance's answers -/
theorem kit_self {K : PySem.W.Frag} {t : Value} (h : (t == t) = true) : PySem.W.kitOne K t t = some true := by
  unfold PySem.W.kitOne
  rw [if_pos h]
theorem kit_cls {K : PySem.W.Frag} {A C : Addr} {b : Bool} (h1 : PySem.W.isClsIn K C = true) (h2 : PySem.W.typeIn K (.ref C) = some (.type "type")) (h3 : PySem.W.subIn K (.ref A) (.ref C) = some b) (ne : (Value.ref A == Value.ref C) = false) :
    PySem.W.kitOne K (.ref A) (.ref C) = some b := by
  unfold PySem.W.kitOne
  rw [if_neg (by rw [ne]; exact Bool.false_ne_true)]
  show (if ((PySem.W.clsIn K C).isSome && PySem.W.typeIn K (.ref C) == some (.type "type")) = true then PySem.W.subIn K (.ref A) (.ref C) else none) = some b
  have h1' : (PySem.W.clsIn K C).isSome = true := h1
  rw [h1', h2, if_pos (by rfl)]
  exact h3
/-! ### lists of things that stand in the heap -/
def A2 {α : Type} (R : V → α → Prop) : List V → List α → Prop
  | [], [] => True
  | v :: vs, d :: ds => R v d ∧ A2 R vs ds
  | _, _ => False
section
variable {α : Type} {R S : V → α → Prop}
theorem A2.len : ∀ {vs : List V} {ds : List α}, A2 R vs ds → vs.length = ds.length
  | [], [], _ => rfl
  | _ :: _, _ :: _, h => congrArg (· + 1) (A2.len h.2)
  | [], _ :: _, h => h.elim
  | _ :: _, [], h => h.elim
theorem A2.mono (f : ∀ v d, R v d → S v d) : ∀ {vs : List V} {ds : List α}, A2 R vs ds → A2 S vs ds
  | [], [], _ => trivial
  | _ :: _, _ :: _, h => ⟨f _ _ h.1, A2.mono f h.2⟩
  | [], _ :: _, h => h.elim
  | _ :: _, [], h => h.elim
theorem A2.get : ∀ {vs : List V} {ds : List α} {i : Nat} {v : V}, A2 R vs ds → vs[i]? = some v → ∃ d, ds[i]? = some d ∧ R v d
  | [], [], i, v, _, e => by simp at e
  | w :: _, d :: _, 0, v, h, e => by
    have : w = v := by simpa using e
    exact ⟨d, rfl, this ▸ h.1⟩
  | _ :: _, _ :: _, i + 1, v, h, e => by
    obtain ⟨d, e1, r⟩ := A2.get (i := i) h.2 (by simpa using e)
    exact ⟨d, by simpa using e1, r⟩
  | [], _ :: _, _, _, h, _ => h.elim
  | _ :: _, [], _, _, h, _ => h.elim
theorem A2.app : ∀ {vs ws : List V} {ds es : List α}, A2 R vs ds → A2 R ws es → A2 R (vs ++ ws) (ds ++ es)
  | [], _, [], _, _, k => k
  | _ :: _, _, _ :: _, _, h, k => ⟨h.1, A2.app h.2 k⟩
  | [], _, _ :: _, _, h, _ => h.elim
  | _ :: _, _, [], _, h, _ => h.elim
theorem A2.take : ∀ {vs : List V} {ds : List α} (n : Nat), A2 R vs ds → A2 R (vs.take n) (ds.take n)
  | vs, ds, 0, _ => by simp [A2]
  | [], [], n + 1, _ => trivial
  | _ :: _, _ :: _, n + 1, h => ⟨h.1, A2.take n h.2⟩
  | [], _ :: _, _ + 1, h => h.elim
  | _ :: _, [], _ + 1, h => h.elim
theorem A2.drop : ∀ {vs : List V} {ds : List α} (n : Nat), A2 R vs ds → A2 R (vs.drop n) (ds.drop n)
  | vs, ds, 0, h => by simpa using h
  | [], [], n + 1, _ => trivial
  | _ :: _, _ :: _, n + 1, h => A2.drop n h.2
  | [], _ :: _, _ + 1, h => h.elim
  | _ :: _, [], _ + 1, h => h.elim
end
/-! ### heaps -/
/-- all that was tracked, but what stands at w, is as it was -/
def Fr (w : Addr) (H H' : Hp) : Prop := ∀ b o, b ≠ w → H b = some o → H' b = some o
theorem Fr.refl (w : Addr) (H : Hp) : Fr w H H := fun _ _ _ h => h
theorem Fr.trans {w : Addr} {H H1 H2 : Hp} (a : Fr w H H1) (b : Fr w H1 H2) : Fr w H H2 := fun c o n h => b c o n (a c o n h)
theorem Fr.of {w : Addr} {H H1 : Hp} (a : Same H H1) : Fr w H H1 := fun b o _ h => a b o h
theorem Fr.sqL {K : PySem.W.Frag} {w : Addr} {H H' : Hp} {a : Addr} {xs : List V} (e : Fr w H H') (n : a ≠ w) (h : SqL K H a xs) : SqL K H' a xs := by
  rcases h with h | h
  · refine Or.inl ?_
    rcases h with h | ⟨o, h⟩
    · exact Or.inl (e a _ n h)
    · exact Or.inr ⟨o, e a _ n h⟩
  · exact Or.inr h
theorem Fr.sqT {K : PySem.W.Frag} {w : Addr} {H H' : Hp} {a : Addr} {xs : List V} (e : Fr w H H') (n : a ≠ w) (h : SqT K H a xs) : SqT K H' a xs := by
  rcases h with h | h
  · refine Or.inl ?_
    rcases h with h | ⟨o, h⟩
    · exact Or.inl (e a _ n h)
    · exact Or.inr ⟨o, e a _ n h⟩
  · exact Or.inr h
theorem sameT {K : PySem.W.Frag} {H H' : Hp} {a : Addr} {xs : List V} (e : Same H H') (h : SqT K H a xs) : SqT K H' a xs := by
  rcases h with h | h
  · refine Or.inl ?_
    rcases h with h | ⟨o, h⟩
    · exact Or.inl (e a _ h)
    · exact Or.inr ⟨o, e a _ h⟩
  · exact Or.inr h
theorem same_new {H : Hp} {p : Addr} {o : HO} (h : H p = none) : Same H (upd H p o) := fun b u e => by
  rw [upd_ne (ne_of_none e h)]
  exact e
theorem same_mut {H H' : Hp} {p : Addr} {o : HO} (e : Same H H') (h : H p = none) : Same H (upd H' p o) := fun b u ha => by
  rw [upd_ne (ne_of_none ha h)]
  exact e b u ha
theorem fr_mut {w : Addr} {H H' : Hp} {o : HO} (e : Fr w H H') : Fr w H (upd H' w o) := fun b u n h => by
  rw [upd_ne n]
  exact e b u n h
theorem fr_new {w : Addr} {H H' : Hp} {p : Addr} {o : HO} (e : Fr w H H') (h : H p = none) : Fr w H (upd H' p o) := fun b u n ha => by
  rw [upd_ne (ne_of_none ha h)]
  exact e b u n ha
theorem fr_free {w : Addr} {H H' : Hp} {p : Addr} (e : Fr w H H') (n : p ≠ w) (h : H' p = none) : H p = none := by
  cases z : H p with
  | none => rfl
  | some o =>
    rw [e p o n z] at h
    cases h
/-- ints as values -/
abbrev vi (l : List Int) : List V := l.map V.int
theorem vi_get {l : List Int} {i : Nat} {y : V} (h : (vi l)[i]? = some y) : ∃ z, l[i]? = some z ∧ y = .int z := by
  rw [List.getElem?_map] at h
  cases e : l[i]? with
  | none =>
    rw [e] at h
    cases h
  | some z =>
    rw [e] at h
    exact ⟨z, rfl, (Option.some.inj h).symm⟩
theorem vi_at {l : List Int} {i : Nat} (h : i < l.length) : atI (vi l) (i : Int) = some (.int (l.getD i 0)) := by
  refine atI_nat ?_
  rw [List.getElem?_map, List.getElem?_eq_getElem h, List.getD_eq_getElem?_getD, List.getElem?_eq_getElem h]
  rfl
end KpR

namespace KpR
open PySem PySem.Spec PyProof.Rows L2
def strB (es : Array DictEntry) : Bool := es.toList.all fun e => match e.key with
  | .str _ _ => true
  | _ => false
theorem strB_keys {es : Array DictEntry} (h : strB es = true) : StrKeys es := fun e he => by
  have q := List.all_eq_true.mp h e (by simpa using he)
  cases k : e.key <;> rw [k] at q <;> first | exact ⟨_, _, rfl⟩ | cases q
theorem ns_at {K : PySem.W.Frag} {h : Heap} {N : Addr} {c : Value} {d : Option Addr} {es : Array DictEntry} {m : Nat} {sl : Array (Option Value)} (X : K.In h) (l : K.lookup N = some ⟨c, d, .dict es m, sl⟩) (ok : strB es = true) :
    h.Ns N fun x => nsFind es x := ⟨_, es, m, X _ _ l, rfl, strB_keys ok, fun _ => rfl⟩
theorem find_some {K : PySem.W.Frag} {N : Addr} {c : Value} {d : Option Addr} {es : Array DictEntry} {m : Nat} {sl : Array (Option Value)} {x : Str} {v : Value} (l : K.lookup N = some ⟨c, d, .dict es m, sl⟩)
    (e : PySem.W.nsIn K N x = some (some v)) : nsFind es x = some v := by
  unfold PySem.W.nsIn at e
  rw [l] at e
  dsimp only at e
  unfold nsFind findBy
  rw [← Array.find?_toList]
  cases q : es.toList.find? (fun en => en.key.isStr x) with
  | none =>
    rw [q] at e
    dsimp only at e
    split at e <;> cases e
  | some en =>
    rw [q] at e
    cases e
    rfl
theorem find_none {K : PySem.W.Frag} {N : Addr} {c : Value} {d : Option Addr} {es : Array DictEntry} {m : Nat} {sl : Array (Option Value)} {x : Str} (l : K.lookup N = some ⟨c, d, .dict es m, sl⟩)
    (e : PySem.W.nsIn K N x = some none) : nsFind es x = none := by
  unfold PySem.W.nsIn at e
  rw [l] at e
  dsimp only at e
  unfold nsFind findBy
  rw [← Array.find?_toList]
  cases q : es.toList.find? (fun en => en.key.isStr x) with
  | none => rfl
  | some en =>
    rw [q] at e
    cases e
/-- what the written part says of such a class -/
structure NeCls (K : PySem.W.Frag) (C f : Addr) : Prop where
  ob : ∃ (nm q : Str) (N : Addr) (bs : List Value) (hd : Bool) (sn : List Str) (sub : List Value) (ab : Bool) (col : Option Bool) (dd : Option Addr) (k0 k1 k2 k3 k5 : Option Value) (nid : String),
    K.lookup C = some (excClassObj nm q C N bs [.type "object"] hd sn sub ab col dd k0 k1 k2 k3 k5 nid) ∧
    ∃ (c : Value) (d : Option Addr) (es : Array DictEntry) (m : Nat) (sl : Array (Option Value)), K.lookup N = some ⟨c, d, .dict es m, sl⟩ ∧ strB es = true ∧ PySem.W.nsIn K N "__eq__" = some (some (.ref f)) ∧ PySem.W.nsIn K N "__ne__" = some none
  fn : ∃ of : Obj, K.lookup f = some of ∧ of.cls = .type "function"
def rNeG (D : Eqv) : R2 := fun x y H Q => D x y H ∧ ∀ H', Ext H H' → Q (.bl false) H'
section
variable {X : Cx} {CX : CXT} {n : Nat} {C f : Addr} {fd : FuncData} {ps : List Str} {R : Addr → Addr → Hp → Prop} {E : XK}
theorem op_neOwn (G : FnOk X.prog X.w X.K X.mg X.base CX n f fd ps (spEq R)) (hc : NeCls X.K C f) (hb : Binds X.K fd ps []) (hx : Passes CX X E) (hr : Room (n + 1) X.A) :
    OpR X (compareOp .NotEq) (rNeG (DIns C R)) := by
  intro pins s σ H x y v u Q I rx ry hq
  obtain ⟨⟨a, b, dx, dy, fs, gs, rfl, rfl, ha, hb1, hR⟩, q⟩ := hq
  cases rx
  cases ry
  obtain ⟨mA, J, _⟩ := ins_get I.hok ha
  obtain ⟨mB, J1, _⟩ := ins_get I.hok hb1
  obtain ⟨od, J, _⟩ := J.look
  obtain ⟨od1, J1, _⟩ := J1.look
  obtain ⟨nm, qn, N, bs, hd, sn, sub, ab, col, dd, k0, k1, k2, k3, k5, nid, lC, c1, d1, es, m, sl, lN, sb, lE, lNe⟩ := hc.ob
  obtain ⟨of, lf, cf⟩ := hc.fn
  have KI := I.kIn
  obtain ⟨mN, hn, e1, e2⟩ : ∃ mN : Str → Option Value, s.heap.Ns N mN ∧ mN "__eq__" = some (.ref f) ∧ mN "__ne__" = none := ⟨_, ns_at KI lN sb, find_some lN lE, find_none lN lNe⟩
  have XX : s.heap.OwnEqNoNe a C f "object" [.type "object"] :=
    ⟨_, of, nm, qn, N, bs, hd, sn, sub, ab, col, dd, k0, k1, k2, k3, k5, nid, mN, _, J.at_, J.cls, KI _ _ lC, hn, e1, KI _ _ lf, cf, rfl, rfl, e2⟩
  have e0 := I.env0
  have sp1 : spEq R [.ref a, .ref b] H (fun v H' => v = .bl true ∧ Ext H H') E := ⟨a, b, rfl, hR, fun H' e => ⟨rfl, e⟩⟩
  have ln := G.len _ _ _ _ sp1
  have vals : Vals [V.ref a, V.ref b] [Value.ref a, Value.ref b] := .cons rfl (.cons rfl .nil)
  have hr1 : Room n X.A.in1 := hr.in1
  have f0 : Env0 X.prog X.w X.K X.mg X.base X.A.in1 X.stack s H := ⟨e0.frames, e0.mod, e0.bs, e0.bsz, e0.funs, e0.frf, e0.hok, e0.bare⟩
  have bd := hb s [.ref a, .ref b] KI (by simpa using ln)
  obtain ⟨hp, g, dr, tk, os⟩ := s
  refine compareOp_ne_ownEq F.cmp_object XX J1.at_ J1.cls (hu_of hr) ?_
  refine wpAny_call (codeAny_mono (G.run X.A.in1 X.stack _ H ⟨[.ref a, .ref b], []⟩ [.ref a, .ref b] [.ref a, .ref b] _ E hr1 f0 (by simpa using bd) vals sp1) fun r s1 hq1 => ?_)
  cases r with
  | error e => exact hx pins σ H _ e s1 I hq1
  | ok fl =>
    cases fl with
    | ret w1 =>
      obtain ⟨z, H1, I1, rz, ez, ex⟩ := I.after hq1
      subst ez
      cases rz
      exact ⟨true, rfl, .bl false, H1, I1, rfl, q H1 ex⟩
    | next => exact False.elim hq1
    | brk => exact False.elim hq1
    | cont => exact False.elim hq1
end
end KpR

namespace KpR
open PySem PySem.Spec PyProof.Rows L2
section
variable {prog : Program} {w : World} {A : Around} {E : Value → Shared → Prop} {s : Shared} {K : PySem.W.Frag} {x C f : Addr} {ox : Obj} {od : Option Obj}
theorem dec_tup {l : Addr} {its : Array Value} {n : Nat} {dd : Option Addr} {sl : Array (Option Value)} {Q : Value → Shared → Prop} (hl : s.heap.get? l = some { cls := .type "tuple", dict := dd, data := .seq its n, slots := sl })
    (hx : s.heap.get? x = some ox) (hc : ox.cls = .ref C) (hs : PySem.W.Looks (model prog w) s.heap (isSubtype (.ref C) (.type "tuple")) false) (q : Q .notImplemented s) :
    wpAny (model prog w) A (call (.builtin "tuple.__eq__") [.ref l, .ref x]) Q E s := by
  refine GQ.call_here F.slot_tuple_eq ⟨_, hl, rfl⟩ F.entry_tuple_eq (F.args_tuple_eq_2 _ _) ?_
  obtain ⟨hp, g, d, tk, os⟩ := s
  wp_walk using PySem.AutoSeq1.wpAny_loadPart' hx
  rw [hc]
  refine hs.at ?_
  wp_walk
  exact q
theorem dec_int {i : Int} {t : Tok} {Q : Value → Shared → Prop}
    (hx : s.heap.get? x = some ox) (hd : ∀ p, ox.data ≠ .prim p) (q : Q .notImplemented s) :
    wpAny (model prog w) A (call (.builtin "int.__eq__") [.int i t, .ref x]) Q E s := by
  refine GQ.call_here F.slot_int_eq (typeIs_int s i t) F.entry_int_eq (F.args_int_eq_2 _ _) ?_
  obtain ⟨hp, g, d, tk, os⟩ := s
  wp_walk using PySem.AutoSeq1.wpAny_loadPart' hx, wpAny_load hx
  split
  · rename_i i' t' e
    exact absurd e (hd _)
  · wp_walk
    exact q
theorem dec_non {Q : Value → Shared → Prop} (q : Q .notImplemented s) :
    wpAny (model prog w) A (call (.builtin "NoneType.__eq__") [.none, .ref x]) Q E s :=
  call_gives F.slot_NoneType_eq rfl F.entry_NoneType_eq (F.args_NoneType_eq_2 _ _) (SeqAt.NoneType___eq___none_ref_0 x) q
/-- a value that declines, then the own == of the other side -/
theorem rc_behind {v : Value} {T id : String} {Q : Value → Shared → Prop} (tv : s.TypeIs v T) (X : K.In s.heap) (I : PySem.W.InstAt s.heap x ox C od) (hsub : PySem.W.subIn K (.ref C) (.type T) = some false)
    (h1 : Slot T "__eq__" id) (dec : ∀ Q' : Value → Shared → Prop, Q' .notImplemented s → wpAny (model prog w) A (call (.builtin id) [v, .ref x]) Q' E s) (hs : PySem.W.findIn K (.ref C) "__eq__" = some (some (.ref f))) (hf : PySem.W.isFn K (.ref f) = true)
    (hu : A.units < cLine) (h : wpAny (model prog w) A (call (.ref f) [.ref x, v]) (PySem.W.CmpBack Q) E s) : wpAny (model prog w) A (richCompare .Eq v (.ref x)) Q E s := by
  have one : wpAny (model prog w) A (tryCompare (.ref x) "__eq__" v) (fun r s' => ∃ z, r = some z ∧ Q z s') E s := by
    unfold tryCompare
    refine wpAny_bind (PySem.W.ifBound_K X I hs hf (wpAny_mono h (fun z s' hz => ?_) fun _ _ e => e))
    cases z with
    | notImplemented => exact False.elim hz
    | _ => exact wpAny_pure ⟨_, rfl, hz⟩
  have nz : (Value.type T != Value.ref C) = true := rfl
  simp only [richCompare, cmpInfo_Eq, tv.oneThing_none]
  refine wpAny_holding (wpAny_bind (wpAny_cRoomFor hu ?_))
  refine wpAny_bind (wpAny_typeOf tv (wpAny_bind (I.type.here ?_)))
  rw [if_pos nz]
  refine wpAny_bind ((PySem.W.looks_subIn X hsub).here ?_)
  rw [if_neg Bool.false_ne_true]
  refine wpAny_bind (m := tryCompare v _ (.ref x)) (wpAny_tryCompare_declines tv h1 (dec _ ⟨rfl, ?_⟩))
  rw [if_pos (show (!false) = true from rfl)]
  refine wpAny_bind (m := tryCompare (.ref x) _ v) (wpAny_mono one (fun r s' z => ?_) fun _ _ e => e)
  obtain ⟨z, rfl, hq⟩ := z
  exact wpAny_pure hq
end
/-- an own == that answers b where R says so, and only makes objects -/
def spEqB (R : Addr → V → Bool → Hp → Prop) : Sp := fun vs H Q _ => ∃ a y b, vs = [.ref a, y] ∧ R a y b H ∧ ∀ H', Ext H H' → Q (.bl b) H'
/-- either answer, by the abstract heap -/
abbrev EqvB := V → V → Bool → Hp → Prop
def EqB (X : Cx) (n : Nat) (D : EqvB) : Prop :=
  ∀ (B : Around) (pins : List (Addr × Obj)) (s : Shared) (σ : L2.St) (H : Hp) (x y : V) (b : Bool) (u v : Value), Sub X n B → Inv X pins σ H s → RelV x u → RelV y v → D x y b H →
    wpAny (model X.prog X.w) B (eqBool u v) (fun r s' => r = b ∧ LoopI X pins σ H s') X.xe s
def RcB (X : Cx) (n : Nat) (D : EqvB) : Prop :=
  ∀ (B : Around) (pins : List (Addr × Obj)) (s : Shared) (σ : L2.St) (H : Hp) (x y : V) (b : Bool) (u v : Value), Sub X n B → Inv X pins σ H s → RelV x u → RelV y v → D x y b H →
    wpAny (model X.prog X.w) B (richCompare .Eq u v) (fun r s' => r = .bool b ∧ LoopI X pins σ H s') X.xe s
/-- what the written part says of a class with an own == -/
structure EqCls (K : PySem.W.Frag) (C f : Addr) : Prop where
  hs : PySem.W.findIn K (.ref C) "__eq__" = some (some (.ref f))
  hf : PySem.W.isFn K (.ref f) = true
/-- both are instances, the second of no class below the first one's -/
def DInsB (K : PySem.W.Frag) (C : Addr) (R : Addr → V → Bool → Hp → Prop) : EqvB := fun x y b H => ∃ a c C' dx dy fs gs, x = .ref a ∧ y = .ref c ∧ H a = some (.ins C dx fs) ∧ H c = some (.ins C' dy gs) ∧ PySem.W.notFirst K C (.ref C') = true ∧ R a (.ref c) b H
/-- the first one is none of the class -/
inductive Alien (K : PySem.W.Frag) (C : Addr) (H : Hp) : V → Prop
  | non (h : PySem.W.subIn K (.ref C) (.type "NoneType") = some false) : Alien K C H .non
  | int {i : Int} (h : PySem.W.subIn K (.ref C) (.type "int") = some false) : Alien K C H (.int i)
  | tup {a : Addr} {xs : List V} (h : PySem.W.subIn K (.ref C) (.type "tuple") = some false) (e : H a = some (.tup xs)) : Alien K C H (.ref a)
  | lst {a : Addr} {xs : List V} (h : PySem.W.subIn K (.ref C) (.type "list") = some false) (e : H a = some (.lst xs)) : Alien K C H (.ref a)
def DBehB (K : PySem.W.Frag) (C : Addr) (R : Addr → V → Bool → Hp → Prop) : EqvB := fun x y b H => ∃ a dx fs, y = .ref a ∧ H a = some (.ins C dx fs) ∧ Alien K C H x ∧ R a x b H
section
variable {prog : Program} {w : World} {A : Around} {E : Value → Shared → Prop} {s : Shared} {x C : Addr} {ox : Obj}
theorem dec_lst {l : Addr} {its : Array Value} {n : Nat} {dd : Option Addr} {sl : Array (Option Value)} {Q : Value → Shared → Prop} (hl : s.heap.get? l = some { cls := .type "list", dict := dd, data := .seq its n, slots := sl })
    (hx : s.heap.get? x = some ox) (hc : ox.cls = .ref C) (hs : PySem.W.Looks (model prog w) s.heap (isSubtype (.ref C) (.type "list")) false) (q : Q .notImplemented s) :
    wpAny (model prog w) A (call (.builtin "list.__eq__") [.ref l, .ref x]) Q E s := by
  refine GQ.call_here F.slot_list_eq ⟨_, hl, rfl⟩ F.entry_list_eq (F.args_list_eq_2 _ _) ?_
  obtain ⟨hp, g, d, tk, os⟩ := s
  wp_walk using PySem.AutoSeq1.wpAny_loadPart' hx
  rw [hc]
  refine hs.at ?_
  wp_walk
  exact q
end
section
variable {X : Cx} {CX : CXT} {n : Nat} {C f : Addr} {fd : FuncData} {ps : List Str} {R : Addr → V → Bool → Hp → Prop} {E : XK} {pins : List (Addr × Obj)} {σ : L2.St} {H : Hp} {s : Shared} {B : Around}
theorem own_runB (G : FnOk X.prog X.w X.K X.mg X.base CX n f fd ps (spEqB R)) (hb : Binds X.K fd ps []) (hx : Passes CX X E) (sb : Sub X n B) (I : Inv X pins σ H s) {a : Addr} {y : V} {v : Value} {b : Bool} (ry : RelV y v) (hr : R a y b H) :
    wpAny (model X.prog X.w) B (call (.ref f) [.ref a, v]) (PySem.W.CmpBack fun r s' => r = .bool b ∧ LoopI X pins σ H s') X.xe s := by
  have sp1 : spEqB R [.ref a, y] H (fun z H' => z = .bl b ∧ Ext H H') E := ⟨a, y, b, rfl, hr, fun H' e => ⟨rfl, e⟩⟩
  have e0 := I.env0
  have ln := G.len _ _ _ _ sp1
  have vals : Vals [V.ref a, y] [Value.ref a, v] := .cons rfl (.cons ry .nil)
  have f0 : Env0 X.prog X.w X.K X.mg X.base B X.stack s H := ⟨by rw [sb.fr]; exact e0.frames, e0.mod, e0.bs, e0.bsz, e0.funs, e0.frf, e0.hok, e0.bare⟩
  have bd := hb s [.ref a, v] I.kIn (by simpa using ln)
  refine wpAny_call (codeAny_mono (G.run B X.stack s H ⟨[.ref a, v], []⟩ [.ref a, v] [.ref a, y] _ E sb.room f0 (by simpa using bd) vals sp1) fun r s1 hq1 => ?_)
  cases r with
  | error e => exact hx pins σ H s e s1 I hq1
  | ok fl =>
    cases fl with
    | ret w1 =>
      obtain ⟨z, H1, I1, rz, ez, ex⟩ := I.after hq1
      subst ez
      cases rz
      exact ⟨rfl, H1, I1, ex⟩
    | next => exact False.elim hq1
    | brk => exact False.elim hq1
    | cont => exact False.elim hq1
theorem rcB_ins (hc : EqCls X.K C f) (G : FnOk X.prog X.w X.K X.mg X.base CX n f fd ps (spEqB R)) (hb : Binds X.K fd ps []) (hx : Passes CX X E) : RcB X n (DInsB X.K C R) := by
  intro B pins s σ H x y b u v sb I rx ry hd
  obtain ⟨a, c, C', dx, dy, fs, gs, rfl, rfl, ha, hc1, nf, hr⟩ := hd
  cases rx
  cases ry
  obtain ⟨mA, J, _⟩ := ins_get I.hok ha
  obtain ⟨mC, J1, _⟩ := ins_get I.hok hc1
  obtain ⟨od, J, _⟩ := J.look
  obtain ⟨od1, J1, _⟩ := J1.look
  obtain ⟨m, hF⟩ := I.fr
  exact PySem.W.cmp_K (op := .Eq) (tb := .ref C') sb.room.units0 hF I.ok.mod.kin J J1.type nf hc.hs hc.hf (own_runB (y := .ref c) (v := .ref c) G hb hx sb I rfl hr)
theorem rcB_beh (hc : EqCls X.K C f) (G : FnOk X.prog X.w X.K X.mg X.base CX n f fd ps (spEqB R)) (hb : Binds X.K fd ps []) (hx : Passes CX X E) : RcB X n (DBehB X.K C R) := by
  intro B pins s σ H x y b u v sb I rx ry hd
  obtain ⟨a, dx, fs, rfl, ha, al, hr⟩ := hd
  cases ry
  obtain ⟨mA, J, _⟩ := ins_get I.hok ha
  obtain ⟨od, J, _⟩ := J.look
  have go := fun {v : Value} (rv : RelV x v) => own_runB G hb hx sb I rv hr
  cases al with
  | non h =>
    cases (show u = Value.none from rx)
    exact rc_behind rfl I.kIn J h F.slot_NoneType_eq (fun _ q => dec_non q) hc.hs hc.hf sb.room.units0 (go rfl)
  | int h =>
    obtain ⟨t, e⟩ := (show ∃ t, u = Value.int _ t from rx)
    cases e
    exact rc_behind (typeIs_int s _ t) I.kIn J h F.slot_int_eq (fun _ q => dec_int J.at_ (fun _ z => nomatch z) q) hc.hs hc.hf sb.room.units0 (go ⟨t, rfl⟩)
  | tup h e =>
    cases (show u = Value.ref _ from rx)
    obtain ⟨its, r, ⟨⟨cl, dd, dt, sl⟩, e1, e2, k, e3⟩, _⟩ := I.tuple (SqT.of e)
    simp only at e2 e3
    subst e2 e3
    exact rc_behind ⟨_, e1, rfl⟩ I.kIn J h F.slot_tuple_eq (fun _ q => dec_tup e1 J.at_ rfl (PySem.W.looks_subIn I.kIn h) q) hc.hs hc.hf sb.room.units0 (go rfl)
  | lst h e =>
    cases (show u = Value.ref _ from rx)
    obtain ⟨z, its, k, r, e1⟩ := I.hok _ _ e
    exact rc_behind ⟨_, e1, rfl⟩ I.kIn J h F.slot_list_eq (fun _ q => dec_lst e1 J.at_ rfl (PySem.W.looks_subIn I.kIn h) q) hc.hs hc.hf sb.room.units0 (go rfl)
end
section
variable {X : Cx} {n m : Nat} {D D' : EqvB}
theorem RcB.or (h : RcB X n D) (h' : RcB X n D') : RcB X n (fun x y b H => D x y b H ∨ D' x y b H) := fun B pins s σ H x y b u v sb I rx ry d =>
  d.elim (h B pins s σ H x y b u v sb I rx ry) (h' B pins s σ H x y b u v sb I rx ry)
theorem EqB.or (h : EqB X n D) (h' : EqB X n D') : EqB X n (fun x y b H => D x y b H ∨ D' x y b H) := fun B pins s σ H x y b u v sb I rx ry d =>
  d.elim (h B pins s σ H x y b u v sb I rx ry) (h' B pins s σ H x y b u v sb I rx ry)
theorem RcB.mono (h : RcB X n D) (k : n ≤ m) : RcB X m D := fun B pins s σ H x y b u v sb => h B pins s σ H x y b u v (sb.mono k)
/-- inside a list or a tuple: the same object is itself -/
theorem RcB.eqB (h : RcB X n D) (hr : ∀ x y b H, D x y b H → (∃ c, x = .ref c ∧ ∃ a, y = .ref a ∧ (c = a → b = true)) ∨ ((x = .non ∨ ∃ i, x = .int i) ∧ ∃ a, y = .ref a)) : EqB X n D := by
  intro B pins s σ H x y b u v sb I rx ry d
  have go : u ≠ v → (∀ p q, ¬ (u = .float p q)) → wpAny (model X.prog X.w) B (eqBool u v) (fun r s' => r = b ∧ LoopI X pins σ H s') X.xe s := by
    intro ne nf
    unfold eqBool
    refine wpAny_holding ?_
    refine wpAny_ite_split (fun e => absurd (eq_of_beq e) ne) (fun _ => ?_)
    have k := h B pins s σ H x y b u v sb I rx ry d
    have k2 : wpAny (model X.prog X.w) B (do truthOfDropped (← richCompare .Eq u v)) (fun r s' => r = b ∧ LoopI X pins σ H s') X.xe s := by
      refine wpAny_bind (wpAny_mono k (fun z s' q => ?_) fun _ _ e => e)
      obtain ⟨rfl, q⟩ := q
      exact wpAny_truthy_bool ⟨rfl, q⟩
    cases u with
    | float p q => exact absurd rfl (nf p q)
    | _ => exact k2
  rcases hr x y b H d with ⟨c, rfl, a, rfl, q⟩ | ⟨hx, a, rfl⟩
  · cases (show u = Value.ref c from rx)
    cases (show v = Value.ref a from ry)
    by_cases e : c = a
    · have eb := q e
      subst e
      subst eb
      exact SeqAt.EqAt.same (A := B) (s := s) (.ref c) X.prog X.w X.xe _ ⟨rfl, H, I, Ext.rfl'⟩
    · exact go (fun z => e (Value.ref.inj z)) (fun _ _ z => nomatch z)
  · cases (show v = Value.ref a from ry)
    rcases hx with rfl | ⟨i, rfl⟩
    · cases (show u = Value.none from rx)
      exact go (fun z => nomatch z) (fun _ _ z => nomatch z)
    · obtain ⟨t, e⟩ := (show ∃ t, u = Value.int i t from rx)
      cases e
      exact go (fun z => nomatch z) (fun _ _ z => nomatch z)
/-- x == y -/
def rEqB (D : EqvB) : R2 := fun x y H Q => ∃ b, D x y b H ∧ ∀ H', Ext H H' → Q (.bl b) H'
theorem op_eqB (h : RcB X n D) (hr : Room n X.A) : OpR X (compareOp .Eq) (rEqB D) := by
  intro pins s σ H x y v u Q I rx ry hq
  obtain ⟨b, d, q⟩ := hq
  show wpAny (model X.prog X.w) X.A (richCompare .Eq v u) (EP X pins σ Q) X.xe s
  refine wpAny_mono (h X.A pins s σ H x y b v u ⟨hr, rfl⟩ I rx ry d) (fun r s1 z => ?_) fun _ _ e => e
  obtain ⟨rfl, H1, I1, e⟩ := z
  exact ⟨.bl b, H1, I1, rfl, q H1 e⟩
/-- x in a list none of whose items is equal to it -/
def rOutB (D : EqvB) : R2 := fun x y H Q => ∃ l ys, y = .ref l ∧ (∀ H', Ext H H' → H' l = some (.lst ys)) ∧ (∀ z, z ∈ ys → ∀ H', Ext H H' → D z x false H') ∧ ∀ H', Ext H H' → Q (.bl false) H'
theorem has_none (h : EqB X n D) {B : Around} (sb : Sub X (n + 1) B) {pins : List (Addr × Obj)} {σ : L2.St} {H : Hp} {x : V} {v : Value} {l : Addr} {ys : List V} (rx : RelV x v) (hl : ∀ H', Ext H H' → H' l = some (.lst ys)) (hd : ∀ z, z ∈ ys → ∀ H', Ext H H' → D z x false H')
    {Q : Value → Shared → Prop} (fin : ∀ s', LoopI X pins σ H s' → Q (.bool false) s') (k : Nat) : ∀ i : Nat, ys.length - i = k → ∀ s, LoopI X pins σ H s →
      wpAny (model X.prog X.w) B.in1 (Builtin.«list.__contains__.loop» ⟨[.ref l, v, rawInt i], []⟩) (GQ.FinOf X.prog X.w B (wants Q X.xe)) (fun e s' => wants Q X.xe (.error e) s') s := by
  induction k with
  | zero =>
    intro i hi s hs
    obtain ⟨H1, I1, e1⟩ := id hs
    obtain ⟨z, its, kk, r, eo⟩ := I1.hok _ _ (hl H1 e1)
    have out := fin s hs
    have no : its.toArray[((i : Nat) : Int).toNat]? = none := by
      have q := r.length
      simp
      omega
    obtain ⟨hp, g, d, tk, os⟩ := s
    wp_walk using PySem.AutoSeq1.wpAny_loadPart' eo
    rw [no]
    wp_walk
    exact out
  | succ k ih =>
    intro i hi s hs
    obtain ⟨H1, I1, e1⟩ := id hs
    obtain ⟨z, its, kk, r, eo⟩ := I1.hok _ _ (hl H1 e1)
    have lt : i < ys.length := by omega
    have lt2 : i < its.length := by rw [← r.length] <;> exact lt
    have so : its.toArray[((i : Nat) : Int).toNat]? = some its[i] := by simp [lt2]
    obtain ⟨u, hu, ru⟩ := r.get (List.getElem?_eq_getElem lt)
    have eu : its[i] = u := by
      rw [List.getElem?_eq_getElem lt2] at hu
      exact Option.some.inj hu
    have turn := h B.in1 pins s σ H1 _ x false u v sb.in1 I1 ru rx (hd _ (List.getElem_mem lt) H1 e1)
    obtain ⟨hp, g, d, tk, os⟩ := s
    wp_walk using PySem.AutoSeq1.wpAny_loadPart' eo
    rw [so, eu]
    refine wpAny_bind (wpAny_mono turn (fun rr s2 q => ?_) fun _ _ e => e)
    obtain ⟨rfl, H2, I2, e2⟩ := q
    have next := ih (i + 1) (by omega) s2 ⟨H2, I2, e1.trans e2⟩
    have up : ((i : Int) + 1) = ((i + 1 : Nat) : Int) := by omega
    obtain ⟨hp2, g2, d2, tk2, os2⟩ := s2
    wp_walk
    rw [up]
    exact ⟨plainId_quiet MeetsSeq.plain_contains_loop _, codeAny_builtin MeetsSeq.entry_contains_loop (by
      rw [Around.under_plainId MeetsSeq.plain_contains_loop _]
      exact next)⟩
theorem op_outB (h : EqB X n D) (hr : Room (n + 1) X.A) : OpR X (compareOp .In) (rOutB D) := by
  intro pins s σ H x y v u Q I rx ry hq
  obtain ⟨l, ys, rfl, hl, hd, q⟩ := hq
  cases (show u = Value.ref l from ry)
  obtain ⟨z, its, kk, r, eo⟩ := I.hok _ _ (hl H Ext.rfl')
  show wpAny (model X.prog X.w) X.A (do return .bool (← contains (.ref l) v)) (EP X pins σ Q) X.xe s
  have end_ : ∀ s', LoopI X pins σ H s' → EP X pins σ Q (.bool false) s' := fun s' ⟨H1, I1, e1⟩ => ⟨.bl false, H1, I1, rfl, q H1 e1⟩
  have run := has_none (B := X.A) h ⟨hr, rfl⟩ rx hl hd (Q := fun r s' => r = .bool false ∧ LoopI X pins σ H s') (fun s' z => ⟨rfl, z⟩) _ 0 rfl s ⟨H, I, Ext.rfl'⟩
  refine wpAny_bind (wpAny_contains_slot (id := "list.__contains__") ⟨_, eo, rfl⟩ F.slot_list_contains (wpAny_mono (GQ.call_here (Q := fun r s' => r = .bool false ∧ LoopI X pins σ H s') F.slot_list_contains ⟨_, eo, rfl⟩ F.entry_list_contains (F.args_list_contains_2 _ _) ?_) (fun r s' z => ?_) fun _ _ e => e))
  · obtain ⟨hp, g, d, tk, os⟩ := s
    wp_walk
    exact ⟨plainId_quiet MeetsSeq.plain_contains_loop _, codeAny_builtin MeetsSeq.entry_contains_loop (by
      rw [Around.under_plainId MeetsSeq.plain_contains_loop _]
      exact run)⟩
  · obtain ⟨rfl, z⟩ := z
    exact wpAny_truthy_bool (wpAny_pure (end_ s' z))
end
end KpR

namespace KpR
open PySem PySem.Spec PyProof.Rows L2
/-- a callee of which nothing comes -/
theorem passF {X : Cx} : Passes (L2.CX X.prog X.w) X (fun _ _ _ => False) := fun _ _ _ _ _ _ _ ⟨_, _, _, _, _, _, _, _, _, _, _, _, z⟩ => z.elim
/-- what a callee in a try's body may raise: whatever the locals are -/
def anyL (n : Nat) (W : WX) : XK := fun cls d H => ∀ σ : L2.St, σ.length = n → W cls d σ H
theorem passL {X : Cx} {W : WX} {n : Nat} (tk : Takes X W) (hn : X.N.length = n) : Passes (L2.CX X.prog X.w) X (anyL n W) := fun _ σ _ _ e s' I c => tk e s' (XE.of_call I (fun _ _ _ h => h σ (by rw [← hn] <;> exact I.len)) c)
/-- a call by keywords of a def without defaults -/
theorem kbOf {K : PySem.W.Frag} {fd : FuncData} {ps ks : List Str} {n : Nat} {g : List Value → List Value → List Value} {gV : List V → List V → List V}
    (h : ∀ us ws : List Value, us.length = n → ws.length = ks.length → bindArgs fd ⟨us, ks.zip ws⟩ = pure (ps.zip (g us ws))) (r : ∀ {vs : List V} {us : List Value} {zs : List V} {ws : List Value}, Vals vs us → Vals zs ws → Vals (gV vs zs) (g us ws)) : KBn K fd ps n ks g gV :=
  ⟨fun s us ws _ l1 l2 => .of_eq (h us ws l1 l2), r⟩
/-- a builtin's type against an own class -/
theorem kit_tc {K : PySem.W.Frag} {T : String} {C : Addr} {b : Bool} (h1 : PySem.W.isClsIn K C = true) (h2 : PySem.W.typeIn K (.ref C) = some (.type "type")) (h3 : PySem.W.subIn K (.type T) (.ref C) = some b) : PySem.W.kitOne K (.type T) (.ref C) = some b := by
  have ne : ¬ (Value.type T == Value.ref C) = true := fun z => nomatch eq_of_beq z
  unfold PySem.W.kitOne
  rw [if_neg ne]
  show (if ((PySem.W.clsIn K C).isSome && PySem.W.typeIn K (.ref C) == some (.type "type")) = true then PySem.W.subIn K (.type T) (.ref C) else none) = some b
  rw [show (PySem.W.clsIn K C).isSome = true from h1, h2, if_pos (by rfl)]
  exact h3
/-- the first clause takes it -/
def wFst (K : PySem.W.Frag) (c : Value) (i : Nat) (tz : Addr → Value → Option Addr → TS) (D : Ends) : WX := fun cls d σ H =>
  PySem.W.exmOne K cls c = some true ∧ ∀ a, H a = none → tz a cls d ⟨fun τ G => D.nx (τ.set i none) G, D.rt, fun τ G => D.bk (τ.set i none) G, fun τ G => D.ct (τ.set i none) G⟩ (σ.set i (some (.ref a))) H
section
variable {X : Cx} {x n : Str} {c : Value} {i : Nat} {body rest : List Stmt} {z₀ : Stmt} {more : List ExceptHandler} {pn pt pw : Pos} {tb : WX → TS} {tz : Addr → Value → Option Addr → TS}
theorem ps_try_fst (st : X.stack = X.env :: X.outer) (fr : X.env.frame = some X.env.locals) (nd : X.N.Nodup) (at_ : X.N[i]? = some n) (lo : X.env.kindOf n = some .local) (nm : Names X x c)
    (bd : ∀ (W : WX) (qn : List (Addr × Obj)) (xe : Value → Shared → Prop), Takes (X.tr qn xe) W → PassesOwn (model X.prog X.w) X.A X.env xe → PSs (X.tr qn xe) body (tb W))
    (su : ∀ (e : Addr) (oe : Obj) (cls : Value) (d : Option Addr) (qn : List (Addr × Obj)), Zc cls d oe → (∃ fs, oe.data = .fields fs) → PSs (X.suite e ((e, oe) :: qn)) (z₀ :: rest) (tz e cls d)) :
    PS X (.Try body (.ExceptHandler (some (.Name x pn)) (some n) (z₀ :: rest) pw :: more) [] [] pt) (fun D σ H => tb (wFst X.K c i tz D) D σ H) := by
  refine ⟨fun pins s σ H D I hyp => ?_⟩
  have okX := I.ok
  have afr : X.A.frames = some (X.env :: X.outer) := by rw [okX.frames, st]
  have lcl : Loc X.env.scope n := .inl lo
  let hs := ExceptHandler.ExceptHandler (some (.Name x pn)) (some n) (z₀ :: rest) pw :: more
  refine wpAny_Try_except ?_
  refine wpAny_mono ((bd (wFst X.K c i tz D) (X.pn ++ pins) (fun e t1 => wpAny (model X.prog X.w) X.A (noteFrame e X.env) (fun _ t2 => wpAny (model X.prog X.w) X.A (setFlight e none) (fun _ t3 =>
    wpAny (model X.prog X.w) X.A (handleBy e X.env hs) (SP X pins D) X.xe t3) X.xe t2) X.xe t1) (fun u t air => ?_) PassesOwn.looking).run [] s σ H D (I.toTry _) hyp) (fun f t done => ?_) (fun _ _ air => air)
  · obtain ⟨e, G, sI, pq, τ, H1, cls, d, rfl, J0, near, upS, sky0, free, osE, bare, hit, go⟩ := air
    have J : Inv X pins τ H1 sI := J0.ofTry okX
    have sky : Sky G (X.env :: X.outer) e (Zc cls d) X.env.locals t.heap := by rw [← st] <;> exact sky0
    show wpAny (model X.prog X.w) X.A (noteFrame (.ref e) X.env) _ _ _
    refine Sky.land Zc.steady afr fr sky fun hp1 fly1 up1 => ?_
    have J1 : Inv X pins τ H1 { t with heap := hp1 } := J.landed near fly1.1 (upS.trans up1) osE bare
    obtain ⟨o1, fs1, at1, z1, dat1⟩ := fly1.there
    have off : e ∉ frs (X.env :: X.outer) := fun mem => by
      obtain ⟨_, o2, at2, no2⟩ := fly1.2.2.1.mem mem
      have q : o1 = o2 := Option.some.inj (at1.symm.trans at2)
      subst q
      exact no2 _ dat1
    have offL : e ≠ X.env.locals := fun q => off (List.mem_filterMap.mpr ⟨X.env, List.mem_cons_self, by rw [fr, q]⟩)
    have offF : e ∉ X.fs := fun mem => by
      obtain ⟨y, hy, q⟩ := List.mem_filterMap.mp mem
      exact off (List.mem_filterMap.mpr ⟨y, List.mem_cons_of_mem _ hy, q⟩)
    have S1 := J1.suite at1 dat1 free offL offF
    refine wpAny_handleBy_cons (codeAny_handlers_test ?_) (fun q => nomatch q)
    have ty : PySem.W.Looks (model X.prog X.w) hp1 (typeOf (.ref e)) cls := fun A Q E s k q => wpAny_typeOf_ref (k _ _ at1) (by rw [z1.1] <;> exact q)
    have mt := PySem.W.exm_one (M := model X.prog X.w) (J1.kIn) ty hit
    have look : ∀ {Q : Value → Shared → Prop} {E : Value → Shared → Prop}, Q c { t with heap := hp1 } → wpAny (model X.prog X.w) (X.A.mark (some (.ref e))) (eval (.Name x pn) X.env) Q E { t with heap := hp1 } := fun {Q E} q => by
      obtain ⟨gl, nd2, own | ⟨none_, boot, nn⟩⟩ := nm
      · exact ld_glob (X := X.suite e ((e, o1) :: (X.pn ++ pins))) S1 gl own q nd2
      · exact ld_blt (X := X.suite e ((e, o1) :: (X.pn ++ pins))) S1 gl none_ boot q nn nd2
    refine look (mt.here ?_)
    refine codeAny_handlers_suite_as ?_
    refine HandSPX.lands_againZ fly1 fun hp2 fly2 up2 => ?_
    have J2 : Inv X pins τ H1 { t with heap := hp2 } := J.landed near fly2.1 ((upS.trans up1).trans up2) osE bare
    obtain ⟨o2, fs2, at2, z2, dat2⟩ := fly2.there
    have S2 := J2.suite at2 dat2 free offL offF
    refine store_ok (X := X.suite e ((e, o2) :: (X.pn ++ pins))) (v := .ref e) S2 nd at_ lcl rfl (fun t2 S3 => ?_) (.inr lo)
    refine wpAny_mono ((su e o2 cls d (X.pn ++ pins) z2 ⟨_, dat2⟩).run [] t2 _ H1 _ S3 (go e free)) (fun f t3 out => ?_) (fun _ _ q => False.elim q)
    have fin : ∀ {τ1 : L2.St} {H2 : Hp} {R : Shared → Prop}, Inv (X.suite e ((e, o2) :: (X.pn ++ pins))) [] τ1 H2 t3 → (∀ t4, Inv X pins (τ1.set i none) H2 t4 → R t4) →
        wpAny (model X.prog X.w) X.A (do bindName X.env n .none; unbindBehindTheSuite X.env n pw) (fun _ t4 => R t4) X.xe t3 := fun {τ1 H2 R} S4 q => gone_ok (S4.unsuite okX) nd at_ lo q
    match f, out with
    | .next, ⟨_, _, S4, q⟩ => exact fin S4 fun _ J4 => ⟨_, _, J4, q⟩
    | .brk, ⟨_, _, S4, q⟩ => exact fin S4 fun _ J4 => ⟨_, _, J4, q⟩
    | .cont, ⟨_, _, S4, q⟩ => exact fin S4 fun _ J4 => ⟨_, _, J4, q⟩
    | .ret u, ⟨_, _, _, S4, ru, q⟩ => exact fin S4 fun _ J4 => ⟨_, _, _, J4, ru, q⟩
  · match f, done with
    | .next, ⟨_, _, J4, q⟩ => exact wpAny_execs_nil ⟨_, _, J4.ofTry okX, q⟩
    | .brk, ⟨_, _, J4, q⟩ => exact ⟨_, _, J4.ofTry okX, q⟩
    | .cont, ⟨_, _, J4, q⟩ => exact ⟨_, _, J4.ofTry okX, q⟩
    | .ret u, ⟨_, _, _, J4, ru, q⟩ => exact ⟨_, _, _, J4.ofTry okX, ru, q⟩
end
/-- what the written part says of a class with an own == and the != of object, anywhere below object -/
structure NeK (K : PySem.W.Frag) (C f : Addr) : Prop where
  hn : PySem.W.findIn K (.ref C) "__ne__" = some (some (.builtin "object.__ne__"))
  hm : PySem.W.mroIn K C (.type "object") = some true
  hs : PySem.W.findIn K (.ref C) "__eq__" = some (some (.ref f))
  hf : PySem.W.isFn K (.ref f) = true
section
variable {prog : Program} {w : World} {A : Around} {E : Value → Shared → Prop} {s : Shared} {K : PySem.W.Frag} {x y C f : Addr} {ox oy : Obj} {od : Option Obj}
theorem objNe_own {Q : Fin → Shared → Prop} (X : K.In s.heap) (I : PySem.W.InstAt s.heap x ox C od) (c : NeK K C f) (hu : A.units < cLine)
    (h : wpAny (model prog w) A (call (.ref f) [.ref x, .ref y]) (fun v s1 => ∃ b, v = .bool b ∧ Q (.done (.ret (.bool (!b)))) s1) E s) : wpAny (model prog w) A (Builtin.«object.__ne__» ⟨[.ref x, .ref y], []⟩) Q E s := by
  have one : wpAny (model prog w) A (callSpecialIfBound? (.ref x) "__eq__" [.ref y]) (fun r s1 => ∃ b, r = some (.bool b) ∧ Q (.done (.ret (.bool (!b)))) s1) E s :=
    PySem.W.ifBound_K X I c.hs c.hf (wpAny_mono h (fun v s1 ⟨b, e, q⟩ => ⟨b, congrArg some e, q⟩) fun _ _ e => e)
  obtain ⟨hp, g, d, tk, os⟩ := s
  unfold Builtin.«object.__ne__»
  repeat (first
    | with_reducible refine wpAny_cRoomFor hu ?_
    | (refine wpAny_bind (m := callSpecialIfBound? (.ref x) (Str.ofString "__eq__") [.ref y]) (wpAny_mono one (fun r s1 hr => by
          obtain ⟨b, rfl, hq⟩ := hr
          repeat (first | exact hq | exact wpAny_pure hq | exact wpAny_truthy_bool hq | (refine wpAny_bind (m := truthy (.bool _)) (wpAny_truthy_bool ?_)) | wp_step)) fun _ _ e => e))
    | wp_step)
theorem call_objNe {Q : Value → Shared → Prop} (X : K.In s.heap) (I : PySem.W.InstAt s.heap x ox C od) (c : NeK K C f) (hu : A.in1.units < cLine)
    (h : wpAny (model prog w) A.in1 (call (.ref f) [.ref x, .ref y]) (fun v s1 => ∃ b, v = .bool b ∧ Q (.bool (!b)) s1) E s) : wpAny (model prog w) A (call (.builtin "object.__ne__") [.ref x, .ref y]) Q E s :=
  wpAny_call (codeAny_call_builtin F.cmp_object.ne.plain F.cmpEntry_ne (PySem.W.check_slot F.cmpKind_ne F.cmpSplit_ne (I.type.andThen (PySem.W.looks_mroIn X c.hm)) (F.cmpArgs_ne _ _) (objNe_own X I c hu h)))
theorem rc_neK {Q : Value → Shared → Prop} (X : K.In s.heap) (I : PySem.W.InstAt s.heap x ox C od) (c : NeK K C f) (hy : s.heap.get? y = some oy) (cy : oy.cls = .ref C) (hu : A.units + 1 < cLine)
    (h : wpAny (model prog w) A.in1 (call (.ref f) [.ref x, .ref y]) (fun v s1 => ∃ b, v = .bool b ∧ Q (.bool (!b)) s1) E s) : wpAny (model prog w) A (richCompare .NotEq (.ref x) (.ref y)) Q E s := by
  have hu0 : A.units < cLine := Nat.lt_of_succ_lt hu
  have run : wpAny (model prog w) A (callSpecialIfBound? (.ref x) "__ne__" [.ref y]) (fun r s1 => ∃ b, r = some (.bool b) ∧ Q (.bool b) s1) E s := by
    simp only [callSpecialIfBound?, bindSpecialIfBound?]
    refine wpAny_holding (wpAny_bind (wpAny_bind (wpAny_bind (I.type.here ((PySem.W.looks_findIn X c.hn).here ?_)))))
    refine wpAny_bind (wpAny_askSetting (wpAny_ite ?_))
    have fin : wpAny (model prog w) A (call (.builtin "object.__ne__") ([.ref x] ++ [.ref y]) >>= fun v => pure (some v)) (fun r s1 => ∃ b, r = some (.bool b) ∧ Q (.bool b) s1) E s :=
      wpAny_bind (wpAny_mono (call_objNe (Q := fun v s1 => ∃ b, v = .bool b ∧ Q (.bool b) s1) X I c hu (wpAny_mono h (fun v s1 ⟨b, e, q⟩ => ⟨b, e, _, rfl, q⟩) fun _ _ e => e)) (fun v s1 ⟨b, e, q⟩ => wpAny_pure ⟨b, congrArg some e, q⟩) fun _ _ e => e)
    split
    · exact wpAny_bind (wpAny_of_eq (F.cmp_object.ne.bind _) (wpAny_pure (by exact fin)))
    · exact wpAny_tryCatch (wpAny_bind (wpAny_of_eq (F.cmp_object.ne.bind _) (wpAny_pure (by exact fin))))
  have one : wpAny (model prog w) A (tryCompare (.ref x) "__ne__" (.ref y)) (fun r s1 => ∃ b, r = some (.bool b) ∧ Q (.bool b) s1) E s := by
    unfold tryCompare
    refine wpAny_bind (wpAny_mono run (fun r s1 z => ?_) fun _ _ e => e)
    obtain ⟨b, rfl, q⟩ := z
    exact wpAny_pure ⟨b, rfl, q⟩
  unfold richCompare
  simp only [oneThing_ref]
  refine wpAny_holding (wpAny_bind (wpAny_cRoomFor hu0 ?_))
  rw [cmpInfo_NotEq]
  dsimp only
  refine wpAny_bind (I.type.here (wpAny_bind (wpAny_typeOf_ref hy ?_)))
  rw [cy, show (Value.ref C != Value.ref C) = false from by simp]
  simp only [Bool.false_eq_true, if_false]
  refine wpAny_bind (wpAny_pure ?_)
  simp only [Bool.false_eq_true, if_false]
  refine wpAny_bind (wpAny_mono one (fun r s1 z => ?_) fun _ _ e => e)
  obtain ⟨b, rfl, q⟩ := z
  exact wpAny_pure q
end
section
variable {X : Cx} {CX : CXT} {n : Nat} {C f : Addr} {fd : FuncData} {ps : List Str} {R : Addr → V → Bool → Hp → Prop} {E : XK}
/-- x != y of two instances of one such class -/
def rNeK (C : Addr) (R : Addr → V → Bool → Hp → Prop) : R2 := fun x y H Q => ∃ a c b dx dy fs gs, x = .ref a ∧ y = .ref c ∧ H a = some (.ins C dx fs) ∧ H c = some (.ins C dy gs) ∧ R a (.ref c) b H ∧ ∀ H', Ext H H' → Q (.bl (!b)) H'
theorem op_neK (G : FnOk X.prog X.w X.K X.mg X.base CX n f fd ps (spEqB R)) (hc : NeK X.K C f) (hb : Binds X.K fd ps []) (hx : Passes CX X E) (hr : Room (n + 1) X.A) : OpR X (compareOp .NotEq) (rNeK C R) := by
  intro pins s σ H x y v u Q I rx ry hq
  obtain ⟨a, c, b, dx, dy, fs, gs, rfl, rfl, ha, hc1, hR, q⟩ := hq
  cases rx
  cases ry
  obtain ⟨mA, J, _⟩ := ins_get I.hok ha
  obtain ⟨mC, J1, _⟩ := ins_get I.hok hc1
  obtain ⟨od, J, _⟩ := J.look
  obtain ⟨od1, J1, _⟩ := J1.look
  have r1 : Room n X.A.in1 := hr.in1
  have go := own_runB (B := X.A.in1) (y := .ref c) (v := .ref c) G hb hx ⟨r1, rfl⟩ I rfl hR
  show wpAny (model X.prog X.w) X.A (richCompare .NotEq (.ref a) (.ref c)) (EP X pins σ Q) X.xe s
  refine rc_neK I.kIn J hc J1.at_ J1.cls (hu_of hr) (wpAny_mono go (fun r s1 z => ?_) fun _ _ e => e)
  cases r with
  | notImplemented => exact False.elim z
  | bool b' =>
    obtain ⟨e, H1, I1, ex⟩ := z
    cases e
    exact ⟨_, rfl, .bl _, H1, I1, rfl, q H1 ex⟩
  | _ => exact (nomatch z.1)
end
end KpR

namespace KpR
open PySem PySem.Spec PyProof.Rows L2
/-- clause by clause: class, the name's slot, the suite's reading; at the end: what is asked where none takes it -/
def wNam (K : PySem.W.Frag) (Wend : WX) (D : Ends) : List (Value × Nat × (Addr → Value → Option Addr → TS)) → WX
  | [] => Wend
  | (c, i, tz) :: r => fun cls d σ H => ∃ b, PySem.W.exmOne K cls c = some b ∧
    (b = true → ∀ a, H a = none → tz a cls d ⟨fun τ G => D.nx (τ.set i none) G, D.rt, fun τ G => D.bk (τ.set i none) G, fun τ G => D.ct (τ.set i none) G⟩ (σ.set i (some (.ref a))) H) ∧ (b = false → wNam K Wend D r cls d σ H)
/-- the clauses that are looked at; more: those behind them, that are never looked at (Wend is then False) -/
inductive NamOk (X : Cx) (more : List ExceptHandler) : List ExceptHandler → List (Value × Nat × (Addr → Value → Option Addr → TS)) → Prop
  | nil : NamOk X more more []
  | cons {x n : Str} {c : Value} {i : Nat} {tz : Addr → Value → Option Addr → TS} {z₀ : Stmt} {rest : List Stmt} {pn pw : Pos} {hs : List ExceptHandler} {l : List (Value × Nat × (Addr → Value → Option Addr → TS))}
      (at_ : X.N[i]? = some n) (lo : X.env.kindOf n = some .local) (nm : Names X x c)
      (su : ∀ (e : Addr) (oe : Obj) (cls : Value) (d : Option Addr) (qn : List (Addr × Obj)), Zc cls d oe → (∃ fs, oe.data = .fields fs) → PSs (X.suite e ((e, oe) :: qn)) (z₀ :: rest) (tz e cls d)) (r : NamOk X more hs l) :
      NamOk X more (.ExceptHandler (some (.Name x pn)) (some n) (z₀ :: rest) pw :: hs) ((c, i, tz) :: l)
section
variable {X : Cx} {body : List Stmt} {more : List ExceptHandler} {h₀ : ExceptHandler} {hds : List ExceptHandler} {l : List (Value × Nat × (Addr → Value → Option Addr → TS))} {pt : Pos} {tb : WX → TS}
theorem ps_try_nam (st : X.stack = X.env :: X.outer) (fr : X.env.frame = some X.env.locals) (nd : X.N.Nodup)
    (bd : ∀ (W : WX) (qn : List (Addr × Obj)) (xe : Value → Shared → Prop), Takes (X.tr qn xe) W → PassesOwn (model X.prog X.w) X.A X.env xe → PSs (X.tr qn xe) body (tb W))
    (hk : NamOk X more (h₀ :: hds) l) : PS X (.Try body (h₀ :: hds) [] [] pt) (fun D σ H => tb (wNam X.K (fun _ _ _ _ => False) D l) D σ H) := by
  refine ⟨fun pins s σ H D I hyp => ?_⟩
  have okX := I.ok
  have afr : X.A.frames = some (X.env :: X.outer) := by rw [okX.frames, st]
  refine wpAny_Try_except ?_
  refine wpAny_mono ((bd (wNam X.K (fun _ _ _ _ => False) D l) (X.pn ++ pins) (fun e t1 => wpAny (model X.prog X.w) X.A (noteFrame e X.env) (fun _ t2 => wpAny (model X.prog X.w) X.A (setFlight e none) (fun _ t3 =>
    wpAny (model X.prog X.w) X.A (handleBy e X.env (h₀ :: hds)) (SP X pins D) X.xe t3) X.xe t2) X.xe t1) (fun u t air => ?_) PassesOwn.looking).run [] s σ H D (I.toTry _) hyp) (fun f t done => ?_) (fun _ _ air => air)
  · obtain ⟨e, G, sI, pq, τ, H1, cls, d, rfl, J0, near, upS, sky0, free, osE, bare, want⟩ := air
    have J : Inv X pins τ H1 sI := J0.ofTry okX
    have sky : Sky G (X.env :: X.outer) e (Zc cls d) X.env.locals t.heap := by rw [← st] <;> exact sky0
    show wpAny (model X.prog X.w) X.A (noteFrame (.ref e) X.env) _ _ _
    refine Sky.land Zc.steady afr fr sky fun hp1 fly1 up1 => ?_
    have J1 : Inv X pins τ H1 { t with heap := hp1 } := J.landed near fly1.1 (upS.trans up1) osE bare
    obtain ⟨o1, fs1, at1, z1, dat1⟩ := fly1.there
    have off : e ∉ frs (X.env :: X.outer) := fun mem => by
      obtain ⟨_, o2, at2, no2⟩ := fly1.2.2.1.mem mem
      have q : o1 = o2 := Option.some.inj (at1.symm.trans at2)
      subst q
      exact no2 _ dat1
    have offL : e ≠ X.env.locals := fun q => off (List.mem_filterMap.mpr ⟨X.env, List.mem_cons_self, by rw [fr, q]⟩)
    have offF : e ∉ X.fs := fun mem => by
      obtain ⟨y, hy, q⟩ := List.mem_filterMap.mp mem
      exact off (List.mem_filterMap.mpr ⟨y, List.mem_cons_of_mem _ hy, q⟩)
    have S1 := J1.suite at1 dat1 free offL offF
    have ty : PySem.W.Looks (model X.prog X.w) hp1 (typeOf (.ref e)) cls := fun A Q E s k q => wpAny_typeOf_ref (k _ _ at1) (by rw [z1.1] <;> exact q)
    have each : ∀ {hs : List ExceptHandler} {l' : List (Value × Nat × (Addr → Value → Option Addr → TS))}, NamOk X more hs l' → wNam X.K (fun _ _ _ _ => False) D l' cls d τ H1 →
        wpAny (model X.prog X.w) X.A (handleBy (.ref e) X.env hs) (SP X pins D) X.xe { t with heap := hp1 } := by
      intro hs l' ok
      induction ok with
      | nil => exact fun w => w.elim
      | @cons x n c i tz z₀ rest pn pw hs2 l2 at_ lo nm su r ih =>
        rintro ⟨b, hit, go, on⟩
        have lcl : Loc X.env.scope n := .inl lo
        refine wpAny_handleBy_cons (codeAny_handlers_test ?_) (fun q => nomatch q)
        have mt := PySem.W.exm_one (M := model X.prog X.w) (J1.kIn) ty hit
        have look : ∀ {Q : Value → Shared → Prop} {E : Value → Shared → Prop}, Q c { t with heap := hp1 } → wpAny (model X.prog X.w) (X.A.mark (some (.ref e))) (eval (.Name x pn) X.env) Q E { t with heap := hp1 } := fun {Q E} q => by
          obtain ⟨gl, nd2, own | ⟨none_, boot, nn⟩⟩ := nm
          · exact ld_glob (X := X.suite e ((e, o1) :: (X.pn ++ pins))) S1 gl own q nd2
          · exact ld_blt (X := X.suite e ((e, o1) :: (X.pn ++ pins))) S1 gl none_ boot q nn nd2
        refine look (mt.here ?_)
        cases b with
        | false =>
          show wpAny _ X.A (handleBy (.ref e) X.env hs2) _ _ _
          exact ih (on rfl)
        | true =>
          refine codeAny_handlers_suite_as ?_
          refine HandSPX.lands_againZ fly1 fun hp2 fly2 up2 => ?_
          have J2 : Inv X pins τ H1 { t with heap := hp2 } := J.landed near fly2.1 ((upS.trans up1).trans up2) osE bare
          obtain ⟨o2, fs2, at2, z2, dat2⟩ := fly2.there
          have S2 := J2.suite at2 dat2 free offL offF
          refine store_ok (X := X.suite e ((e, o2) :: (X.pn ++ pins))) (v := .ref e) S2 nd at_ lcl rfl (fun t2 S3 => ?_) (.inr lo)
          refine wpAny_mono ((su e o2 cls d (X.pn ++ pins) z2 ⟨_, dat2⟩).run [] t2 _ H1 _ S3 (go rfl e free)) (fun f t3 out => ?_) (fun _ _ q => False.elim q)
          have fin : ∀ {τ1 : L2.St} {H2 : Hp} {R : Shared → Prop}, Inv (X.suite e ((e, o2) :: (X.pn ++ pins))) [] τ1 H2 t3 → (∀ t4, Inv X pins (τ1.set i none) H2 t4 → R t4) →
              wpAny (model X.prog X.w) X.A (do bindName X.env n .none; unbindBehindTheSuite X.env n pw) (fun _ t4 => R t4) X.xe t3 := fun {τ1 H2 R} S4 q => gone_ok (S4.unsuite okX) nd at_ lo q
          match f, out with
          | .next, ⟨_, _, S4, q⟩ => exact fin S4 fun _ J4 => ⟨_, _, J4, q⟩
          | .brk, ⟨_, _, S4, q⟩ => exact fin S4 fun _ J4 => ⟨_, _, J4, q⟩
          | .cont, ⟨_, _, S4, q⟩ => exact fin S4 fun _ J4 => ⟨_, _, J4, q⟩
          | .ret u, ⟨_, _, _, S4, ru, q⟩ => exact fin S4 fun _ J4 => ⟨_, _, _, J4, ru, q⟩
    exact each hk want
  · match f, done with
    | .next, ⟨_, _, J4, q⟩ => exact wpAny_execs_nil ⟨_, _, J4.ofTry okX, q⟩
    | .brk, ⟨_, _, J4, q⟩ => exact ⟨_, _, J4.ofTry okX, q⟩
    | .cont, ⟨_, _, J4, q⟩ => exact ⟨_, _, J4.ofTry okX, q⟩
    | .ret u, ⟨_, _, _, J4, ru, q⟩ => exact ⟨_, _, _, J4.ofTry okX, ru, q⟩
end
end KpR

namespace KpR
open PySem PySem.Spec PyProof.Rows L2
open PySem.AutoSeq1 (wpAny_loadPart')
section
variable {prog : Program} {w : World} {A : Around} {R : Result → Shared → Prop}
/-- up to the first pair that is unlike -/
theorem tup_either (l b : Addr) (us vs : Array Value) (n n2 : Nat) (dd dd2 : Option Addr) (sl sl2 : Array (Option Value)) (ans : Nat → Bool) (J : Shared → Prop)
    (turn : ∀ i (h1 : i < us.size) (h2 : i < vs.size) s, J s → wpAny (model prog w) A.in1 (eqBool us[i] vs[i]) (fun r s' => r = ans i ∧ J s') (fun e s' => R (.error e) s') s)
    (no : ∀ i, i < us.size → i < vs.size → ans i = false → ∀ s, J s → R (.ok (.ret (.bool false))) s)
    (fin : (∀ i, i < us.size → i < vs.size → ans i = true) → ∀ s, J s → R (.ok (.ret (.bool (us.size == vs.size)))) s) {s : Shared}
    (hl : s.heap.get? l = some { cls := .type "tuple", dict := dd, data := .seq us n, slots := sl }) (hb : s.heap.get? b = some { cls := .type "tuple", dict := dd2, data := .seq vs n2, slots := sl2 }) (h : J s) :
    wpAny (model prog w) A.in1 (Builtin.«tuple.__eq__» ⟨[.ref l, .ref b], []⟩) (GQ.FinOf prog w A R) (fun e s' => R (.error e) s') s := by
  have f2 := AutoSeq1.sub_tuple_tuple
  have zl : (us.toList.zip vs.toList).length = min us.size vs.size := by simp
  have h0 := h
  obtain ⟨hp, g, d, tk, os⟩ := s
  wp_walk using wpAny_loadPart' hl, wpAny_loadPart' hb, wpAny_forIn_list _ (fun rest q s' => q.1 = none ∧ J s' ∧ ∃ i, rest = (us.toList.zip vs.toList).drop i ∧ i ≤ min us.size vs.size ∧ ∀ j, j < i → ans j = true) _
  case turn =>
    rintro ⟨y, x⟩ rest q s' ⟨hq, hJ, i, hz, hi, before⟩
    have lt : i < (us.toList.zip vs.toList).length := by
      rcases Nat.lt_or_ge i (us.toList.zip vs.toList).length with c | c
      · exact c
      · rw [List.drop_of_length_le c] at hz
        cases hz
    have lm := Nat.lt_min.mp (zl ▸ lt)
    rw [List.drop_eq_getElem_cons lt] at hz
    injection hz with hp1 hrest
    have ey : y = us[i]'lm.1 := by simpa using congrArg Prod.fst hp1
    have ex : x = vs[i]'lm.2 := by simpa using congrArg Prod.snd hp1
    subst ey ex
    refine wpAny_bind (wpAny_mono (turn i lm.1 lm.2 s' hJ) (fun r s2 z => ?_) fun _ _ e => e)
    obtain ⟨rfl, J2⟩ := z
    cases c : ans i with
    | true =>
      wp_walk
      refine ⟨rfl, J2, i + 1, hrest, Nat.lt_min.mpr lm, fun j hj => ?_⟩
      by_cases e : j = i
      · rw [e]
        exact c
      · exact before j (by omega)
    | false =>
      have out := no i lm.1 lm.2 c s2 J2
      wp_walk
      exact out
  case fin =>
    rintro ⟨q1, q2⟩ s' ⟨hq, hJ, i, hz, hi, before⟩
    simp only at hq
    subst hq
    have ge : min us.size vs.size ≤ i := by
      rcases Nat.lt_or_ge i (us.toList.zip vs.toList).length with c | c
      · rw [List.drop_eq_getElem_cons c] at hz
        cases hz
      · exact zl ▸ c
    have out := fin (fun j h1 h2 => before j (Nat.lt_of_lt_of_le (Nat.lt_min.mpr ⟨h1, h2⟩) ge)) s' hJ
    wp_walk
    simpa [Builtin.Tuple.tupleCompareSizes] using out
  case h =>
    exact ⟨rfl, h0, 0, rfl, Nat.zero_le _, fun j hj => absurd hj (Nat.not_lt_zero _)⟩
end
/-- pair by pair; the answer is that of all of them, and of the lengths -/
def DTupB (K : PySem.W.Frag) (D : EqvB) : EqvB := fun x y b H => ∃ a c xs ys, ∃ an : Nat → Bool, x = .ref a ∧ y = .ref c ∧ SqT K H a xs ∧ SqT K H c ys ∧
  (∀ i u v, xs[i]? = some u → ys[i]? = some v → ∀ H', Ext H H' → D u v (an i) H') ∧ (b = true ↔ xs.length = ys.length ∧ ∀ i, i < xs.length → an i = true)
section
variable {X : Cx} {n : Nat} {D : EqvB}
theorem rcB_tup (h : EqB X n D) : RcB X (n + 1) (DTupB X.K D) := by
  intro B pins s σ H x y b u v sb I rx ry hd
  obtain ⟨a, c, xs, ys, an, rfl, rfl, ha, hc, hp, hb⟩ := hd
  cases rx
  cases ry
  obtain ⟨us, r1, ⟨⟨cl, dd, dt, sl⟩, e1, e2, k, e3⟩, _⟩ := I.tuple ha
  obtain ⟨vs, r2, ⟨⟨cl2, dd2, dt2, sl2⟩, g1, g2, k2, g3⟩, _⟩ := I.tuple hc
  simp only at e2 e3 g2 g3
  subst e2 e3 g2 g3
  have l1 : us.toArray.size = xs.length := by rw [List.size_toArray, r1.length]
  have l2 : vs.toArray.size = ys.length := by rw [List.size_toArray, r2.length]
  refine wpAny_richCompare_same_room (op := .Eq) ⟨_, e1, rfl⟩ ⟨_, g1, rfl⟩ F.slot_tuple_eq (GQ.call_here F.slot_tuple_eq ⟨_, e1, rfl⟩ F.entry_tuple_eq (F.args_tuple_eq_2 _ _) ?_) sb.room.units0
  refine tup_either (R := wants (fun r s' => r ≠ .notImplemented ∧ (r = .bool b ∧ LoopI X pins σ H s')) X.xe) a c us.toArray vs.toArray k k2 dd dd2 sl sl2 an (LoopI X pins σ H) (fun i h1 h2 s1 hJ => ?_) (fun i h1 h2 no s1 hJ => ?_) (fun all s1 hJ => ?_) e1 g1 ⟨H, I, Ext.rfl'⟩
  · obtain ⟨H1, I1, x1⟩ := hJ
    have i1 : i < xs.length := by omega
    have i2 : i < ys.length := by omega
    obtain ⟨p, hp1, rp⟩ := r1.get (List.getElem?_eq_getElem i1)
    obtain ⟨q, hq1, rq⟩ := r2.get (List.getElem?_eq_getElem i2)
    have ep : us.toArray[i] = p := by
      obtain ⟨_, z⟩ := List.getElem?_eq_some_iff.mp hp1
      simpa using z
    have eq : vs.toArray[i] = q := by
      obtain ⟨_, z⟩ := List.getElem?_eq_some_iff.mp hq1
      simpa using z
    rw [ep, eq]
    refine wpAny_mono (h B.in1 pins s1 σ H1 _ _ (an i) p q sb.in1 I1 rp rq (hp i _ _ (List.getElem?_eq_getElem i1) (List.getElem?_eq_getElem i2) H1 x1)) (fun r s2 z => ?_) fun _ _ e => e
    obtain ⟨er, H2, I2, x2⟩ := z
    exact ⟨er, H2, I2, x1.trans x2⟩
  · have eb : b = false := by
      cases b with
      | false => rfl
      | true =>
        have z := (hb.mp rfl).2 i (by omega)
        rw [no] at z
        cases z
    subst eb
    exact ⟨(fun z => nomatch z), rfl, hJ⟩
  · have eb : (us.toArray.size == vs.toArray.size) = b := by
      rw [l1, l2]
      cases b with
      | true => exact beq_iff_eq.mpr (hb.mp rfl).1
      | false =>
        refine beq_eq_false_iff_ne.mpr fun e => ?_
        have z := hb.mpr ⟨e, fun i hi => all i (by omega) (by omega)⟩
        cases z
    rw [eb]
    exact ⟨(fun z => nomatch z), rfl, hJ⟩
end
end KpR

namespace KpR
open PySem PySem.Spec PyProof.Rows L2
open PySem.AutoSeq1 (wpAny_loadPart')
section
variable {prog : Program} {w : World} {A : Around} {R : Result → Shared → Prop}
theorem tup_ne_like (l b : Addr) (us vs : Array Value) (n n2 : Nat) (dd dd2 : Option Addr) (sl sl2 : Array (Option Value)) (sz : us.size = vs.size) (J : Shared → Prop)
    (turn : ∀ i (h1 : i < us.size) (h2 : i < vs.size) s, J s → wpAny (model prog w) A.in1 (eqBool us[i] vs[i]) (fun r s' => r = true ∧ J s') (fun e s' => R (.error e) s') s)
    (fin : ∀ s, J s → R (.ok (.ret (.bool false))) s) {s : Shared}
    (hl : s.heap.get? l = some { cls := .type "tuple", dict := dd, data := .seq us n, slots := sl }) (hb : s.heap.get? b = some { cls := .type "tuple", dict := dd2, data := .seq vs n2, slots := sl2 }) (h : J s) :
    wpAny (model prog w) A.in1 (Builtin.«tuple.__ne__» ⟨[.ref l, .ref b], []⟩) (GQ.FinOf prog w A R) (fun e s' => R (.error e) s') s := by
  have f2 := AutoSeq1.sub_tuple_tuple
  have zl : (us.toList.zip vs.toList).length = us.size := by simp [sz]
  have h0 := h
  obtain ⟨hp, g, d, tk, os⟩ := s
  wp_walk using wpAny_loadPart' hl, wpAny_loadPart' hb, wpAny_forIn_list _ (fun rest q s' => q.1 = none ∧ J s' ∧ ∃ i, rest = (us.toList.zip vs.toList).drop i ∧ i ≤ us.size) _
  case turn =>
    rintro ⟨y, x⟩ rest q s' ⟨hq, hJ, i, hz, hi⟩
    have lt : i < (us.toList.zip vs.toList).length := by
      rcases Nat.lt_or_ge i (us.toList.zip vs.toList).length with c | c
      · exact c
      · rw [List.drop_of_length_le c] at hz
        cases hz
    have l1 : i < us.size := zl ▸ lt
    have l2 : i < vs.size := sz ▸ l1
    rw [List.drop_eq_getElem_cons lt] at hz
    injection hz with hp1 hrest
    have ey : y = us[i] := by simpa using congrArg Prod.fst hp1
    have ex : x = vs[i] := by simpa using congrArg Prod.snd hp1
    subst ey ex
    refine wpAny_bind (wpAny_mono (turn i l1 l2 s' hJ) (fun r s2 z => ?_) fun _ _ e => e)
    obtain ⟨rfl, J2⟩ := z
    wp_walk
    exact ⟨rfl, J2, i + 1, hrest, l1⟩
  case fin =>
    rintro ⟨q1, q2⟩ s' ⟨hq, hJ, i, hz, hi⟩
    simp only at hq
    subst hq
    have out := fin s' hJ
    wp_walk
    simpa [Builtin.Tuple.tupleCompareSizes, sz] using out
  case h =>
    exact ⟨rfl, h0, 0, rfl, Nat.zero_le _⟩
end
section
variable {X : Cx} {n : Nat} {D : EqvB}
/-- x != y, two tuples that are equal pair by pair -/
def rNeTup (K : PySem.W.Frag) (D : EqvB) : R2 := fun x y H Q => ∃ (a c : Addr) (xs ys : List V), x = .ref a ∧ y = .ref c ∧ SqT K H a xs ∧ SqT K H c ys ∧ xs.length = ys.length ∧
  (∀ (i : Nat) (u v : V), xs[i]? = some u → ys[i]? = some v → ∀ H' : Hp, Ext H H' → D u v true H') ∧ ∀ H' : Hp, Ext H H' → Q (.bl false) H'
theorem op_neTup (h : EqB X n D) (hr : Room (n + 1) X.A) : OpR X (compareOp .NotEq) (rNeTup X.K D) := by
  intro pins s σ H x y u v Q I rx ry hd
  obtain ⟨a, c, xs, ys, rfl, rfl, ha, hc, hlen, hp, q⟩ := hd
  cases rx
  cases ry
  obtain ⟨us, r1, ⟨⟨cl, dd, dt, sl⟩, e1, e2, k, e3⟩, _⟩ := I.tuple ha
  obtain ⟨vs, r2, ⟨⟨cl2, dd2, dt2, sl2⟩, g1, g2, k2, g3⟩, _⟩ := I.tuple hc
  simp only at e2 e3 g2 g3
  subst e2 e3 g2 g3
  have l1 : us.toArray.size = xs.length := by rw [List.size_toArray, r1.length]
  have l2 : vs.toArray.size = ys.length := by rw [List.size_toArray, r2.length]
  have sb : Sub X (n + 1) X.A := ⟨hr, rfl⟩
  show wpAny (model X.prog X.w) X.A (richCompare .NotEq (.ref a) (.ref c)) (EP X pins σ Q) X.xe s
  refine wpAny_richCompare_same_room (op := .NotEq) ⟨_, e1, rfl⟩ ⟨_, g1, rfl⟩ F.slot_tuple_ne (GQ.call_here F.slot_tuple_ne ⟨_, e1, rfl⟩ F.entry_tuple_ne (F.args_tuple_ne_2 _ _) ?_) hr.units0
  refine tup_ne_like (R := wants (fun r s' => r ≠ .notImplemented ∧ EP X pins σ Q r s') X.xe) a c us.toArray vs.toArray k k2 dd dd2 sl sl2 (by omega) (LoopI X pins σ H) (fun i h1 h2 s1 hJ => ?_) (fun s1 hJ => ?_) e1 g1 ⟨H, I, Ext.rfl'⟩
  · obtain ⟨H1, I1, x1⟩ := hJ
    have i1 : i < xs.length := by omega
    have i2 : i < ys.length := by omega
    obtain ⟨p, hp1, rp⟩ := r1.get (List.getElem?_eq_getElem i1)
    obtain ⟨q1, hq1, rq⟩ := r2.get (List.getElem?_eq_getElem i2)
    have ep : us.toArray[i] = p := by
      obtain ⟨_, z⟩ := List.getElem?_eq_some_iff.mp hp1
      simpa using z
    have eq : vs.toArray[i] = q1 := by
      obtain ⟨_, z⟩ := List.getElem?_eq_some_iff.mp hq1
      simpa using z
    rw [ep, eq]
    refine wpAny_mono (h X.A.in1 pins s1 σ H1 _ _ true p q1 sb.in1 I1 rp rq (hp i _ _ (List.getElem?_eq_getElem i1) (List.getElem?_eq_getElem i2) H1 x1)) (fun r s2 z => ?_) fun _ _ e => e
    obtain ⟨er, H2, I2, x2⟩ := z
    exact ⟨er, H2, I2, x1.trans x2⟩
  · obtain ⟨H1, I1, x1⟩ := hJ
    exact ⟨(fun z => nomatch z), .bl false, H1, I1, rfl, q H1 x1⟩
end
end KpR

namespace KpR
open PySem PySem.Spec PyProof.Rows L2
section
variable {α : Type} {K : PySem.W.Frag} {H : Hp} {f : α → PyData}
theorem dp_map {R : V → α → Prop} (h : ∀ t x, R t x → Dp K H t (f x)) : ∀ {ts : List V} {l : List α}, A2 R ts l → DpAll K H ts (l.map f)
  | [], [], _ => .nil
  | _ :: _, _ :: _, k => .cons (h _ _ k.1) (dp_map h k.2)
  | [], _ :: _, k => k.elim
  | _ :: _, [], k => k.elim
theorem lay_map : ∀ {l : List α}, (∀ x ∈ l, (f x).canLay0 = true) → PyData.canLayAll0 (l.map f) = true
  | [], _ => by simp [PyData.canLayAll0]
  | x :: l, h => by
    simp only [List.map_cons, PyData.canLayAll0, h x (List.mem_cons_self ..), Bool.true_and]
    exact lay_map fun y hy => h y (List.mem_cons_of_mem _ hy)
theorem dep_map {n : Nat} : ∀ {l : List α}, (∀ x ∈ l, (f x).depth ≤ n) → PyData.depthAll (l.map f) ≤ n
  | [], _ => by simp [PyData.depthAll]
  | x :: l, h => by
    simp only [List.map_cons, PyData.depthAll]
    exact Nat.max_le.mpr ⟨h x (List.mem_cons_self ..), dep_map fun y hy => h y (List.mem_cons_of_mem _ hy)⟩
theorem eqv_map [DecidableEq α] (h : ∀ x y, (f x).eqv (f y) = decide (x = y)) : ∀ {l m : List α}, PyData.eqvAll (l.map f) (m.map f) = decide (l = m)
  | [], [] => by simp [PyData.eqvAll]
  | [], _ :: _ => by simp [PyData.eqvAll]
  | _ :: _, [] => by simp [PyData.eqvAll]
  | x :: l, y :: m => by
    simp only [List.map_cons, PyData.eqvAll, h, eqv_map h (l := l) (m := m)]
    by_cases h1 : x = y
    · by_cases h2 : l = m <;> simp [h1, h2]
    · simp [h1]
/-- what can be compared: of no great depth -/
structure Flat (n : Nat) (d : PyData) : Prop where
  lay : d.canLay0 = true
  dep : d.depth ≤ n
theorem Flat.sh {n : Nat} {d : PyData} (h : Flat n d) (hn : n ≤ 64) : SeqAt.shaped d = true := by
  unfold SeqAt.shaped
  rw [h.lay, decide_eq_true (Nat.le_trans h.dep hn)]
  rfl
theorem Flat.list {n : Nat} {l : List α} (h : ∀ x ∈ l, Flat n (f x)) : Flat (n + 1) (.list (l.map f)) :=
  ⟨by simp only [PyData.canLay0]; exact lay_map fun x hx => (h x hx).lay, by simp only [PyData.depth]; exact Nat.succ_le_succ (dep_map fun x hx => (h x hx).dep)⟩
theorem Flat.tup {n : Nat} {l : List α} (h : ∀ x ∈ l, Flat n (f x)) : Flat (n + 1) (.tuple (l.map f)) :=
  ⟨by simp only [PyData.canLay0]; exact lay_map fun x hx => (h x hx).lay, by simp only [PyData.depth]; exact Nat.succ_le_succ (dep_map fun x hx => (h x hx).dep)⟩
theorem Flat.int {n : Nat} {i : Int} : Flat n (.int i) := ⟨rfl, Nat.zero_le _⟩
theorem Flat.bl {n : Nat} {b : Bool} : Flat n (.bool b) := ⟨rfl, Nat.zero_le _⟩
theorem Flat.non {n : Nat} : Flat n .none := ⟨rfl, Nat.zero_le _⟩
theorem Flat.str {n : Nat} {x : Str} (h : (PyData.str x).canLay0 = true) : Flat n (.str x) := ⟨h, Nat.zero_le _⟩
theorem Flat.mono {n m : Nat} {d : PyData} (h : Flat n d) (k : n ≤ m) : Flat m d := ⟨h.lay, Nat.le_trans h.dep k⟩
theorem eqv_int {i j : Int} : PyData.eqv (.int i) (.int j) = decide (i = j) := by
  simp only [PyData.eqv]
  by_cases h : i = j <;> simp [h]
/-- != and == of data -/
theorem neD {x y : V} {d e : PyData} {Q : VK} (h1 : Dp K H x d) (h2 : Dp K H y e) (f1 : Flat 60 d) (f2 : Flat 60 e) (q : Q (.bl (!PyData.eqv d e)) H) : rNeD K x y H Q := ⟨d, e, h1, h2, f1.sh (by decide), f2.sh (by decide), q⟩
theorem eqD {x y : V} {d e : PyData} {Q : VK} (h1 : Dp K H x d) (h2 : Dp K H y e) (f1 : Flat 60 d) (f2 : Flat 60 e) (q : Q (.bl (PyData.eqv d e)) H) : rEqD K x y H Q := ⟨d, e, h1, h2, f1.sh (by decide), f2.sh (by decide), q⟩
end
end KpR

namespace KpR
open PySem PySem.Spec PySem.Calls PyProof.Rows L2
section
variable {prog : Program} {w : World} {K : PySem.W.Frag} {x D : Addr}
/-- what a class says of itself on its instances, whatever fields they have -/
theorem fo_class {od : Option Obj} (hc : (PySem.W.clsIn K D).isSome = true) (ha : PySem.W.findIn K (.ref D) "__class__" = some (some (.builtin "object.__class__"))) (hg : PySem.W.specialIn K (.builtin "object.__class__") "__get__" = some (some (.builtin "getset_descriptor.__get__"))) (ht : PySem.W.takesIn K (.builtin "object.__class__") = some true) :
    PySem.W.findObj K D od "__class__" = some (.bind (.builtin "getset_descriptor.__get__") (.builtin "object.__class__")) := by
  obtain ⟨cd, q⟩ := Option.isSome_iff_exists.mp hc
  unfold PySem.W.findObj
  rw [q, Option.bind_some, ha, Option.bind_some]
  simp [hg, ht]
theorem exc_class (C : ExcC K D) {A : Around} {E : Value → Shared → Prop} {Q : Option Value → Shared → Prop} {s : Shared} {ox : Obj} {od : Option Obj} (X : K.In s.heap) (J : PySem.W.InstAt s.heap x ox D od) (q : Q (some (.ref D)) { s with toks := s.toks + 1 }) :
    wpAny (model prog w) A (getAttr? (.ref x) "__class__") Q E s := by
  have fo : PySem.W.findObj K D od "__class__" = _ := fo_class (by obtain ⟨cd, hc, _⟩ := PySem.W.any_some C.hd; rw [hc]; rfl) C.ha C.hn C.ht
  obtain ⟨hp, sg, sd, st, so⟩ := s
  have ty := J.type (M := model prog w)
  have l1 := PySem.W.looks_findIn (M := model prog w) X C.hg
  have l2 := PySem.W.looks_findIn (M := model prog w) X C.hk
  have l3 := PySem.W.looks_find (M := model prog w) X J fo
  have isx : PySem.W.Looks (model prog w) hp (isInstance (.ref x) (.type "BaseException")) true := ty.andThen (PySem.W.looks_subIn X C.hs)
  have n1 : (Value.builtin "BaseException.__getattribute__" == Value.builtin "object.__getattribute__") = false := by decide +kernel
  have n2 : (onTheHeap (Value.ref D) && Value.builtin "BaseException.__getattribute__" == Value.builtin "object.__getattribute__") = false := by rw [n1]; rfl
  have n3 : (false && onTheHeap (Value.builtin "BaseException.__getattribute__")) = false := rfl
  unfold getAttr? getAttrBy? getAttrBy
  refine wpAny_bind (wpAny_mkText (wpAny_bind (wpAny_attempt (wpAny_holding (wpAny_bind (ty.at (wpAny_bind (l1.at ?_))))))))
  refine (congrArg (fun c : Bool => wpAny (model prog w) A (if c = true then _ else _) _ _ _) n2).mpr ?_
  rw [if_neg Bool.false_ne_true]
  unfold getAttrByItsOwn hookBefore
  refine wpAny_bind ?_
  rw [if_pos (show onTheHeap (Value.ref D) = true from rfl)]
  refine l2.at (wpAny_bind (wpAny_attempt (wpAny_holding ?_)))
  unfold callGetattribute
  rw [n3, if_neg Bool.false_ne_true]
  unfold boundAndCalled
  rw [PySem.F.excAttr_ValueError.ga.bind (.ref x)]
  refine wpAny_bind (wpAny_pure (show wpAny _ _ (call (.builtin "BaseException.__getattribute__") [.ref x, .str "__class__" st]) _ _ _ from ?_))
  refine wpAny_call (codeAny_call_builtin PySem.F.excAttr_ValueError.ga.plain PySem.F.entry_bexc_ga ?_)
  refine @PySem.W.check_slot (model prog w) _ _ ⟨hp, sg, sd, st + 1, so⟩ "BaseException.__getattribute__" "BaseException" "__getattribute__" (.ref x) [.str "__class__" st] [] _ (by decide +kernel) (by decide +kernel) isx (PySem.F.args_bexc_ga (.ref x) (.str "__class__" st)) ?_
  unfold Builtin.«object.__getattribute__»
  refine wpAny_bind (wpAny_of_eq (a := ((Value.ref x : Value), [Value.str "__class__" st])) (by first | rfl | (simp only [slotArgs]; rfl)) (wpAny_bind (wpAny_pure (wpAny_bind (ty.at (wpAny_bind (l3.at ?_)))))))
  show wpAny _ _ (holding [Value.builtin "object.__class__"] (call (.builtin "getset_descriptor.__get__") [.builtin "object.__class__", .ref x, .ref D]) >>= ret) _ _ _
  refine wpAny_bind (wpAny_holding (wpAny_call (PySem.W.class_get (s := ⟨hp, sg, sd, st + 1, so⟩) (ox := ox) (od := od) X J C.hm (wpAny_pure ?_))))
  show wpAny _ _ (handedOut (.ref D)) _ _ _
  rw [PySem.W.handedOut_of (v := .ref D) rfl]
  first
    | exact wpAny_pure (wpAny_pure q)
    | exact wpAny_pure q
    | exact wpAny_pure (wpAny_bind (wpAny_pure (wpAny_pure q)))
theorem kit_exd (C : ExcC K D) : PySem.W.KitX K (.ref x) (.ref D) (fun h => ∃ ox od, PySem.W.InstAt h x ox D od) := by
  obtain ⟨cdD, hcD, _⟩ := PySem.W.any_some C.hd
  have at_ : ∃ (o : Obj) (cd : ClassData), K.lookup D = some o ∧ o.data = .cls cd := by
    unfold PySem.W.clsIn at hcD
    split at hcD
    · rename_i ho
      exact ⟨_, _, ho, rfl⟩
    · cases hcD
  obtain ⟨o, cd, ho, hd⟩ := at_
  refine ⟨fun _ _ _ ⟨_, _, J⟩ => J.type, fun _ _ X _ => ?_, fun h tp dd its n sl X e => ?_, fun X ⟨_, _, J⟩ q => exc_class C X J q⟩
  · intro A' Q' E' s' k q
    unfold isType loadHead
    obtain ⟨oc, od, oda, osl⟩ := o
    cases hd
    exact wpAny_bind (wpAny_loadPart (k _ _ (X _ _ ho)) (wpAny_pure q))
  · refine Bool.eq_false_iff.mpr fun z => ?_
    obtain rfl := Value.ref.inj (beq_iff_eq.mp z)
    have z := (X _ _ ho).symm.trans e
    cases z
    cases hd
end
/-- isinstance(e, c), e the exception that the suite holds, of whatever fields -/
def rIsX (K : PySem.W.Frag) (a D : Addr) (cls : Value) (d : Option Addr) : List V → Hp → VK → Prop := fun xs H Q => ∃ (c : V) (cv : Value) (b : Bool) (dd : Addr) (fs : List (Str × V)), xs = [.ref a, c] ∧ (∀ u, RelV c u → u = cv) ∧ PySem.W.kitOne K (.ref D) cv = some b ∧ cls = .ref D ∧ d = some dd ∧ H dd = some (.xd fs) ∧ Q (.bl b) H
theorem call_isX {X : Cx} {a D : Addr} {oe : Obj} {d : Option Addr} {pn : List (Addr × Obj)} {cls : Value} (C : ExcC X.K D) (hz : Zc cls d oe) (hf : ∃ vs, oe.data = .fields vs) :
    CallR (X.suite a ((a, oe) :: pn)) (.builtin "isinstance") (rIsX X.K a D cls d) := by
  intro pins s σ H xs us Q I r h
  obtain ⟨c, cv, b, dd, fs, rfl, hcv, e, rfl, rfl, hdd, q⟩ := h
  cases r with
  | cons rx rr =>
    cases rr with
    | cons rt rr =>
      cases rr
      cases rx
      obtain rfl := hcv _ rt
      obtain ⟨hget, _⟩ := I.pin (a, oe) (List.mem_append_left _ List.mem_cons_self)
      obtain ⟨vs, hv⟩ := hf
      obtain ⟨mA, hns, _⟩ : ObjOk X.prog X.w H s.heap dd (.xd fs) := I.hok dd _ hdd
      obtain ⟨od, ho, _⟩ := lookIn_ns hns
      have J : PySem.W.InstAt s.heap a oe D (some od) := ⟨hget, hz.1, by unfold PySem.W.notCls; rw [hv] <;> rfl, by rw [hz.2]; exact ho⟩
      exact PySem.W.kia_one (kit_exd C) I.kIn ⟨_, _, J⟩ e (fun z => nomatch z) fun tk => ⟨.bl b, H, I.kept (t' := tk) fun _ _ z => z, rfl, q⟩
end KpR

namespace KpR
open PySem PySem.Spec PyProof.Rows L2
section
variable {prog : Program} {w : World} {A : Around} {E : Value → Shared → Prop} {s : Shared} {K : PySem.W.Frag} {x y C C' f : Addr} {ox oy : Obj} {od : Option Obj}
theorem rc_neX {Q : Value → Shared → Prop} (X : K.In s.heap) (I : PySem.W.InstAt s.heap x ox C od) (c : NeK K C f) (hy : s.heap.get? y = some oy) (cy : oy.cls = .ref C') (nf : PySem.W.notFirst K C (.ref C') = true) (hu : A.units + 1 < cLine)
    (h : wpAny (model prog w) A.in1 (call (.ref f) [.ref x, .ref y]) (fun v s1 => ∃ b, v = .bool b ∧ Q (.bool (!b)) s1) E s) : wpAny (model prog w) A (richCompare .NotEq (.ref x) (.ref y)) Q E s := by
  by_cases ne : C' = C
  · exact rc_neK X I c hy (by rw [cy, ne]) hu h
  have hsub : PySem.W.subIn K (.ref C') (.ref C) = some false := by
    unfold PySem.W.notFirst at nf
    rcases Bool.or_eq_true_iff.mp nf with k | k
    · exact absurd (Value.ref.inj (eq_of_beq k)) ne
    · exact eq_of_beq k
  have hu0 : A.units < cLine := Nat.lt_of_succ_lt hu
  have run : wpAny (model prog w) A (callSpecialIfBound? (.ref x) "__ne__" [.ref y]) (fun r s1 => ∃ b, r = some (.bool b) ∧ Q (.bool b) s1) E s := by
    simp only [callSpecialIfBound?, bindSpecialIfBound?]
    refine wpAny_holding (wpAny_bind (wpAny_bind (wpAny_bind (I.type.here ((PySem.W.looks_findIn X c.hn).here ?_)))))
    refine wpAny_bind (wpAny_askSetting (wpAny_ite ?_))
    have fin : wpAny (model prog w) A (call (.builtin "object.__ne__") ([.ref x] ++ [.ref y]) >>= fun v => pure (some v)) (fun r s1 => ∃ b, r = some (.bool b) ∧ Q (.bool b) s1) E s :=
      wpAny_bind (wpAny_mono (call_objNe (Q := fun v s1 => ∃ b, v = .bool b ∧ Q (.bool b) s1) X I c hu (wpAny_mono h (fun v s1 ⟨b, e, q⟩ => ⟨b, e, _, rfl, q⟩) fun _ _ e => e)) (fun v s1 ⟨b, e, q⟩ => wpAny_pure ⟨b, congrArg some e, q⟩) fun _ _ e => e)
    split
    · exact wpAny_bind (wpAny_of_eq (F.cmp_object.ne.bind _) (wpAny_pure (by exact fin)))
    · exact wpAny_tryCatch (wpAny_bind (wpAny_of_eq (F.cmp_object.ne.bind _) (wpAny_pure (by exact fin))))
  have one : wpAny (model prog w) A (tryCompare (.ref x) "__ne__" (.ref y)) (fun r s1 => ∃ b, r = some (.bool b) ∧ Q (.bool b) s1) E s := by
    unfold tryCompare
    refine wpAny_bind (wpAny_mono run (fun r s1 z => ?_) fun _ _ e => e)
    obtain ⟨b, rfl, q⟩ := z
    exact wpAny_pure ⟨b, rfl, q⟩
  unfold richCompare
  simp only [oneThing_ref]
  refine wpAny_holding (wpAny_bind (wpAny_cRoomFor hu0 ?_))
  rw [cmpInfo_NotEq]
  dsimp only
  refine wpAny_bind (I.type.here (wpAny_bind (wpAny_typeOf_ref hy ?_)))
  have nb : (Value.ref C != Value.ref C') = true := by
    rw [bne_iff_ne]
    exact fun z => ne (Value.ref.inj z).symm
  rw [cy, nb]
  simp only [if_true]
  refine wpAny_bind ((PySem.W.looks_subIn X hsub).here ?_)
  simp only [Bool.false_eq_true, if_false]
  refine wpAny_bind (wpAny_mono one (fun r s1 z => ?_) fun _ _ e => e)
  obtain ⟨b, rfl, q⟩ := z
  exact wpAny_pure q
end
section
variable {X : Cx} {CX : CXT} {n : Nat} {C f : Addr} {fd : FuncData} {ps : List Str} {R : Addr → V → Bool → Hp → Prop} {E : XK}
/-- x != y of two instances, the second of no class below the first one's -/
def rNeX (K : PySem.W.Frag) (C : Addr) (R : Addr → V → Bool → Hp → Prop) : R2 := fun x y H Q => ∃ b, DInsB K C R x y b H ∧ ∀ H', Ext H H' → Q (.bl (!b)) H'
theorem op_neX (G : FnOk X.prog X.w X.K X.mg X.base CX n f fd ps (spEqB R)) (hc : NeK X.K C f) (hb : Binds X.K fd ps []) (hx : Passes CX X E) (hr : Room (n + 1) X.A) : OpR X (compareOp .NotEq) (rNeX X.K C R) := by
  intro pins s σ H x y v u Q I rx ry hq
  obtain ⟨b, ⟨a, c, C', dx, dy, fs, gs, rfl, rfl, ha, hc1, nf, hR⟩, q⟩ := hq
  cases rx
  cases ry
  obtain ⟨mA, J, _⟩ := ins_get I.hok ha
  obtain ⟨mC, J1, _⟩ := ins_get I.hok hc1
  obtain ⟨od, J, _⟩ := J.look
  obtain ⟨od1, J1, _⟩ := J1.look
  have r1 : Room n X.A.in1 := hr.in1
  have go := own_runB (B := X.A.in1) (y := .ref c) (v := .ref c) G hb hx ⟨r1, rfl⟩ I rfl hR
  show wpAny (model X.prog X.w) X.A (richCompare .NotEq (.ref a) (.ref c)) (EP X pins σ Q) X.xe s
  refine rc_neX I.kIn J hc J1.at_ J1.cls nf (hu_of hr) (wpAny_mono go (fun r s1 z => ?_) fun _ _ e => e)
  cases r with
  | notImplemented => exact False.elim z
  | bool b' =>
    obtain ⟨e, H1, I1, ex⟩ := z
    cases e
    exact ⟨_, rfl, .bl _, H1, I1, rfl, q H1 ex⟩
  | _ => cases z.1
/-- x == y, two lists equal pair by pair -/
def DAll (D : EqvB) : Eqv := fun x y H => ∀ H', Ext H H' → D x y true H'
theorem mon_all (D : EqvB) : Mon (DAll D) := fun _ _ _ _ e d H' e' => d H' (e.trans e')
theorem eqG_all {D : EqvB} (h : EqB X n D) : EqG X n (DAll D) := fun B pins s σ H x y u v sb I rx ry d => h B pins s σ H x y true u v sb I rx ry (d H Ext.rfl')
/-- x != y, two lists of just the same objects -/
def rNeSame (K : PySem.W.Frag) : R2 := fun x y H Q => ∃ a c xs, x = .ref a ∧ y = .ref c ∧ H a = some (.lst xs) ∧ H c = some (.lst xs) ∧ (∀ z ∈ xs, ∃ p, z = V.ref p) ∧ Q (.bl false) H
theorem refs_same : ∀ {xs : List V} {us vs : List Value}, (∀ z ∈ xs, ∃ p, z = V.ref p) → Vals xs us → Vals xs vs → us = vs
  | [], _, _, _, .nil, .nil => rfl
  | x :: xs, _, _, h, .cons r1 k1, .cons r2 k2 => by
    obtain ⟨p, rfl⟩ := h x (List.mem_cons_self ..)
    cases r1
    cases r2
    rw [refs_same (fun z hz => h z (List.mem_cons_of_mem _ hz)) k1 k2]
theorem op_neSame (hu : X.A.units < cLine) : OpR X (compareOp .NotEq) (rNeSame X.K) := by
  intro pins s σ H x y v u Q I rx ry hq
  obtain ⟨a, c, xs, rfl, rfl, ha, hc, hr, q⟩ := hq
  cases rx
  cases ry
  obtain ⟨z, its, k, r, e⟩ := I.hok a _ ha
  obtain ⟨z2, its2, k2, r2, e2⟩ := I.hok c _ hc
  obtain rfl := refs_same hr r r2
  show wpAny (model X.prog X.w) X.A (richCompare .NotEq (.ref a) (.ref c)) (EP X pins σ Q) X.xe s
  refine wpAny_richCompare_same_room (op := .NotEq) ⟨_, e, rfl⟩ ⟨_, e2, rfl⟩ F.slot_list_ne (GQ.call_here F.slot_list_ne ⟨_, e, rfl⟩ F.entry_list_ne (F.args_list_ne_2 _ _) ?_) hu
  refine SeqAt.list_neAt a c its.toArray its.toArray k k2 none none #[] #[] rfl (fun _ => true) X.prog X.w X.A (wants (fun v s' => v ≠ .notImplemented ∧ EP X pins σ Q v s') X.xe) s ⟨e, e2, fun j h1 h2 => SeqAt.EqAt.same _, ?_⟩
  have al : (List.range its.toArray.size).all (fun _ => true) = true := by simp
  rw [al]
  exact ⟨(fun z => nomatch z), .bl false, H, I, rfl, q⟩
end
section
variable {prog : Program} {w : World} {A : Around} {E : Value → Shared → Prop} {s : Shared}
/-- a tuple's items, taken over into a list of their own -/
theorem collect_tup {l : Addr} {o : Obj} {n : Nat} {vs : List Value} {Q : List Value → Shared → Prop} (ho : s.heap.get? l = some o) (hc : o.cls = .type "tuple") (hd : o.data = .seq vs.toArray n)
    (h : Q vs { s with heap := (s.heap.push (seqObj "list" #[] 0)).update s.heap.objs.size (Obj.mapSeq (· ++ vs.toArray)) }) (hsz : vs.length ≤ sizeLine) : wpAny (model prog w) A (collect (.ref l)) Q E s := by
  have new : (s.heap.push (seqObj "list" #[] 0)).get? s.heap.objs.size = some (seqObj "list" #[] 0) := Heap.get?_push_size _ rfl
  have old : (s.heap.push (seqObj "list" #[] 0)).get? l = some o := Heap.get?_push_of_some _ ho
  unfold collect
  refine wpAny_bind (wpAny_runValue (codeAny_builtin entry_proto_collect' (show wpAny _ _ (do again (.builtin "list.__iadd__" ⟨[← newList [], .ref l], []⟩)) _ _ s from wpAny_bind (wpAny_newList (wpAny_pure ⟨Code.quiet_builtin _ (by decide +kernel), codeAny_builtin entry_list_iadd' ?_⟩)))))
  show wpAny _ _ (Builtin.List.listExtendWith (.ref s.heap.objs.size) (.ref l) (.ref s.heap.objs.size)) _ _ { s with heap := s.heap.push (seqObj "list" #[] 0) }
  unfold Builtin.List.listExtendWith
  have tt : (Value.type "tuple" == Value.type "tuple") = true := rfl
  refine wpAny_bind (wpAny_typeOf (T := "tuple") ⟨o, old, hc⟩ ?_)
  rw [if_pos (by rw [tt]; simp)]
  refine wpAny_bind (listItems_at old hd (wpAny_bind (listItems_at (xs := #[]) (n := 0) new rfl ?_)))
  rw [if_neg (by simp)]
  refine wpAny_bind (listUpdate_at (xs := #[]) (n := 0) new rfl (wpAny_pure ?_) (Nat.zero_le _) (by show (#[] ++ vs.toArray).size ≤ sizeLine + 1; simp only [Array.size_append, List.size_toArray, List.length_nil]; omega))
  refine (show wpAny (model prog w) A (load s.heap.objs.size >>= fun o => match o.data with | .seq xs _ => pure xs.toList | _ => unsupported "internal:collect") Q E _ from wpAny_bind (wpAny_load (get?_update_seq new _) ?_))
  show wpAny _ _ (pure ((#[] : Array Value) ++ vs.toArray).toList) Q E _
  rw [show ((#[] : Array Value) ++ vs.toArray).toList = vs by simp]
  exact wpAny_pure h
theorem sorted_tup {l : Addr} {o : Obj} {n : Nat} {vs : List Value} {ns : List Int} {Q : Value → Shared → Prop} (ho : s.heap.get? l = some o) (hc : o.cls = .type "tuple") (hd : o.data = .seq vs.toArray n) (hI : IntsAre vs ns) (h64 : vs.length < 64)
    (h : ∀ (out : Array Value) (ns' : List Int), IntsAre out.toList ns' → ns'.Perm ns → ns'.Pairwise (· ≤ ·) → Q (.ref (s.heap.objs.size + 1)) { s with heap := sortedAll s.heap vs out }) :
    wpAny (model prog w) A (call (.builtin "sorted") [.ref l]) Q E s := by
  refine Calls.call_function_entry kind_sorted plain_sorted entry_sorted (args_sorted1 _) ?_
  unfold Builtin.«sorted»
  refine wpAny_bind (m := checkCount "sorted" 1 1 _) (wpAny_pure (wpAny_bind (collect_tup ho hc hd (wpAny_bind (wpAny_newList ?_)) (small64 h64))))
  have sz : ((s.heap.push (seqObj "list" #[] 0)).update s.heap.objs.size (Obj.mapSeq (· ++ vs.toArray))).objs.size = s.heap.objs.size + 1 := by rw [Heap.size_update, size_push']
  have at2 : (((s.heap.push (seqObj "list" #[] 0)).update s.heap.objs.size (Obj.mapSeq (· ++ vs.toArray))).push (seqObj "list" vs.toArray 0)).get? (s.heap.objs.size + 1) = some (seqObj "list" vs.toArray 0) := sz ▸ Heap.get?_push_size _ rfl
  show wpAny _ _ _ _ _ { s with heap := ((s.heap.push (seqObj "list" #[] 0)).update s.heap.objs.size (Obj.mapSeq (· ++ vs.toArray))).push (seqObj "list" vs.toArray 0) }
  rw [sz]
  exact wpAny_bind (wpAny_holding (wpAny_call_entry slot_list_sort ⟨_, at2, rfl⟩ entry_list_sort (list_sort_tree at2 hI h64 fun out ns' a1 a2 a3 => ⟨_, rfl, wpAny_pure ⟨_, rfl, h out ns' a1 a2 a3⟩⟩) (args_list_sort _)))
end
section
variable {X : Cx}
/-- sorted(t), t a tuple or a list of ints -/
def rSrt (K : PySem.W.Frag) : List V → Hp → VK → Prop := fun vs H Q => ∃ (a : Addr) (ns : List Int), vs = [V.ref a] ∧ (SqL K H a (ns.map V.int) ∨ SqT K H a (ns.map V.int)) ∧ ns.length < 64 ∧
  ∀ (ns' : List Int) (p : Addr), ns'.Perm ns → ns'.Pairwise (· ≤ ·) → H p = none → Q (.ref p) (upd H p (.lst (ns'.map V.int)))
theorem cr_srt : CallR X (.builtin "sorted") (rSrt X.K) := by
  intro pins s σ H vs us Q I r h
  obtain ⟨a, ns, rfl, hs, h64, q⟩ := h
  rcases hs with hs | hs
  · exact cr_sorted pins s σ H _ us Q I r ⟨a, ns, rfl, hs, h64, q⟩
  obtain ⟨its, rv, ⟨o, ho, hc, n, hd⟩, _⟩ := I.tuple hs
  rw [Vals.ref1 r]
  have hi := rv.ints
  refine sorted_tup ho hc hd hi (by rw [hi.length]; exact h64) fun out ns' h1 h2 h3 => ?_
  obtain ⟨ep, he'⟩ := PyProof.Rows.sortedAll_at s.heap its out
  have hlen : (ns'.map V.int).length ≤ sizeLine := by rw [List.length_map, h2.length_eq]; exact small64 h64
  exact ⟨.ref _, upd H (s.heap.objs.size + 1) (.lst (ns'.map V.int)), I.laid (t' := s.toks) (fun _ _ => PyProof.Rows.sortedAll_old) (Nat.le_succ _) ⟨hlen, out.toList, ep, vals_of_ints h1, he'⟩, rfl, q ns' _ h2 h3 (I.hok.fresh (Nat.le_succ _))⟩
end
end KpR

namespace KpR
open PySem PySem.Spec PyProof.Rows L2
theorem lc_enumT {K : PySem.W.Frag} {a : Addr} {xs : List V} {g : TG} {tt : TT} {te : TE} {vs : List Nat} {σ : L2.St} {H1 : Hp} {D : Addr} {Qd : Hp → Prop} (Pv : Nat → Hp → Prop) (h0 : Pv 0 (upd H1 D (.lst []))) (hl : ∀ i H, i ≤ xs.length → Pv i H → SqT K H a xs)
    (hs : ∀ i x T H, xs[i]? = some x → Pv i H → H T = none → g (.ref T) (wipe σ vs) (upd H T (.tup [.int (i : Nat), x])) fun σ2 H2 => wipe σ2 vs = wipe σ vs ∧ tt σ2 H2 fun b H3 =>
      if b = true then te σ2 H3 fun y H4 => ∃ acc, H4 D = some (.lst acc) ∧ acc.length < sizeLine ∧ Pv (i + 1) (upd H4 D (.lst (acc ++ [y]))) else Pv (i + 1) H3) (hd : ∀ H, Pv xs.length H → Qd H) :
    ∃ W : Nat → Nat → Hp → Prop, (∃ m, W 0 m (upd H1 D (.lst []))) ∧ ∀ i m H, W i m H →
      ((IteT K a).stop i H ∧ Qd H) ∨ ((IteT K a).go i H ∧ ∃ Nx : Hp → Prop, (∀ H', Nx H' → ∃ m', m' < m ∧ W (i + 1) m' H') ∧ ∀ x H', (IteT K a).yld i H x H' → g x (wipe σ vs) H' fun σ2 H2 => wipe σ2 vs = wipe σ vs ∧ tt σ2 H2 fun b H3 =>
        if b = true then te σ2 H3 fun y H4 => ∃ acc, H4 D = some (.lst acc) ∧ acc.length < sizeLine ∧ Nx (upd H4 D (.lst (acc ++ [y]))) else Nx H3) := by
  refine ⟨fun i m H => m = xs.length - i ∧ i ≤ xs.length ∧ Pv i H, ⟨xs.length, by simp, Nat.zero_le _, h0⟩, ?_⟩
  rintro i m H ⟨rfl, hi, p⟩
  have q := hl i H hi p
  by_cases hlt : i < xs.length
  · refine .inr ⟨⟨xs, xs[i], q, by simp [hlt]⟩, Pv (i + 1), fun H' p' => ⟨xs.length - (i + 1), by omega, rfl, hlt, p'⟩, ?_⟩
    rintro x H' ⟨T, y, rfl, hT, rfl, hy⟩
    exact hs i y T H (hy xs q) p hT
  · have e : i = xs.length := by omega
    subst e
    exact .inl ⟨⟨xs, q, rfl⟩, hd H p⟩
theorem lc_enumL {K : PySem.W.Frag} {a : Addr} {xs : List V} {g : TG} {tt : TT} {te : TE} {vs : List Nat} {σ : L2.St} {H1 : Hp} {D : Addr} {Qd : Hp → Prop} (Pv : Nat → Hp → Prop) (h0 : Pv 0 (upd H1 D (.lst []))) (hl : ∀ i H, i ≤ xs.length → Pv i H → SqL K H a xs)
    (hs : ∀ i x T H, xs[i]? = some x → Pv i H → H T = none → g (.ref T) (wipe σ vs) (upd H T (.tup [.int (i : Nat), x])) fun σ2 H2 => wipe σ2 vs = wipe σ vs ∧ tt σ2 H2 fun b H3 =>
      if b = true then te σ2 H3 fun y H4 => ∃ acc, H4 D = some (.lst acc) ∧ acc.length < sizeLine ∧ Pv (i + 1) (upd H4 D (.lst (acc ++ [y]))) else Pv (i + 1) H3) (hd : ∀ H, Pv xs.length H → Qd H) :
    ∃ W : Nat → Nat → Hp → Prop, (∃ m, W 0 m (upd H1 D (.lst []))) ∧ ∀ i m H, W i m H →
      ((Ite K a).stop i H ∧ Qd H) ∨ ((Ite K a).go i H ∧ ∃ Nx : Hp → Prop, (∀ H', Nx H' → ∃ m', m' < m ∧ W (i + 1) m' H') ∧ ∀ x H', (Ite K a).yld i H x H' → g x (wipe σ vs) H' fun σ2 H2 => wipe σ2 vs = wipe σ vs ∧ tt σ2 H2 fun b H3 =>
        if b = true then te σ2 H3 fun y H4 => ∃ acc, H4 D = some (.lst acc) ∧ acc.length < sizeLine ∧ Nx (upd H4 D (.lst (acc ++ [y]))) else Nx H3) := by
  refine ⟨fun i m H => m = xs.length - i ∧ i ≤ xs.length ∧ Pv i H, ⟨xs.length, by simp, Nat.zero_le _, h0⟩, ?_⟩
  rintro i m H ⟨rfl, hi, p⟩
  have q := hl i H hi p
  by_cases hlt : i < xs.length
  · refine .inr ⟨⟨xs, xs[i], q, by simp [hlt]⟩, Pv (i + 1), fun H' p' => ⟨xs.length - (i + 1), by omega, rfl, hlt, p'⟩, ?_⟩
    rintro x H' ⟨T, y, rfl, hT, rfl, hy⟩
    exact hs i y T H (hy xs q) p hT
  · have e : i = xs.length := by omega
    subst e
    exact .inl ⟨⟨xs, q, Nat.le_refl _⟩, hd H p⟩
theorem A2at {α : Type} {R : V → α → Prop} : ∀ {vs : List V} {ds : List α} {i : Nat} {d : α}, A2 R vs ds → ds[i]? = some d → ∃ v, atI vs (i : Int) = some v ∧ vs[i]? = some v ∧ R v d := by
  intro vs ds i d h e
  have lt : i < ds.length := (List.getElem?_eq_some_iff.mp e).1
  have lt2 : i < vs.length := by rw [h.len]; exact lt
  obtain ⟨d', e', r⟩ := h.get (List.getElem?_eq_getElem lt2)
  rw [e] at e'
  cases e'
  exact ⟨_, atI_nat (List.getElem?_eq_getElem lt2), List.getElem?_eq_getElem lt2, r⟩
theorem A2set {α : Type} {R : V → α → Prop} : ∀ {vs : List V} {ds : List α} {i : Nat} {v : V} {d : α}, A2 R vs ds → R v d → A2 R (vs.set i v) (ds.set i d)
  | [], [], _, _, _, _, _ => trivial
  | _ :: _, _ :: _, 0, _, _, h, r => ⟨r, h.2⟩
  | _ :: _, _ :: _, i + 1, _, _, h, r => ⟨h.1, A2set h.2 r⟩
/-- t + u of two tuples of the heap: one that holds both, perhaps one of them itself -/
def rCatS : R2 := fun x y H Q => ∃ (a b : Addr) (xs ys : List V), x = .ref a ∧ y = .ref b ∧ H a = some (.tup xs) ∧ H b = some (.tup ys) ∧ xs.length + ys.length ≤ sizeLine ∧
  ∀ (p : Addr) (H' : Hp), Same H H' → H' p = some (.tup (xs ++ ys)) → Q (.ref p) H'
theorem op_catS {X : Cx} : OpR X (binaryOp .Add) rCatS := by
  intro pins s σ H x y v u Q I rx ry h
  obtain ⟨a, b, xs, ys, rfl, rfl, ha, hb, hz, q⟩ := h
  refine op_catA pins s σ H _ _ v u Q I rx ry ⟨a, b, xs, ys, rfl, rfl, SqT.of ha, SqT.of hb, hz, fun e => ?_, fun _ e => ?_, fun _ _ p hp => ?_⟩
  · subst e
    exact q b H (Same.refl _) hb
  · subst e
    exact q a H (Same.refl _) (by rw [List.append_nil]; exact ha)
  · exact q p _ (same_new hp) upd_same
/-- xs != [] and xs == [], whatever the list holds -/
def rNeNil : R2 := fun x y H Q => ∃ (a c : Addr) (xs : List V), x = .ref a ∧ y = .ref c ∧ H a = some (.lst xs) ∧ H c = some (.lst []) ∧ Q (.bl (!xs.isEmpty)) H
def rEqNil : R2 := fun x y H Q => ∃ (a c : Addr) (xs : List V), x = .ref a ∧ y = .ref c ∧ H a = some (.lst xs) ∧ H c = some (.lst []) ∧ Q (.bl xs.isEmpty) H
theorem op_neNil {X : Cx} (hu : X.A.units < cLine) : OpR X (compareOp .NotEq) rNeNil := by
  intro pins s σ H x y v u Q I rx ry hq
  obtain ⟨a, c, xs, rfl, rfl, ha, hc, q⟩ := hq
  cases rx
  cases ry
  obtain ⟨z, its, k, r, e⟩ := I.hok a _ ha
  obtain ⟨z2, its2, k2, r2, e2⟩ := I.hok c _ hc
  cases r2
  have l1 : s.heap.IsList a its.toArray := ⟨_, e, rfl, _, rfl⟩
  have l2 : s.heap.IsList c ([] : List Value).toArray := ⟨_, e2, rfl, _, rfl⟩
  cases r with
  | nil => exact PySem.SeqAt.RcNeAt.lists l1 l2 rfl hu (e := fun _ => true) (fun j h1 _ => absurd h1 (Nat.not_lt_zero _)) X.prog X.w _ _ ⟨.bl false, H, I, rfl, q⟩
  | cons r0 rr => exact PySem.SeqAt.RcNeAt.lists_lengths l1 l2 rfl hu X.prog X.w _ _ ⟨.bl true, H, I, rfl, q⟩
theorem op_eqNil {X : Cx} (hu : X.A.units < cLine) : OpR X (compareOp .Eq) rEqNil := by
  intro pins s σ H x y v u Q I rx ry hq
  obtain ⟨a, c, xs, rfl, rfl, ha, hc, q⟩ := hq
  cases rx
  cases ry
  obtain ⟨z, its, k, r, e⟩ := I.hok a _ ha
  obtain ⟨z2, its2, k2, r2, e2⟩ := I.hok c _ hc
  cases r2
  have l1 : s.heap.IsList a its.toArray := ⟨_, e, rfl, _, rfl⟩
  have l2 : s.heap.IsList c ([] : List Value).toArray := ⟨_, e2, rfl, _, rfl⟩
  cases r with
  | nil => exact PySem.SeqAt.RcAt.lists l1 l2 rfl hu (e := fun _ => true) (fun j h1 _ => absurd h1 (Nat.not_lt_zero _)) X.prog X.w _ _ ⟨.bl true, H, I, rfl, q⟩
  | cons r0 rr => exact PySem.SeqAt.RcAt.lists_lengths l1 l2 rfl hu X.prog X.w _ _ ⟨.bl false, H, I, rfl, q⟩
/-- for a, b in d.items(): each entry in a new pair -/
theorem for_items {d : Addr} {o : Obj} {kvs : List (Key × V)} {g : TG} {tb : TS} {D : Ends} {σ : L2.St} {H : Hp} (Pv : Nat → L2.St → Hp → Prop) (h0 : Pv 0 σ H) (hl : ∀ i σ H, Pv i σ H → H d = some (.frz o (.dK kvs)))
    (hs : ∀ i k v T σ H, kvs[i]? = some (k, v) → Pv i σ H → H T = none → g (.ref T) σ (upd H T (.tup [kV k, v])) fun σ2 H2 => tb { D with nx := Pv (i + 1), ct := Pv (i + 1), bk := D.nx } σ2 H2) (hd : ∀ σ H, Pv kvs.length σ H → D.nx σ H) :
    ∃ W : Nat → Nat → L2.St → Hp → Prop, (∃ m, W 0 m σ H) ∧ ∀ i m σ H, W i m σ H →
      ((Iti d o kvs).stop i H ∧ D.nx σ H) ∨ ((Iti d o kvs).go i H ∧ ∃ N : L2.St → Hp → Prop, (∀ σ' H', N σ' H' → ∃ m', m' < m ∧ W (i + 1) m' σ' H') ∧ ∀ x H', (Iti d o kvs).yld i H x H' → g x σ H' fun σ2 H2 => tb { D with nx := N, ct := N, bk := D.nx } σ2 H2) := by
  refine ⟨fun i m σ H => m = kvs.length - i ∧ i ≤ kvs.length ∧ Pv i σ H, ⟨kvs.length, by simp, Nat.zero_le _, h0⟩, ?_⟩
  rintro i m σ1 H1 ⟨rfl, hi, p⟩
  have q := hl _ _ _ p
  rcases Nat.lt_or_eq_of_le hi with lt | e
  · refine .inr ⟨⟨q, lt⟩, Pv (i + 1), fun σ2 H2 q => ⟨kvs.length - (i + 1), by omega, rfl, lt, q⟩, ?_⟩
    rintro x H2 ⟨T, k, v, hk, rfl, hT, rfl⟩
    exact hs i k v T σ1 H1 hk p hT
  · subst e
    exact .inl ⟨⟨q, Nat.le_refl _⟩, hd _ _ p⟩
end KpR

/-! Kp: a written dict of one pair whose key is a tuple. -/
namespace KpR
open PySem PySem.Spec PyProof.Rows L2
/-- {k: v}, k a tuple of ints and texts; the new dict stands empty while the pair is made -/
def tDispT (tk tv : TE) : TE := fun σ H Q => ∀ p, H p = none → tk σ (upd H p (.dT [])) fun x H1 => tv σ H1 fun v H2 => H2 p = some (.dT []) ∧ ∃ (b : Addr) (k : List L2.Key), x = .ref b ∧ H2 b = some (.tup (k.map kV)) ∧ Q (.ref p) (upd H2 p (.dT [(k, v)]))
def oneP (Q : VK) (p : Addr) : List (V × V) → Hp → Prop
  | [(x, y)], H2 => H2 p = some (.dT []) ∧ ∃ (b : Addr) (kk : List L2.Key), x = .ref b ∧ H2 b = some (.tup (kk.map kV)) ∧ Q (.ref p) (upd H2 p (.dT [(kk, y)]))
  | _, _ => False
theorem oneP_of {tk tv : TE} {σ : L2.St} {H : Hp} {Q : VK} {p : Addr} (h : tk σ H fun x H1 => tv σ H1 fun v H2 => H2 p = some (.dT []) ∧ ∃ (b : Addr) (k : List L2.Key), x = .ref b ∧ H2 b = some (.tup (k.map kV)) ∧ Q (.ref p) (upd H2 p (.dT [(k, v)]))) :
    tPairs [(tk, tv)] σ H (oneP Q p) := h
theorem pe_dispT {X : Cx} {pos : Pos} {k v : Expr} {tk tv : TE} (hu : X.A.units + 1 < cLine) (hk : PE X k tk) (hv : PE X v tv) : PE X (.Dict [some k] [v] pos) (tDispT tk tv) := by
  refine ⟨fun pins s σ H Q I q => ?_⟩
  have hn := I.hok.fresh (Nat.le_refl s.heap.objs.size)
  have I1 := I.laid (a := s.heap.objs.size) (o := .dT []) (h' := s.heap.push { cls := .type "dict", data := .dict #[] }) (t' := s.toks) (fun _ _ q => Heap.get?_push_of_some _ q) (Nat.le_refl _) (dt_empty s.heap I.big)
  have hp := pps_cons (pos := pos) hk hv pps_nil
  have ln : (pairTrees [some k] [v] X.env pos).length = 1 := pairTrees_length [some k] [v] X.env pos rfl rfl
  have ne : pairTrees [some k] [v] X.env pos ≠ [] := fun z => by
    rw [z] at ln
    cases ln
  have room : (tupleKind (mixKind X.prog X.w)).room X.A := by
    show X.A.units < cLine
    omega
  rw [arm_eval_Dict, zip_pairTrees [some k] [v] X.env pos rfl rfl, dictDisplay_pairs _ ne (by omega)]
  refine wpAny_bind (wpAny_standAt (wpAny_bind (wpAny_subDictH (knd := tupleKind (mixKind X.prog X.w)) room (by omega) ?_)))
  refine thn (hp.run pins _ σ _ (oneP Q s.heap.objs.size) I1 (oneP_of (q _ hn))) ?_
  rintro ws s2 ⟨ps, H2, I2, rel, g⟩
  match ps, g, rel with
  | [(x, y)], ⟨e, b, kk, ex, eb, q2⟩, rel =>
    subst ex
    match ws, rel with
    | [(u1, u2)], .cons ⟨ra, rb⟩ .nil =>
      cases (show u1 = Value.ref b from ra)
      obtain ⟨z, hd, xs, r0, dd⟩ := dt_of I2.hok e
      cases r0
      refine ⟨[(kk, b, u2)], ⟨rfl, rfl, key_of I2.hok eb, trivial⟩, dd, fun h' tk dd' hs => wpAny_pure ⟨.ref s.heap.objs.size, _, ?_, rfl, q2⟩⟩
      obtain ⟨q, es, ep, hq, h2, h3, h4, _, h5⟩ := dd'
      refine d_write I2 (by rw [e]; exact True.intro) hs ⟨q, hq⟩ ⟨by show 1 ≤ sizeLine; decide, hd, [(kk, b, u2)], .cons ⟨rfl, ?_, rb⟩ .nil, q, es, ep, hq, h2, h3, h4, h5⟩
      rw [upd_ne (ne_of eb e (fun z => nomatch z))]
      exact eb
end KpR

/-! Kp: sum of a tuple of ints. -/
namespace KpR
open PySem PySem.Spec PyProof.Rows L2
section
variable {prog : Program} {w : World} {A : Around} {E : Value → Shared → Prop} {s : Shared} {l : Addr} {xs : Array (Int × Tok)}
theorem sum_tupG {Q : Value → Shared → Prop} (hh : A.handled = none) (hl : s.heap.IsTuple l (intItems xs))
    (h : ∀ h' tk t', (∀ b o, s.heap.get? b = some o → h'.get? b = some o) → Q (.int (preSum (numAt xs) xs.size) t') { s with heap := h', toks := tk }) :
    wpAny (model prog w) A (call (.builtin "sum") [.ref l]) Q E s := by
  have lt : l < s.heap.objs.size := by
    obtain ⟨o, e, _⟩ := hl
    exact Heap.lt_size e
  refine call_sum_walkG (wpAny_pyIter_tuple hl ?_)
  refine ⟨_, _, [s.heap.objs.size], _, _, _, numAt xs, rfl, Walks.tuple (A := A.in1) hh _ l (Nat.ne_of_lt lt) (intItems xs), ⟨⟨_, Heap.get?_push_size _ rfl, rfl, rfl⟩, hl.push _⟩, fun b hb => ?_, (fun _ _ => intItems_at), fun h' tk t' hk => ?_⟩
  · show b < (s.heap.push _).objs.size
    rw [Heap.size_push]
    rcases List.mem_cons.mp hb with rfl | hb
    · exact Nat.lt_succ_self _
    · rcases List.mem_cons.mp hb with rfl | hb
      · exact Nat.lt_succ_of_lt lt
      · cases hb
  · have := h h' tk t' fun b o e => by
      refine hk b o (fun hm => ?_) (Heap.get?_push_of_some _ e)
      rcases List.mem_cons.mp hm with e1 | hm
      · exact absurd (e1 ▸ Heap.lt_size e) (Nat.lt_irrefl _)
      · cases hm
    simpa [intItems] using this
end
/-- sum(t) of a tuple of ints -/
def rSumT (K : PySem.W.Frag) : List V → Hp → VK → Prop := fun vs H Q => ∃ (a : Addr) (ns : List Int), vs = [V.ref a] ∧ SqT K H a (ns.map V.int) ∧ Q (.int ns.sum) H
theorem cr_sumT {X : Cx} (hc : X.calm = true) : CallR X (.builtin "sum") (rSumT X.K) := by
  intro pins s σ H vs us Q I r h
  obtain ⟨a, ns, rfl, hs, q⟩ := h
  obtain ⟨its, rv, hl, _⟩ := I.tuple hs
  rw [Vals.ref1 r]
  have hi := rv.ints
  obtain ⟨xs, e⟩ := hi.allInts.items
  have hn : numsOf (intItems xs).toList = ns := by rw [← e]; exact hi.numsOf
  rw [nums_intItems] at hn
  rw [e] at hl
  refine sum_tupG (I.ok.hd hc) (let ⟨o, h1, h2, n, h3⟩ := hl; ⟨o, h1, h2, n, h3⟩) fun h' tk t' hk => ⟨.int _, H, I.kept hk, ⟨_, rfl⟩, ?_⟩
  rw [preSum_eq, List.take_of_length_le (by simp), hn]
  exact q
end KpR

/-! Kp: == and != of lists and tuples of ints, whatever the answer; dicts with int keys. -/
namespace KpR
open PySem PySem.Spec PyProof.Rows L2
def pdInts (l : List Int) : List PyData := l.map PyData.int
section
variable {K : PySem.W.Frag} {H : Hp}
theorem dpInts : ∀ l : List Int, DpAll K H (l.map V.int) (pdInts l)
  | [] => .nil
  | i :: l => .cons (.int i) (dpInts l)
theorem flatT (l : List Int) : Flat 1 (.tuple (pdInts l)) := Flat.tup fun _ _ => Flat.int
theorem flatL (l : List Int) : Flat 1 (.list (pdInts l)) := Flat.list fun _ _ => Flat.int
theorem eqvInts (l m : List Int) : PyData.eqvAll (pdInts l) (pdInts m) = decide (l = m) := eqv_map fun _ _ => eqv_int
theorem eqTI {a b : Addr} {l m : List Int} {Q : VK} (h1 : SqT K H a (l.map V.int)) (h2 : SqT K H b (m.map V.int)) (q : Q (.bl (decide (l = m))) H) : rEqD K (.ref a) (.ref b) H Q := by
  refine eqD (.tup h1 (dpInts l)) (.tup h2 (dpInts m)) ((flatT l).mono (by decide)) ((flatT m).mono (by decide)) ?_
  simp only [PyData.eqv, eqvInts]
  exact q
theorem neTI {a b : Addr} {l m : List Int} {Q : VK} (h1 : SqT K H a (l.map V.int)) (h2 : SqT K H b (m.map V.int)) (q : Q (.bl (!decide (l = m))) H) : rNeD K (.ref a) (.ref b) H Q := by
  refine neD (.tup h1 (dpInts l)) (.tup h2 (dpInts m)) ((flatT l).mono (by decide)) ((flatT m).mono (by decide)) ?_
  simp only [PyData.eqv, eqvInts]
  exact q
theorem eqLI {a b : Addr} {l m : List Int} {Q : VK} (h1 : SqL K H a (l.map V.int)) (h2 : SqL K H b (m.map V.int)) (q : Q (.bl (decide (l = m))) H) : rEqD K (.ref a) (.ref b) H Q := by
  refine eqD (.lst h1 (dpInts l)) (.lst h2 (dpInts m)) ((flatL l).mono (by decide)) ((flatL m).mono (by decide)) ?_
  simp only [PyData.eqv, eqvInts]
  exact q
theorem neLI {a b : Addr} {l m : List Int} {Q : VK} (h1 : SqL K H a (l.map V.int)) (h2 : SqL K H b (m.map V.int)) (q : Q (.bl (!decide (l = m))) H) : rNeD K (.ref a) (.ref b) H Q := by
  refine neD (.lst h1 (dpInts l)) (.lst h2 (dpInts m)) ((flatL l).mono (by decide)) ((flatL m).mono (by decide)) ?_
  simp only [PyData.eqv, eqvInts]
  exact q
end
theorem cut_takeT {xs : List V} {n : Nat} : cutV xs none (some (n : Int)) = xs.take n := by
  unfold cutV
  rw [HT.sIx_nat, HT.sIx_none, List.drop_zero, Nat.sub_zero]
  by_cases h : n ≤ xs.length
  · rw [Nat.min_eq_left h]
  · rw [Nat.min_eq_right (by omega), List.take_length, List.take_of_length_le (by omega)]
/-! dicts -/
theorem putK_new {kvs : List (Key × V)} {k : Key} {v : V} (h : ∀ p ∈ kvs, p.1 ≠ k) : putK kvs k v = kvs ++ [(k, v)] := by
  unfold putK
  rw [if_neg]
  intro z
  obtain ⟨p, hp, e⟩ := List.any_eq_true.mp z
  exact h p hp (of_decide_eq_true e)
theorem putK_last {kvs : List (Key × V)} {k : Key} {u v : V} (h : ∀ p ∈ kvs, p.1 ≠ k) : putK (kvs ++ [(k, u)]) k v = kvs ++ [(k, v)] := by
  unfold putK
  rw [if_pos (by simp), List.map_append]
  congr 1
  · conv => rhs; rw [← List.map_id kvs]
    exact List.map_congr_left fun p hp => by rw [if_neg (h p hp)]; rfl
  · simp
/-- sameness but for two things -/
def Fr2 (w q : Addr) (H H' : Hp) : Prop := ∀ b o, b ≠ w → b ≠ q → H b = some o → H' b = some o
end KpR




namespace Kp
open PySem PySem.Spec PyProof.Rows L2 KpR
def topS (i : Nat) : Stmt := PySem.Challenge.pw_wholedrops_k57_whole_rounds_led_on_and_d.main.body.getD i (.Pass ⟨0, 0, 0, 0⟩)
abbrev scheckmuch : Stmt := topS 19
abbrev scheckjar : Stmt := topS 20
abbrev scheckdeed : Stmt := topS 21
abbrev sJarsInit : Stmt := inClass (topS 12) 0
abbrev sPourInit : Stmt := inClass (topS 14) 0
abbrev sPutInit : Stmt := inClass (topS 15) 0
abbrev sDrawInit : Stmt := inClass (topS 16) 0
abbrev sChangeInit : Stmt := inClass (topS 17) 0
abbrev sRowInit : Stmt := inClass (topS 18) 0
abbrev scheckstart : Stmt := topS 24
abbrev sbehinddeed : Stmt := topS 25
abbrev sbehindround : Stmt := topS 26
abbrev sbehind : Stmt := topS 27
abbrev sfate : Stmt := topS 30
abbrev sLcellat : Stmt := topS 32
abbrev sLwell : Stmt := topS 33
abbrev sLdraw : Stmt := topS 34
abbrev sLsizes : Stmt := topS 36
abbrev sLdeed : Stmt := topS 37
abbrev sLdeeds : Stmt := topS 38
abbrev sLdeedmade : Stmt := topS 39
abbrev sLrow : Stmt := topS 40
abbrev sLstart : Stmt := topS 42
abbrev sLgreat : Stmt := topS 43
abbrev sLshared : Stmt := topS 44
abbrev sLtimes : Stmt := topS 45
abbrev sLgreatright : Stmt := topS 46
abbrev sLoftenright : Stmt := topS 47
abbrev sLlaterright : Stmt := topS 48
abbrev slaw : Stmt := topS 49
theorem sccheckmuch : FnScope ["what", "much"] ["what", "much"] (defScope scheckmuch) := ⟨rfl, rfl, rfl, by decide +kernel, rfl, by decide +kernel, by decide +kernel⟩
theorem sccheckjar : FnScope ["jars", "jar"] ["jars", "jar"] (defScope scheckjar) := ⟨rfl, rfl, rfl, by decide +kernel, rfl, by decide +kernel, by decide +kernel⟩
theorem sccheckdeed : FnScope ["jars", "deed"] ["jars", "deed"] (defScope scheckdeed) := ⟨rfl, rfl, rfl, by decide +kernel, rfl, by decide +kernel, by decide +kernel⟩
theorem scJarsInit : FnScope ["self", "sizes", "size"] ["self", "sizes"] (defScope sJarsInit) := ⟨rfl, rfl, rfl, by decide +kernel, rfl, by decide +kernel, by decide +kernel⟩
theorem scPourInit : FnScope ["self", "a", "b"] ["self", "a", "b"] (defScope sPourInit) := ⟨rfl, rfl, rfl, by decide +kernel, rfl, by decide +kernel, by decide +kernel⟩
theorem scPutInit : FnScope ["self", "a", "k"] ["self", "a", "k"] (defScope sPutInit) := ⟨rfl, rfl, rfl, by decide +kernel, rfl, by decide +kernel, by decide +kernel⟩
theorem scDrawInit : FnScope ["self", "a", "k"] ["self", "a", "k"] (defScope sDrawInit) := ⟨rfl, rfl, rfl, by decide +kernel, rfl, by decide +kernel, by decide +kernel⟩
theorem scChangeInit : FnScope ["self", "a", "b"] ["self", "a", "b"] (defScope sChangeInit) := ⟨rfl, rfl, rfl, by decide +kernel, rfl, by decide +kernel, by decide +kernel⟩
theorem scRowInit : FnScope ["self", "jars", "deeds", "deed"] ["self", "jars", "deeds"] (defScope sRowInit) := ⟨rfl, rfl, rfl, by decide +kernel, rfl, by decide +kernel, by decide +kernel⟩
theorem sccheckstart : FnScope ["jars", "start", "parts", "jar", "size"] ["jars", "start", "parts"] (defScope scheckstart) := ⟨rfl, rfl, rfl, by decide +kernel, rfl, by decide +kernel, by decide +kernel⟩
theorem scbehinddeed : FnScope ["jars", "deed", "stand", "parts", "after", "a", "b", "moved"] ["jars", "deed", "stand", "parts"] (defScope sbehinddeed) := ⟨rfl, rfl, rfl, by decide +kernel, rfl, by decide +kernel, by decide +kernel⟩
theorem scbehindround : FnScope ["row", "stand", "parts", "after", "deed"] ["row", "stand", "parts"] (defScope sbehindround) := ⟨rfl, rfl, rfl, by decide +kernel, rfl, by decide +kernel, by decide +kernel⟩
theorem scbehind : FnScope ["row", "start", "parts", "times", "stand", "_"] ["row", "start", "parts", "times"] (defScope sbehind) := ⟨rfl, rfl, rfl, by decide +kernel, rfl, by decide +kernel, by decide +kernel⟩
theorem scfate : FnScope ["row", "start", "parts", "stand", "seen", "rounds"] ["row", "start", "parts"] (defScope sfate) := ⟨rfl, rfl, rfl, by decide +kernel, rfl, by decide +kernel, by decide +kernel⟩
theorem scLcellat : FnScope ["_law_script", "_law_k"] ["_law_script", "_law_k"] (defScope sLcellat) := ⟨rfl, rfl, rfl, by decide +kernel, rfl, by decide +kernel, by decide +kernel⟩
theorem scLwell : FnScope ["_law_cell"] ["_law_cell"] (defScope sLwell) := ⟨rfl, rfl, rfl, by decide +kernel, rfl, by decide +kernel, by decide +kernel⟩
theorem scLdraw : FnScope ["_law_well_here", "_law_size", "_law_digit", "_law_mixed"] ["_law_well_here", "_law_size"] (defScope sLdraw) := ⟨rfl, rfl, rfl, by decide +kernel, rfl, by decide +kernel, by decide +kernel⟩
theorem scLsizes : FnScope ["_law_well_here", "_law_jars", "_law_most", "_law_first", "_law_k"] ["_law_well_here", "_law_jars", "_law_most"] (defScope sLsizes) := ⟨rfl, rfl, rfl, by decide +kernel, rfl, by decide +kernel, by decide +kernel⟩
theorem scLdeed : FnScope ["_law_well_here", "_law_sizes_here", "_law_a", "_law_b", "_law_way", "_law_much"] ["_law_well_here", "_law_sizes_here"] (defScope sLdeed) := ⟨rfl, rfl, rfl, by decide +kernel, rfl, by decide +kernel, by decide +kernel⟩
theorem scLdeeds : FnScope ["_law_well_here", "_law_sizes_here", "_law_most", "_law_found", "_law_k", "_law_deed_here"] ["_law_well_here", "_law_sizes_here", "_law_most"] (defScope sLdeeds) := ⟨rfl, rfl, rfl, by decide +kernel, rfl, by decide +kernel, by decide +kernel⟩
theorem scLdeedmade : FnScope ["_law_word", "_law_a", "_law_last"] ["_law_word", "_law_a", "_law_last"] (defScope sLdeedmade) := ⟨rfl, rfl, rfl, by decide +kernel, rfl, by decide +kernel, by decide +kernel⟩
theorem scLrow : FnScope ["_law_sizes_here", "_law_deeds_here", "_law_word", "_law_a", "_law_last"] ["_law_sizes_here", "_law_deeds_here"] (defScope sLrow) := ⟨rfl, rfl, rfl, by decide +kernel, rfl, by decide +kernel, by decide +kernel⟩
theorem scLstart : FnScope ["_law_well_here", "_law_sizes_here", "_law_shares", "_law_size"] ["_law_well_here", "_law_sizes_here", "_law_shares"] (defScope sLstart) := ⟨rfl, rfl, rfl, by decide +kernel, rfl, by decide +kernel, by decide +kernel⟩
theorem scLgreat : FnScope ["_law_well_here"] ["_law_well_here"] (defScope sLgreat) := ⟨rfl, rfl, rfl, by decide +kernel, rfl, by decide +kernel, by decide +kernel⟩
theorem scLshared : FnScope ["_law_one", "_law_other"] ["_law_one", "_law_other"] (defScope sLshared) := ⟨rfl, rfl, rfl, by decide +kernel, rfl, by decide +kernel, by decide +kernel⟩
theorem scLtimes : FnScope ["_law_sizes_here", "_law_deeds_here", "_law_by", "_law_found", "_law_word", "_law_a", "_law_last", "_law_size"] ["_law_sizes_here", "_law_deeds_here", "_law_by"] (defScope sLtimes) := ⟨rfl, rfl, rfl, by decide +kernel, rfl, by decide +kernel, by decide +kernel⟩
theorem scLgreatright : FnScope ["_law_well_here", "_law_sizes_here", "_law_deeds_here", "_law_start_here", "_law_shares", "_law_by", "_law_due", "_law_wide", "_law_wide_deeds", "_law_great_here", "_law_number"] ["_law_well_here", "_law_sizes_here", "_law_deeds_here", "_law_start_here", "_law_shares"] (defScope sLgreatright) := ⟨rfl, rfl, rfl, by decide +kernel, rfl, by decide +kernel, by decide +kernel⟩
theorem scLoftenright : FnScope ["_law_well_here", "_law_sizes_here", "_law_deeds_here", "_law_start_here", "_law_shares", "_law_tail", "_law_ring", "_law_often", "_law_due"] ["_law_well_here", "_law_sizes_here", "_law_deeds_here", "_law_start_here", "_law_shares"] (defScope sLoftenright) := ⟨rfl, rfl, rfl, by decide +kernel, rfl, by decide +kernel, by decide +kernel⟩
theorem scLlaterright : FnScope ["_law_sizes_here", "_law_deeds_here", "_law_start_here", "_law_shares", "_law_row_here", "_law_tail", "_law_ring", "_law_later", "_law_stand", "_law_ahead"] ["_law_sizes_here", "_law_deeds_here", "_law_start_here", "_law_shares"] (defScope sLlaterright) := ⟨rfl, rfl, rfl, by decide +kernel, rfl, by decide +kernel, by decide +kernel⟩
theorem sclaw : FnScope ["_law_script", "_law_cell", "_law_well_here", "_law_sizes_here", "_law_deeds_here", "_law_shares", "_law_start_here"] ["_law_script"] (defScope slaw) := ⟨rfl, rfl, rfl, by decide +kernel, rfl, by decide +kernel, by decide +kernel⟩
structure TyIns (K : PySem.W.Frag) (C : Addr) : Prop where
  ha : PySem.W.findIn K (.ref C) "__class__" = some (some (.builtin "object.__class__"))
  hn : PySem.W.specialIn K (.builtin "object.__class__") "__get__" = some (some (.builtin "getset_descriptor.__get__"))
  ht : PySem.W.takesIn K (.builtin "object.__class__") = some true
  hm : PySem.W.mroIn K C (.type "object") = some true
structure Tx (K : PySem.W.Frag) (mg : Str → Option Value) : Type where
  cJars : Addr
  cPour : Addr
  cPut : Addr
  cDraw : Addr
  cChange : Addr
  cRow : Addr
  acheckmuch : Addr
  dcheckmuch : FuncData
  acheckjar : Addr
  dcheckjar : FuncData
  acheckdeed : Addr
  dcheckdeed : FuncData
  aJarsInit : Addr
  dJarsInit : FuncData
  aPourInit : Addr
  dPourInit : FuncData
  aPutInit : Addr
  dPutInit : FuncData
  aDrawInit : Addr
  dDrawInit : FuncData
  aChangeInit : Addr
  dChangeInit : FuncData
  aRowInit : Addr
  dRowInit : FuncData
  acheckstart : Addr
  dcheckstart : FuncData
  abehinddeed : Addr
  dbehinddeed : FuncData
  abehindround : Addr
  dbehindround : FuncData
  abehind : Addr
  dbehind : FuncData
  afate : Addr
  dfate : FuncData
  aLcellat : Addr
  dLcellat : FuncData
  aLwell : Addr
  dLwell : FuncData
  aLdraw : Addr
  dLdraw : FuncData
  aLsizes : Addr
  dLsizes : FuncData
  aLdeed : Addr
  dLdeed : FuncData
  aLdeeds : Addr
  dLdeeds : FuncData
  aLdeedmade : Addr
  dLdeedmade : FuncData
  aLrow : Addr
  dLrow : FuncData
  aLstart : Addr
  dLstart : FuncData
  aLgreat : Addr
  dLgreat : FuncData
  aLshared : Addr
  dLshared : FuncData
  aLtimes : Addr
  dLtimes : FuncData
  aLgreatright : Addr
  dLgreatright : FuncData
  aLoftenright : Addr
  dLoftenright : FuncData
  aLlaterright : Addr
  dLlaterright : FuncData
  alaw : Addr
  dlaw : FuncData
  tMOSTJARS : Tok
  tMOSTDEEDS : Tok
  tMOSTMUCH : Tok
  tMOSTTIMES : Tok
  tMOSTROUNDS : Tok
  fcheckmuch : Fun K "check_much" "check_much" scheckmuch acheckmuch dcheckmuch
  bcheckmuch : Binds K dcheckmuch ["what", "much"] []
  gcheckmuch : mg "check_much" = some (.ref acheckmuch)
  fcheckjar : Fun K "check_jar" "check_jar" scheckjar acheckjar dcheckjar
  bcheckjar : Binds K dcheckjar ["jars", "jar"] []
  gcheckjar : mg "check_jar" = some (.ref acheckjar)
  fcheckdeed : Fun K "check_deed" "check_deed" scheckdeed acheckdeed dcheckdeed
  bcheckdeed : Binds K dcheckdeed ["jars", "deed"] []
  gcheckdeed : mg "check_deed" = some (.ref acheckdeed)
  fJarsInit : Fun K "__init__" "Jars.__init__" sJarsInit aJarsInit dJarsInit
  bJarsInit : Binds K dJarsInit ["self", "sizes"] []
  fPourInit : Fun K "__init__" "Pour.__init__" sPourInit aPourInit dPourInit
  bPourInit : Binds K dPourInit ["self", "a", "b"] []
  fPutInit : Fun K "__init__" "Put.__init__" sPutInit aPutInit dPutInit
  bPutInit : Binds K dPutInit ["self", "a", "k"] []
  fDrawInit : Fun K "__init__" "Draw.__init__" sDrawInit aDrawInit dDrawInit
  bDrawInit : Binds K dDrawInit ["self", "a", "k"] []
  fChangeInit : Fun K "__init__" "Change.__init__" sChangeInit aChangeInit dChangeInit
  bChangeInit : Binds K dChangeInit ["self", "a", "b"] []
  fRowInit : Fun K "__init__" "Row.__init__" sRowInit aRowInit dRowInit
  bRowInit : Binds K dRowInit ["self", "jars", "deeds"] []
  fcheckstart : Fun K "check_start" "check_start" scheckstart acheckstart dcheckstart
  bcheckstart : Binds K dcheckstart ["jars", "start", "parts"] []
  gcheckstart : mg "check_start" = some (.ref acheckstart)
  fbehinddeed : Fun K "behind_deed" "behind_deed" sbehinddeed abehinddeed dbehinddeed
  bbehinddeed : Binds K dbehinddeed ["jars", "deed", "stand", "parts"] []
  gbehinddeed : mg "behind_deed" = some (.ref abehinddeed)
  fbehindround : Fun K "behind_round" "behind_round" sbehindround abehindround dbehindround
  bbehindround : Binds K dbehindround ["row", "stand", "parts"] []
  gbehindround : mg "behind_round" = some (.ref abehindround)
  fbehind : FunD K "behind" "behind" (defArgs sbehind) (defBody sbehind) (defScope sbehind) [] [("parts", .int 1), ("times", .int 1)] abehind dbehind
  gbehind : mg "behind" = some (.ref abehind)
  ffate : FunD K "fate" "fate" (defArgs sfate) (defBody sfate) (defScope sfate) [] [("parts", .int 1)] afate dfate
  gfate : mg "fate" = some (.ref afate)
  fLcellat : Fun K "_law_cell_at" "_law_cell_at" sLcellat aLcellat dLcellat
  bLcellat : Binds K dLcellat ["_law_script", "_law_k"] []
  gLcellat : mg "_law_cell_at" = some (.ref aLcellat)
  fLwell : Fun K "_law_well" "_law_well" sLwell aLwell dLwell
  bLwell : Binds K dLwell ["_law_cell"] []
  gLwell : mg "_law_well" = some (.ref aLwell)
  fLdraw : Fun K "_law_draw" "_law_draw" sLdraw aLdraw dLdraw
  bLdraw : Binds K dLdraw ["_law_well_here", "_law_size"] []
  gLdraw : mg "_law_draw" = some (.ref aLdraw)
  fLsizes : Fun K "_law_sizes" "_law_sizes" sLsizes aLsizes dLsizes
  bLsizes : Binds K dLsizes ["_law_well_here", "_law_jars", "_law_most"] []
  gLsizes : mg "_law_sizes" = some (.ref aLsizes)
  fLdeed : Fun K "_law_deed" "_law_deed" sLdeed aLdeed dLdeed
  bLdeed : Binds K dLdeed ["_law_well_here", "_law_sizes_here"] []
  gLdeed : mg "_law_deed" = some (.ref aLdeed)
  fLdeeds : Fun K "_law_deeds" "_law_deeds" sLdeeds aLdeeds dLdeeds
  bLdeeds : Binds K dLdeeds ["_law_well_here", "_law_sizes_here", "_law_most"] []
  gLdeeds : mg "_law_deeds" = some (.ref aLdeeds)
  fLdeedmade : Fun K "_law_deed_made" "_law_deed_made" sLdeedmade aLdeedmade dLdeedmade
  bLdeedmade : Binds K dLdeedmade ["_law_word", "_law_a", "_law_last"] []
  gLdeedmade : mg "_law_deed_made" = some (.ref aLdeedmade)
  fLrow : Fun K "_law_row" "_law_row" sLrow aLrow dLrow
  bLrow : Binds K dLrow ["_law_sizes_here", "_law_deeds_here"] []
  gLrow : mg "_law_row" = some (.ref aLrow)
  fLstart : Fun K "_law_start" "_law_start" sLstart aLstart dLstart
  bLstart : Binds K dLstart ["_law_well_here", "_law_sizes_here", "_law_shares"] []
  gLstart : mg "_law_start" = some (.ref aLstart)
  fLgreat : Fun K "_law_great" "_law_great" sLgreat aLgreat dLgreat
  bLgreat : Binds K dLgreat ["_law_well_here"] []
  gLgreat : mg "_law_great" = some (.ref aLgreat)
  fLshared : Fun K "_law_shared" "_law_shared" sLshared aLshared dLshared
  bLshared : Binds K dLshared ["_law_one", "_law_other"] []
  gLshared : mg "_law_shared" = some (.ref aLshared)
  fLtimes : Fun K "_law_times" "_law_times" sLtimes aLtimes dLtimes
  bLtimes : Binds K dLtimes ["_law_sizes_here", "_law_deeds_here", "_law_by"] []
  gLtimes : mg "_law_times" = some (.ref aLtimes)
  fLgreatright : Fun K "_law_great_right" "_law_great_right" sLgreatright aLgreatright dLgreatright
  bLgreatright : Binds K dLgreatright ["_law_well_here", "_law_sizes_here", "_law_deeds_here", "_law_start_here", "_law_shares"] []
  gLgreatright : mg "_law_great_right" = some (.ref aLgreatright)
  fLoftenright : Fun K "_law_often_right" "_law_often_right" sLoftenright aLoftenright dLoftenright
  bLoftenright : Binds K dLoftenright ["_law_well_here", "_law_sizes_here", "_law_deeds_here", "_law_start_here", "_law_shares"] []
  gLoftenright : mg "_law_often_right" = some (.ref aLoftenright)
  fLlaterright : Fun K "_law_later_right" "_law_later_right" sLlaterright aLlaterright dLlaterright
  bLlaterright : Binds K dLlaterright ["_law_sizes_here", "_law_deeds_here", "_law_start_here", "_law_shares"] []
  gLlaterright : mg "_law_later_right" = some (.ref aLlaterright)
  flaw : Fun K "law" "law" slaw alaw dlaw
  blaw : Binds K dlaw ["_law_script"] []
  glaw : mg "law" = some (.ref alaw)
  mJars : mg "Jars" = some (.ref cJars)
  lJars : Cls K cJars
  kJars : Mk K cJars aJarsInit
  nJars_sizes : NoAttr K cJars "sizes"
  mPour : mg "Pour" = some (.ref cPour)
  lPour : Cls K cPour
  kPour : Mk K cPour aPourInit
  nPour_a : NoAttr K cPour "a"
  nPour_b : NoAttr K cPour "b"
  mPut : mg "Put" = some (.ref cPut)
  lPut : Cls K cPut
  kPut : Mk K cPut aPutInit
  nPut_a : NoAttr K cPut "a"
  nPut_k : NoAttr K cPut "k"
  mDraw : mg "Draw" = some (.ref cDraw)
  lDraw : Cls K cDraw
  kDraw : Mk K cDraw aDrawInit
  nDraw_a : NoAttr K cDraw "a"
  nDraw_k : NoAttr K cDraw "k"
  mChange : mg "Change" = some (.ref cChange)
  lChange : Cls K cChange
  kChange : Mk K cChange aChangeInit
  nChange_a : NoAttr K cChange "a"
  nChange_b : NoAttr K cChange "b"
  mRow : mg "Row" = some (.ref cRow)
  lRow : Cls K cRow
  kRow : Mk K cRow aRowInit
  nRow_jars : NoAttr K cRow "jars"
  nRow_deeds : NoAttr K cRow "deeds"
  yChange : TyIns K cChange
  yDraw : TyIns K cDraw
  yPour : TyIns K cPour
  yPut : TyIns K cPut
  iPour_Put : PySem.W.kitOne K (.ref cPour) (.ref cPut) = some false
  iPour_Draw : PySem.W.kitOne K (.ref cPour) (.ref cDraw) = some false
  iPour_Pour : PySem.W.kitOne K (.ref cPour) (.ref cPour) = some true
  iPour_Change : PySem.W.kitOne K (.ref cPour) (.ref cChange) = some false
  iPut_Put : PySem.W.kitOne K (.ref cPut) (.ref cPut) = some true
  iPut_Draw : PySem.W.kitOne K (.ref cPut) (.ref cDraw) = some false
  iPut_Pour : PySem.W.kitOne K (.ref cPut) (.ref cPour) = some false
  iPut_Change : PySem.W.kitOne K (.ref cPut) (.ref cChange) = some false
  iDraw_Put : PySem.W.kitOne K (.ref cDraw) (.ref cPut) = some false
  iDraw_Draw : PySem.W.kitOne K (.ref cDraw) (.ref cDraw) = some true
  iDraw_Pour : PySem.W.kitOne K (.ref cDraw) (.ref cPour) = some false
  iDraw_Change : PySem.W.kitOne K (.ref cDraw) (.ref cChange) = some false
  iChange_Put : PySem.W.kitOne K (.ref cChange) (.ref cPut) = some false
  iChange_Draw : PySem.W.kitOne K (.ref cChange) (.ref cDraw) = some false
  iChange_Pour : PySem.W.kitOne K (.ref cChange) (.ref cPour) = some false
  iChange_Change : PySem.W.kitOne K (.ref cChange) (.ref cChange) = some true
  cMOSTJARS : mg "MOST_JARS" = some (.int 6 tMOSTJARS)
  cMOSTDEEDS : mg "MOST_DEEDS" = some (.int 20 tMOSTDEEDS)
  cMOSTMUCH : mg "MOST_MUCH" = some (.int 1000000000000 tMOSTMUCH)
  cMOSTTIMES : mg "MOST_TIMES" = some (.int 1000 tMOSTTIMES)
  cMOSTROUNDS : mg "MOST_ROUNDS" = some (.int 20000 tMOSTROUNDS)
  nenumerate : mg "enumerate" = none
  nint : mg "int" = none
  nisinstance : mg "isinstance" = none
  nlen : mg "len" = none
  nlist : mg "list" = none
  nmax : mg "max" = none
  nmin : mg "min" = none
  nrange : mg "range" = none
  ntuple : mg "tuple" = none
/-! ### fields -/
theorem put2 {a b : Str} {u v : V} (h : ¬ a = b) : putF b v (putF a u []) = ([(a, u), (b, v)] : List (Str × V)) := by
  show (if a = b then [(a, v)] else (a, u) :: putF b v []) = [(a, u), (b, v)]
  rw [if_neg h]
  rfl
theorem put_app {b : Str} {v : V} : ∀ {l : List (Str × V)}, (∀ p ∈ l, ¬ p.1 = b) → putF b v l = l ++ [(b, v)]
  | [], _ => rfl
  | (a, u) :: r, h => by
    show (if a = b then (a, v) :: r else (a, u) :: putF b v r) = (a, u) :: (r ++ [(b, v)])
    rw [if_neg (h (a, u) (List.mem_cons_self ..)), put_app fun p hp => h p (List.mem_cons_of_mem _ hp)]
theorem lk1 {a : Str} {x : V} {r : List (Str × V)} : List.lookup a ((a, x) :: r) = some x := by simp [List.lookup]
theorem lkS {a b : Str} {x : V} {r : List (Str × V)} (h : ¬ b = a) : List.lookup b ((a, x) :: r) = List.lookup b r := by
  have : (b == a) = false := by simpa using h
  simp [List.lookup, this]
theorem lk2 {a b : Str} {x y : V} {r : List (Str × V)} (h : ¬ b = a) : List.lookup b ((a, x) :: (b, y) :: r) = some y := (lkS h).trans lk1
theorem lk3 {a b c : Str} {x y z : V} {r : List (Str × V)} (h : ¬ c = a) (h2 : ¬ c = b) : List.lookup c ((a, x) :: (b, y) :: (c, z) :: r) = some z := (lkS h).trans ((lkS h2).trans lk1)
theorem lk4 {a b c d : Str} {x y z w : V} {r : List (Str × V)} (h : ¬ d = a) (h2 : ¬ d = b) (h3 : ¬ d = c) : List.lookup d ((a, x) :: (b, y) :: (c, z) :: (d, w) :: r) = some w := (lkS h).trans ((lkS h2).trans ((lkS h3).trans lk1))
theorem lk5 {a b c d e : Str} {x y z w q : V} {r : List (Str × V)} (h : ¬ e = a) (h2 : ¬ e = b) (h3 : ¬ e = c) (h4 : ¬ e = d) : List.lookup e ((a, x) :: (b, y) :: (c, z) :: (d, w) :: (e, q) :: r) = some q := (lkS h).trans ((lkS h2).trans ((lkS h3).trans ((lkS h4).trans lk1)))
def rLenK (K : PySem.W.Frag) : List V → Hp → VK → Prop := fun xs H Q => ∃ p ys, xs = [V.ref p] ∧ (SqL K H p ys ∨ SqT K H p ys) ∧ Q (V.int (ys.length : Nat)) H
/-! ### things in the heap -/
section
variable {K : PySem.W.Frag} {mg : Str → Option Value}
def f1s (a : Str) (x : V) : List (Str × V) := [(a, x)]
def f2s (a : Str) (x : V) (b : Str) (y : V) : List (Str × V) := [(a, x), (b, y)]
/-- what a grower holds -/
def fgs (x y : V) (n : Int) : List (Str × V) := [("jars", x), ("deeds", y), ("leaves", .int n)]
def DeedAt (T : Tx K mg) (H : Hp) (v : V) (d : D) : Prop := ∃ p dx, v = .ref p ∧ match d with
  | .pour a b => H p = some (.ins T.cPour dx (f2s "a" (.int a) "b" (.int b)))
  | .put a k => H p = some (.ins T.cPut dx (f2s "a" (.int a) "k" (.int k)))
  | .draw a k => H p = some (.ins T.cDraw dx (f2s "a" (.int a) "k" (.int k)))
  | .change a b => H p = some (.ins T.cChange dx (f2s "a" (.int a) "b" (.int b)))
def JarsAt (T : Tx K mg) (H : Hp) (p : Addr) (caps : List Int) : Prop := ∃ dx t, H p = some (.ins T.cJars dx (f1s "sizes" (.ref t))) ∧ H t = some (.tup (vi caps))
def RowAt (T : Tx K mg) (H : Hp) (r : Addr) (caps : List Int) (ds : List D) : Prop := ∃ dx j t vs, H r = some (.ins T.cRow dx (f2s "jars" (.ref j) "deeds" (.ref t))) ∧ JarsAt T H j caps ∧ H t = some (.tup vs) ∧ A2 (DeedAt T H) vs ds
theorem DeedAt.same {T : Tx K mg} {H H' : Hp} {v : V} {d : D} (e : Same H H') (h : DeedAt T H v d) : DeedAt T H' v d := by
  obtain ⟨p, dx, rfl, h⟩ := h
  refine ⟨p, dx, rfl, ?_⟩
  cases d <;> exact e _ _ h
theorem JarsAt.same {T : Tx K mg} {H H' : Hp} {p : Addr} {caps : List Int} (e : Same H H') (h : JarsAt T H p caps) : JarsAt T H' p caps := by
  obtain ⟨dx, t, h1, h2⟩ := h
  exact ⟨dx, t, e _ _ h1, e _ _ h2⟩
theorem RowAt.same {T : Tx K mg} {H H' : Hp} {p : Addr} {caps : List Int} {ds : List D} (e : Same H H') (h : RowAt T H p caps ds) : RowAt T H' p caps ds := by
  obtain ⟨dx, j, t, vs, h1, h2, h3, h4⟩ := h
  exact ⟨dx, j, t, vs, e _ _ h1, h2.same e, e _ _ h3, A2.mono (fun _ _ q => q.same e) h4⟩
/-- a list, an instance without fields, or a grower: what a def may change -/
def Blank (o : HO) : Prop := (∃ ws, o = .lst ws) ∨ (∃ C dx, o = .ins C dx []) ∨ (∃ C dx x y n, o = .ins C dx (fgs x y n)) ∨ ∃ kvs, o = .dK kvs
theorem bl_l {ws : List V} : Blank (.lst ws) := .inl ⟨ws, rfl⟩
theorem bl_i {C dx : Addr} : Blank (.ins C dx []) := .inr (.inl ⟨C, dx, rfl⟩)
theorem bl_g {C dx : Addr} {x y : V} {n : Int} : Blank (.ins C dx (fgs x y n)) := .inr (.inr (.inl ⟨C, dx, x, y, n, rfl⟩))
theorem bl_d {kvs : List (Key × V)} : Blank (.dK kvs) := .inr (.inr (.inr ⟨kvs, rfl⟩))
theorem nbI {C dx : Addr} {fs : List (Str × V)} (h0 : fs ≠ []) (h : ∀ x y n, fs ≠ fgs x y n) : ¬ Blank (.ins C dx fs) := by
  rintro (⟨_, z⟩ | ⟨_, _, z⟩ | ⟨_, _, x, y, n, z⟩ | ⟨_, z⟩)
  · cases z
  · injection z with _ _ z
    exact h0 z
  · injection z with _ _ z
    exact h x y n z
  · cases z
theorem nb1 {C dx : Addr} {a : Str} {x : V} : ¬ Blank (.ins C dx (f1s a x)) := nbI (fun z => by cases z) fun _ _ _ z => by simp [f1s, fgs] at z
theorem nb2 {C dx : Addr} {a b : Str} {x y : V} : ¬ Blank (.ins C dx (f2s a x b y)) := nbI (fun z => by cases z) fun _ _ _ z => by simp [f2s, fgs] at z
theorem nbT {xs : List V} : ¬ Blank (.tup xs) := by
  rintro (⟨_, z⟩ | ⟨_, _, z⟩ | ⟨_, _, _, _, _, z⟩ | ⟨_, z⟩) <;> cases z
/-- all but one thing at w stays: what is no list stays -/
theorem fr_no {w : Addr} {H H' : Hp} {u : HO} {b : Addr} {o : HO} (e : Fr w H H') (hw : H w = some u) (hb : Blank u) (h : H b = some o) (n : ¬ Blank o) : H' b = some o :=
  e b o (fun z => by rw [z, hw] at h; cases h; exact n hb) h
theorem DeedAt.fr {T : Tx K mg} {w : Addr} {H H' : Hp} {u : HO} {v : V} {d : D} (e : Fr w H H') (hw : H w = some u) (hb : Blank u) (h : DeedAt T H v d) : DeedAt T H' v d := by
  obtain ⟨p, dx, rfl, h⟩ := h
  refine ⟨p, dx, rfl, ?_⟩
  cases d <;> exact fr_no e hw hb h nb2
theorem JarsAt.fr {T : Tx K mg} {w : Addr} {H H' : Hp} {u : HO} {p : Addr} {caps : List Int} (e : Fr w H H') (hw : H w = some u) (hb : Blank u) (h : JarsAt T H p caps) : JarsAt T H' p caps := by
  obtain ⟨dx, t, h1, h2⟩ := h
  exact ⟨dx, t, fr_no e hw hb h1 nb1, fr_no e hw hb h2 nbT⟩
theorem RowAt.fr {T : Tx K mg} {w : Addr} {H H' : Hp} {u : HO} {p : Addr} {caps : List Int} {ds : List D} (e : Fr w H H') (hw : H w = some u) (hb : Blank u) (h : RowAt T H p caps ds) : RowAt T H' p caps ds := by
  obtain ⟨dx, j, t, vs, h1, h2, h3, h4⟩ := h
  exact ⟨dx, j, t, vs, fr_no e hw hb h1 nb2, h2.fr e hw hb, fr_no e hw hb h3 nbT, A2.mono (fun _ _ q => q.fr e hw hb) h4⟩
/-! ### the promises of the program's defs -/
def spcheckmuch (T : Tx K mg) : Sp := fun vs H Q _ => ∃ (x : Str) (n : Int), vs = [.str x, .int n] ∧ 1 ≤ n ∧ n ≤ 1000000000000 ∧ Q .non H
def spcheckjar (T : Tx K mg) : Sp := fun vs H Q _ => ∃ (j : Addr) (caps : List Int) (i : Nat), vs = [.ref j, .int i] ∧ JarsAt T H j caps ∧ i < caps.length ∧ Q .non H
def spcheckdeed (T : Tx K mg) : Sp := fun vs H Q _ => ∃ (j : Addr) (caps : List Int) (v : V) (d : D), vs = [.ref j, v] ∧ JarsAt T H j caps ∧ DeedAt T H v d ∧ d.ok caps ∧ Q .non H
def spJarsInit (T : Tx K mg) : Sp := fun vs H Q _ => ∃ (p dx a : Addr) (caps : List Int), vs = [.ref p, .ref a] ∧ H p = some (.ins T.cJars dx []) ∧ H a = some (.tup (vi caps)) ∧ Caps caps ∧
  ∀ H', JarsAt T H' p caps → Fr p H H' → Q .non H'
/-- an __init__ that stores two ints -/
def spTwo (C : Addr) (f g : Str) : Sp := fun vs H Q _ => ∃ (p dx : Addr) (u v : V), vs = [.ref p, u, v] ∧ H p = some (.ins C dx []) ∧ ∀ H', H' p = some (.ins C dx (f2s f u g v)) → Fr p H H' → Q .non H'
def spPourInit (T : Tx K mg) : Sp := spTwo T.cPour "a" "b"
def spPutInit (T : Tx K mg) : Sp := spTwo T.cPut "a" "k"
def spDrawInit (T : Tx K mg) : Sp := spTwo T.cDraw "a" "k"
def spChangeInit (T : Tx K mg) : Sp := spTwo T.cChange "a" "b"
def spRowInit (T : Tx K mg) : Sp := fun vs H Q _ => ∃ (p dx j a : Addr) (caps : List Int) (us : List V) (ds : List D), vs = [.ref p, .ref j, .ref a] ∧ H p = some (.ins T.cRow dx []) ∧ JarsAt T H j caps ∧ H a = some (.lst us) ∧ A2 (DeedAt T H) us ds ∧
  ds.length ≤ 20 ∧ (∀ d ∈ ds, d.ok caps) ∧ ∀ H', RowAt T H' p caps ds → Fr p H H' → Q .non H'
end
section
variable {P : Program} {w : World} {K : PySem.W.Frag} {mg : Str → Option Value} {base : Heap}
/-! ### the program's bodies -/
theorem okcheckmuch (T : Tx K mg) : FnOk P w K mg base CX0 1 T.acheckmuch T.dcheckmuch ["what", "much"] (spcheckmuch T) := by
  refine T.fcheckmuch.ok sccheckmuch (fun vs H Q E h => ?_) (fun cdv A outer s H vs Q E hr h => ?_)
  · obtain ⟨x, n, rfl, _⟩ := h
    rfl
  · obtain ⟨x, n, rfl, h1, h2, hq⟩ := h
    refine ⟨_, (pss_one (ps_if (pt_not (pt_chain op_le op_le pe_int (pv 1) (pe_glob (v := .int 1000000000000) rfl T.cMOSTMUCH ⟨_, rfl⟩))) (pss_one ps_never) pss_nil)), ?_⟩
    refine ⟨_, rfl, _, _, rfl, rfl, _, rfl, ifT (decide_eq_true h1) ?_⟩
    exact ⟨_, _, rfl, rfl, _, rfl, iteNS h2 hq⟩
theorem okcheckjar (T : Tx K mg) : FnOk P w K mg base CX0 1 T.acheckjar T.dcheckjar ["jars", "jar"] (spcheckjar T) := by
  refine T.fcheckjar.ok sccheckjar (fun vs H Q E h => ?_) (fun cdv A outer s H vs Q E hr h => ?_)
  · obtain ⟨j, caps, i, rfl, _⟩ := h
    rfl
  · obtain ⟨j, caps, i, rfl, ⟨dx, t, e1, e2⟩, hi, hq⟩ := h
    refine ⟨_, (pss_one (ps_if (pt_not (pt_chain op_le op_lt pe_int (pv 1) (pe_callB call_len_seq rfl T.nlen PySem.boot_len (pa_cons (pe_fld (pv 0) rfl) pa_nil)))) (pss_one ps_never) pss_nil)), ?_⟩
    refine ⟨_, rfl, _, _, rfl, rfl, _, rfl, ifT (decide_eq_true (by omega)) ?_⟩
    refine ⟨_, rfl, j, _, dx, _, _, rfl, e1, T.lJars, T.nJars_sizes, lk1, t, _, rfl, .inr (SqT.of e2), _, _, rfl, rfl, _, rfl, iteNS (by rw [List.length_map]; omega) hq⟩
theorem okPourInit (T : Tx K mg) : FnOk P w K mg base CX0 1 T.aPourInit T.dPourInit ["self", "a", "b"] (spPourInit T) := by
  refine T.fPourInit.ok scPourInit (fun vs H Q E h => ?_) (fun cdv A outer s H vs Q E hr h => ?_)
  · obtain ⟨p, dx, u, v, rfl, _⟩ := h
    rfl
  · obtain ⟨p, dx, u, v, rfl, hp, hq⟩ := h
    refine ⟨_, (pss_cons (ps_fld (pv 0) (pv 1) rfl)
      (pss_one (ps_fld (pv 0) (pv 2) rfl))), ?_⟩
    refine ⟨_, rfl, _, rfl, p, _, dx, _, rfl, hp, T.lPour, T.nPour_a, (by show 0 < 1000; decide), ?_⟩
    refine ⟨_, rfl, _, rfl, p, _, dx, _, rfl, upd_same, T.lPour, T.nPour_b, (by show 1 < 1000; decide), ?_⟩
    refine hq _ ?_ (fr_mut (fr_mut (Fr.refl _ _)))
    rw [upd_same, put2 (by decide +kernel)]
    rfl
theorem okPutInit (T : Tx K mg) : FnOk P w K mg base CX0 1 T.aPutInit T.dPutInit ["self", "a", "k"] (spPutInit T) := by
  refine T.fPutInit.ok scPutInit (fun vs H Q E h => ?_) (fun cdv A outer s H vs Q E hr h => ?_)
  · obtain ⟨p, dx, u, v, rfl, _⟩ := h
    rfl
  · obtain ⟨p, dx, u, v, rfl, hp, hq⟩ := h
    refine ⟨_, (pss_cons (ps_fld (pv 0) (pv 1) rfl)
      (pss_one (ps_fld (pv 0) (pv 2) rfl))), ?_⟩
    refine ⟨_, rfl, _, rfl, p, _, dx, _, rfl, hp, T.lPut, T.nPut_a, (by show 0 < 1000; decide), ?_⟩
    refine ⟨_, rfl, _, rfl, p, _, dx, _, rfl, upd_same, T.lPut, T.nPut_k, (by show 1 < 1000; decide), ?_⟩
    refine hq _ ?_ (fr_mut (fr_mut (Fr.refl _ _)))
    rw [upd_same, put2 (by decide +kernel)]
    rfl
theorem okDrawInit (T : Tx K mg) : FnOk P w K mg base CX0 1 T.aDrawInit T.dDrawInit ["self", "a", "k"] (spDrawInit T) := by
  refine T.fDrawInit.ok scDrawInit (fun vs H Q E h => ?_) (fun cdv A outer s H vs Q E hr h => ?_)
  · obtain ⟨p, dx, u, v, rfl, _⟩ := h
    rfl
  · obtain ⟨p, dx, u, v, rfl, hp, hq⟩ := h
    refine ⟨_, (pss_cons (ps_fld (pv 0) (pv 1) rfl)
      (pss_one (ps_fld (pv 0) (pv 2) rfl))), ?_⟩
    refine ⟨_, rfl, _, rfl, p, _, dx, _, rfl, hp, T.lDraw, T.nDraw_a, (by show 0 < 1000; decide), ?_⟩
    refine ⟨_, rfl, _, rfl, p, _, dx, _, rfl, upd_same, T.lDraw, T.nDraw_k, (by show 1 < 1000; decide), ?_⟩
    refine hq _ ?_ (fr_mut (fr_mut (Fr.refl _ _)))
    rw [upd_same, put2 (by decide +kernel)]
    rfl
theorem okChangeInit (T : Tx K mg) : FnOk P w K mg base CX0 1 T.aChangeInit T.dChangeInit ["self", "a", "b"] (spChangeInit T) := by
  refine T.fChangeInit.ok scChangeInit (fun vs H Q E h => ?_) (fun cdv A outer s H vs Q E hr h => ?_)
  · obtain ⟨p, dx, u, v, rfl, _⟩ := h
    rfl
  · obtain ⟨p, dx, u, v, rfl, hp, hq⟩ := h
    refine ⟨_, (pss_cons (ps_fld (pv 0) (pv 1) rfl)
      (pss_one (ps_fld (pv 0) (pv 2) rfl))), ?_⟩
    refine ⟨_, rfl, _, rfl, p, _, dx, _, rfl, hp, T.lChange, T.nChange_a, (by show 0 < 1000; decide), ?_⟩
    refine ⟨_, rfl, _, rfl, p, _, dx, _, rfl, upd_same, T.lChange, T.nChange_b, (by show 1 < 1000; decide), ?_⟩
    refine hq _ ?_ (fr_mut (fr_mut (Fr.refl _ _)))
    rw [upd_same, put2 (by decide +kernel)]
    rfl
end
end Kp

namespace Kp
open PySem PySem.Spec PyProof.Rows L2 KpR
section
variable {P : Program} {w : World} {K : PySem.W.Frag} {mg : Str → Option Value} {base : Heap}
/-! ### isinstance of a deed -/
def D.cls (T : Tx K mg) : D → Addr
  | .pour _ _ => T.cPour
  | .put _ _ => T.cPut
  | .draw _ _ => T.cDraw
  | .change _ _ => T.cChange
def D.fst : D → Nat
  | .pour a _ => a
  | .put a _ => a
  | .draw a _ => a
  | .change a _ => a
def D.fs : D → List (Str × V)
  | .pour a b => f2s "a" (.int a) "b" (.int b)
  | .put a k => f2s "a" (.int a) "k" (.int k)
  | .draw a k => f2s "a" (.int a) "k" (.int k)
  | .change a b => f2s "a" (.int a) "b" (.int b)
theorem deed_at {T : Tx K mg} {H : Hp} {v : V} {d : D} (h : DeedAt T H v d) : ∃ p dx, v = .ref p ∧ H p = some (.ins (d.cls T) dx d.fs) := by
  obtain ⟨p, dx, rfl, h⟩ := h
  cases d <;> exact ⟨p, dx, rfl, h⟩
theorem cls_cls (T : Tx K mg) (d : D) : Cls K (d.cls T) := by
  cases d
  · exact T.lPour
  · exact T.lPut
  · exact T.lDraw
  · exact T.lChange
theorem no_a (T : Tx K mg) (d : D) : NoAttr K (d.cls T) "a" := by
  cases d
  · exact T.nPour_a
  · exact T.nPut_a
  · exact T.nDraw_a
  · exact T.nChange_a
theorem fs_a (d : D) : d.fs.lookup ("a" : Str) = some (.int d.fst) := by
  cases d <;> exact lk1
theorem ty_deed {T : Tx K mg} {H : Hp} {p dx : Addr} {d : D} (h : H p = some (.ins (d.cls T) dx d.fs)) : TyX K H (.ref p) (.ref (d.cls T)) := by
  refine .base ?_
  cases d
  · exact .ins h T.lPour T.yPour.ha T.yPour.hn T.yPour.ht T.yPour.hm
  · exact .ins h T.lPut T.yPut.ha T.yPut.hn T.yPut.ht T.yPut.hm
  · exact .ins h T.lDraw T.yDraw.ha T.yDraw.hn T.yDraw.ht T.yDraw.hm
  · exact .ins h T.lChange T.yChange.ha T.yChange.hn T.yChange.ht T.yChange.hm
def D.isPut : D → Bool
  | .put _ _ => true
  | _ => false
def D.isDraw : D → Bool
  | .draw _ _ => true
  | _ => false
def D.isPour : D → Bool
  | .pour _ _ => true
  | _ => false
def D.isChange : D → Bool
  | .change _ _ => true
  | _ => false
theorem is_put (T : Tx K mg) (d : D) : PySem.W.kitOne K (.ref (d.cls T)) (.ref T.cPut) = some d.isPut := by
  cases d
  · exact T.iPour_Put
  · exact T.iPut_Put
  · exact T.iDraw_Put
  · exact T.iChange_Put
theorem is_draw (T : Tx K mg) (d : D) : PySem.W.kitOne K (.ref (d.cls T)) (.ref T.cDraw) = some d.isDraw := by
  cases d
  · exact T.iPour_Draw
  · exact T.iPut_Draw
  · exact T.iDraw_Draw
  · exact T.iChange_Draw
theorem is_pour (T : Tx K mg) (d : D) : PySem.W.kitOne K (.ref (d.cls T)) (.ref T.cPour) = some d.isPour := by
  cases d
  · exact T.iPour_Pour
  · exact T.iPut_Pour
  · exact T.iDraw_Pour
  · exact T.iChange_Pour
theorem is_change (T : Tx K mg) (d : D) : PySem.W.kitOne K (.ref (d.cls T)) (.ref T.cChange) = some d.isChange := by
  cases d
  · exact T.iPour_Change
  · exact T.iPut_Change
  · exact T.iDraw_Change
  · exact T.iChange_Change
theorem okcheckdeed (T : Tx K mg) : FnOk P w K mg base CX0 2 T.acheckdeed T.dcheckdeed ["jars", "deed"] (spcheckdeed T) := by
  refine T.fcheckdeed.ok sccheckdeed (fun vs H Q E h => ?_) (fun cdv A outer s H vs Q E hr h => ?_)
  · obtain ⟨j, caps, v, d, rfl, _⟩ := h
    rfl
  · obtain ⟨j, caps, v, d, rfl, hJ, hD, ok, hq⟩ := h
    refine ⟨_, (pss_cons (ps_expr (pe_call (okcheckjar T) (hr.mono (by decide)) rfl T.gcheckjar T.fcheckjar.kp T.bcheckjar .nil pass0 (pa_cons (pv 0) (pa_cons (pe_fld (pv 1) rfl) pa_nil))))
      (pss_cons (ps_if (PW.pt (pw_or (pt_val (pe_callB call_isi rfl T.nisinstance (by decide +kernel) (pa_cons (pv 1) (pa_cons (pe_glob (v := .ref T.cPut) rfl T.mPut rfl) pa_nil)))) (pw_or1 (pt_val (pe_callB call_isi rfl T.nisinstance (by decide +kernel) (pa_cons (pv 1) (pa_cons (pe_glob (v := .ref T.cDraw) rfl T.mDraw rfl) pa_nil))))))) (pss_cons (ps_expr (pe_call (okcheckmuch T) (hr.mono (by decide)) rfl T.gcheckmuch T.fcheckmuch.kp T.bcheckmuch .nil pass0 (pa_cons pe_str (pa_cons (pe_fld (pv 1) rfl) pa_nil))))
      (pss_one ps_retN)) pss_nil)
      (pss_cons (ps_expr (pe_call (okcheckjar T) (hr.mono (by decide)) rfl T.gcheckjar T.fcheckjar.kp T.bcheckjar .nil pass0 (pa_cons (pv 0) (pa_cons (pe_fld (pv 1) rfl) pa_nil))))
      (pss_cons (ps_if (pt_cmpR op_eq (pe_fld (pv 1) rfl) (pe_fld (pv 1) rfl) (nomark _)) (pss_one ps_never) pss_nil)
      (pss_one (ps_if (PW.pt (pw_and (pt_val (pe_callB call_isi rfl T.nisinstance (by decide +kernel) (pa_cons (pv 1) (pa_cons (pe_glob (v := .ref T.cChange) rfl T.mChange rfl) pa_nil)))) (pw_and1 (pt_cmpR op_ne (pe_ix (r := rIxT K) ix_tup (pe_fld (pv 0) rfl) (pe_fld (pv 1) rfl) (fun _ _ => rfl)) (pe_ix (r := rIxT K) ix_tup (pe_fld (pv 0) rfl) (pe_fld (pv 1) rfl) (fun _ _ => rfl)) (nomark _))))) (pss_one ps_never) pss_nil)))))), ?_⟩
    obtain ⟨p, dx, rfl, hp⟩ := deed_at hD
    have ty := ty_deed hp
    have ha : d.fst < caps.length := by cases d <;> exact ok.1
    refine ⟨_, rfl, _, rfl, p, _, dx, _, _, rfl, hp, cls_cls T d, no_a T d, fs_a d, j, caps, d.fst, rfl, hJ, ha, ?_⟩
    obtain ⟨jx, t, e1, e2⟩ := hJ
    refine ⟨_, rfl, .ref p, .ref T.cPut, _, _, _, rfl, .own _, ty, is_put T d, _, rfl, ?_⟩
    cases d with
    | put a k =>
      refine ifT rfl (ifT rfl ?_)
      exact ⟨_, rfl, p, _, dx, _, _, rfl, hp, T.lPut, T.nPut_k, lk2 (by decide +kernel), "much", k, rfl, ok.2.1, ok.2.2, hq⟩
    | draw a k =>
      refine ifF rfl ⟨_, rfl, .ref p, .ref T.cDraw, _, _, _, rfl, .own _, ty, T.iDraw_Draw, _, rfl, ifT rfl ?_⟩
      exact ⟨_, rfl, p, _, dx, _, _, rfl, hp, T.lDraw, T.nDraw_k, lk2 (by decide +kernel), "much", k, rfl, ok.2.1, ok.2.2, hq⟩
    | pour a b =>
      refine ifF rfl ⟨_, rfl, .ref p, .ref T.cDraw, _, _, _, rfl, .own _, ty, T.iPour_Draw, _, rfl, ifF rfl ?_⟩
      refine ⟨_, rfl, _, rfl, p, _, dx, _, _, rfl, hp, T.lPour, T.nPour_b, lk2 (by decide +kernel), j, caps, b, rfl, ⟨jx, t, e1, e2⟩, ok.2.1, ?_⟩
      refine ⟨_, rfl, p, _, dx, _, _, rfl, hp, T.lPour, T.nPour_a, lk1, _, rfl, p, _, dx, _, _, rfl, hp, T.lPour, T.nPour_b, lk2 (by decide +kernel), rfl, _, rfl, ifF (decide_eq_false fun z => ok.2.2 (by injection z with z; omega)) ?_⟩
      exact ⟨_, rfl, .ref p, .ref T.cChange, _, _, _, rfl, .own _, ty, T.iPour_Change, _, rfl, ifF rfl (ifF rfl hq)⟩
    | change a b =>
      refine ifF rfl ⟨_, rfl, .ref p, .ref T.cDraw, _, _, _, rfl, .own _, ty, T.iChange_Draw, _, rfl, ifF rfl ?_⟩
      refine ⟨_, rfl, _, rfl, p, _, dx, _, _, rfl, hp, T.lChange, T.nChange_b, lk2 (by decide +kernel), j, caps, b, rfl, ⟨jx, t, e1, e2⟩, ok.2.1, ?_⟩
      refine ⟨_, rfl, p, _, dx, _, _, rfl, hp, T.lChange, T.nChange_a, lk1, _, rfl, p, _, dx, _, _, rfl, hp, T.lChange, T.nChange_b, lk2 (by decide +kernel), rfl, _, rfl, ifF (decide_eq_false fun z => ok.2.2.1 (by injection z with z; omega)) ?_⟩
      refine ⟨_, rfl, .ref p, .ref T.cChange, _, _, _, rfl, .own _, ty, T.iChange_Change, _, rfl, ifT rfl ?_⟩
      refine ⟨_, rfl, j, _, jx, _, _, rfl, e1, T.lJars, T.nJars_sizes, lk1, _, rfl, p, _, dx, _, _, rfl, hp, T.lChange, T.nChange_a, lk1, t, _, _, _, rfl, rfl, SqT.of e2, vi_at ok.1, ?_⟩
      refine ⟨_, rfl, j, _, jx, _, _, rfl, e1, T.lJars, T.nJars_sizes, lk1, _, rfl, p, _, dx, _, _, rfl, hp, T.lChange, T.nChange_b, lk2 (by decide +kernel), t, _, _, _, rfl, rfl, SqT.of e2, vi_at ok.2.1, ?_⟩
      exact ⟨rfl, _, rfl, iteNS (congrArg V.int ok.2.2.2) hq⟩
theorem okJarsInit (T : Tx K mg) : FnOk P w K mg base CX0 2 T.aJarsInit T.dJarsInit ["self", "sizes"] (spJarsInit T) := by
  refine T.fJarsInit.ok scJarsInit (fun vs H Q E h => ?_) (fun cdv A outer s H vs Q E hr h => ?_)
  · obtain ⟨p, dx, a, caps, rfl, _⟩ := h
    rfl
  · obtain ⟨p, dx, a, caps, rfl, hp, hS0, hC, hq⟩ := h
    have hS : SqT K H a (vi caps) := SqT.of hS0
    have c1 := hC.l1
    have c6 := hC.l6
    refine ⟨_, (pss_cons (ps_if (pt_not (pt_chain op_le op_le pe_int (pe_callB call_len_seq rfl T.nlen PySem.boot_len (pa_cons (pv 1) pa_nil)) (pe_glob (v := .int 6) rfl T.cMOSTJARS ⟨_, rfl⟩))) (pss_one ps_never) pss_nil)
      (pss_cons (ps_for PassesOwn.never rfl (pi_tup (pv 1)) (pg_name (i := 2) scJarsInit.nd rfl (by first | exact Or.inl rfl | exact Or.inr rfl)) (pss_one (ps_expr (pe_call (okcheckmuch T) (hr.mono (by decide)) rfl T.gcheckmuch T.fcheckmuch.kp T.bcheckmuch .nil pass0 (pa_cons pe_str (pa_cons (pv 2) pa_nil))))))
      (pss_one (ps_fld (pv 0) (pe_callTy call_tuple_of rfl T.ntuple (by decide +kernel) (pa_cons (pv 1) pa_nil)) rfl)))), ?_⟩
    refine ⟨_, rfl, a, _, rfl, (.inr hS), 1, _, rfl, rfl, _, rfl, ifT (decide_eq_true (by rw [List.length_map]; omega)) ?_⟩
    refine ⟨_, _, rfl, rfl, _, rfl, iteNS (by rw [List.length_map]; omega) ?_⟩
    refine ⟨_, rfl, a, rfl, ⟨_, hS⟩, for_tup (K := K) (a := a) (xs := vi caps) (fun i σ H' => ∃ v : Option V, σ = [some (.ref p), some (.ref a), v] ∧ H' = H) ⟨none, rfl, rfl⟩ (fun i σ H' _ ⟨_, _, e⟩ => by rw [e]; exact hS) ?_ ?_⟩
    · rintro i y σ H' hi ⟨v, rfl, rfl⟩
      obtain ⟨z, hz, rfl⟩ := vi_get hi
      have lt : i < caps.length := (List.getElem?_eq_some_iff.mp hz).1
      have ez := at0_of hz
      refine ⟨_, rfl, "size", z, rfl, ?_, ?_, some (.int z), rfl, rfl⟩
      · rw [← ez]; exact hC.lo i lt
      · rw [← ez]; exact hC.hi i lt
    · rintro σ H' ⟨v, rfl, rfl⟩
      refine ⟨_, rfl, a, _, rfl, .inr ⟨hS, ?_⟩⟩
      have n : a ≠ p := fun z => by rw [z, hp] at hS0; cases hS0
      refine ⟨_, rfl, p, _, dx, _, rfl, hp, T.lJars, T.nJars_sizes, (by show 0 < 1000; decide), ?_⟩
      exact hq _ ⟨dx, a, upd_same, by rw [upd_ne n]; exact hS0⟩ (fr_mut (Fr.refl _ _))
theorem okRowInit (T : Tx K mg) : FnOk P w K mg base CX0 3 T.aRowInit T.dRowInit ["self", "jars", "deeds"] (spRowInit T) := by
  refine T.fRowInit.ok scRowInit (fun vs H Q E h => ?_) (fun cdv A outer s H vs Q E hr h => ?_)
  · obtain ⟨p, dx, j, a, caps, us, ds, rfl, _⟩ := h
    rfl
  · obtain ⟨p, dx, j, a, caps, us, ds, rfl, hp, hJ, hS, hA, hl, ok, hq⟩ := h
    refine ⟨_, (pss_cons (ps_if (pt_cmpR op_gt (pe_callB call_len_seq rfl T.nlen PySem.boot_len (pa_cons (pv 2) pa_nil)) (pe_glob (v := .int 20) rfl T.cMOSTDEEDS ⟨_, rfl⟩) (nomark _)) (pss_one ps_never) pss_nil)
      (pss_cons (ps_for PassesOwn.never rfl (pi_list (pv 2)) (pg_name (i := 3) scRowInit.nd rfl (by first | exact Or.inl rfl | exact Or.inr rfl)) (pss_one (ps_expr (pe_call (okcheckdeed T) (hr.mono (by decide)) rfl T.gcheckdeed T.fcheckdeed.kp T.bcheckdeed .nil pass0 (pa_cons (pv 1) (pa_cons (pv 3) pa_nil))))))
      (pss_cons (ps_fld (pv 0) (pv 1) rfl)
      (pss_one (ps_fld (pv 0) (pe_callTy call_tuple_of rfl T.ntuple (by decide +kernel) (pa_cons (pv 2) pa_nil)) rfl))))), ?_⟩
    refine ⟨_, rfl, a, _, rfl, .inl (SqL.of hS), _, _, rfl, rfl, _, rfl, ifF (decide_eq_false (by rw [hA.len]; omega)) ?_⟩
    refine ⟨_, rfl, a, rfl, ⟨_, SqL.of hS⟩, for_list (K := K) (a := a) (xs := us) (fun i σ H' => ∃ v : Option V, σ = [some (.ref p), some (.ref j), some (.ref a), v] ∧ H' = H) ⟨none, rfl, rfl⟩ (fun i σ H' _ ⟨_, _, e⟩ => by rw [e]; exact SqL.of hS) ?_ ?_⟩
    · rintro i y σ H' hi ⟨v, rfl, rfl⟩
      obtain ⟨d, hd, hv⟩ := hA.get hi
      exact ⟨_, rfl, _, rfl, j, caps, y, d, rfl, hJ, hv, ok d (List.mem_of_getElem? hd), some y, rfl, rfl⟩
    · rintro σ H' ⟨v, rfl, rfl⟩
      refine ⟨_, rfl, _, rfl, p, _, dx, _, rfl, hp, T.lRow, T.nRow_jars, (by show 0 < 1000; decide), ?_⟩
      have f1 : Fr p H' (upd H' p (.ins T.cRow dx (putF "jars" (.ref j) []))) := fr_mut (Fr.refl _ _)
      have na : a ≠ p := ne_of hS hp (by intro z; cases z)
      refine ⟨_, rfl, a, _, rfl, .inl ⟨f1.sqL na (SqL.of hS), fun t ht => ?_⟩⟩
      have n : p ≠ t := fun z => by rw [← z, upd_same] at ht; cases ht
      have ht0 : H' t = none := fr_free f1 n.symm ht
      refine ⟨_, rfl, p, _, dx, _, rfl, (by rw [upd_ne n]; exact upd_same), T.lRow, T.nRow_deeds, (by show 1 < 1000; decide), ?_⟩
      have fr : Fr p H' (upd (upd (upd H' p (.ins T.cRow dx (putF "jars" (.ref j) []))) t (.tup us)) p (.ins T.cRow dx (putF "deeds" (.ref t) (putF "jars" (.ref j) [])))) := fr_mut (fr_new f1 ht0)
      refine hq _ ⟨dx, j, t, us, ?_, ?_, ?_, ?_⟩ fr
      · rw [upd_same, put2 (by decide +kernel)]
        rfl
      · exact hJ.fr fr hp bl_i
      · rw [upd_ne n.symm]; exact upd_same
      · exact A2.mono (fun _ _ q => q.fr fr hp bl_i) hA
end
end Kp

namespace Kp
open PySem PySem.Spec PyProof.Rows L2 KpR
section
variable {K : PySem.W.Frag} {mg : Str → Option Value}
def spcheckstart (T : Tx K mg) : Sp := fun vs H Q _ => ∃ (j a : Addr) (caps st : List Int) (p : Int), vs = [.ref j, .ref a, .int p] ∧ JarsAt T H j caps ∧ (SqL K H a (vi st) ∨ SqT K H a (vi st)) ∧ 1 ≤ p ∧ p < 2 ^ 62 ∧ Stand caps p st ∧
  ∀ H', Same H H' → Q .non H'
def spbehinddeed (T : Tx K mg) : Sp := fun vs H Q _ => ∃ (j a : Addr) (v : V) (d : D) (caps st : List Int) (p : Int), vs = [.ref j, v, .ref a, .int p] ∧ JarsAt T H j caps ∧ DeedAt T H v d ∧ d.ok caps ∧ SqL K H a (vi st) ∧ 1 ≤ p ∧ p < 2 ^ 62 ∧ st.length = caps.length ∧
  ∀ (H' : Hp) (q : Addr), H q = none → H' q = some (.lst (vi (d.act caps p st))) → Same H H' → Q (.ref q) H'
def spbehindround (T : Tx K mg) : Sp := fun vs H Q _ => ∃ (r a : Addr) (ds : List D) (caps st : List Int) (p : Int), vs = [.ref r, .ref a, .int p] ∧ RowAt T H r caps ds ∧ (∀ d ∈ ds, d.ok caps) ∧ (SqL K H a (vi st) ∨ SqT K H a (vi st)) ∧ 1 ≤ p ∧ p < 2 ^ 62 ∧ st.length = caps.length ∧
  ∀ (H' : Hp) (q : Addr), H q = none → H' q = some (.lst (vi (run caps p ds st))) → Same H H' → Q (.ref q) H'
def spbehind (T : Tx K mg) : Sp := fun vs H Q _ => ∃ (r a : Addr) (ds : List D) (caps st : List Int) (p : Int) (n : Nat), vs = [.ref r, .ref a, .int p, .int n] ∧ RowAt T H r caps ds ∧ (∀ d ∈ ds, d.ok caps) ∧ (SqL K H a (vi st) ∨ SqT K H a (vi st)) ∧ 1 ≤ p ∧ p < 2 ^ 62 ∧ n ≤ 1000 ∧ Stand caps p st ∧
  ∀ (H' : Hp) (q : Addr), H q = none → H' q = some (.lst (vi (runs caps p ds n st))) → Same H H' → Q (.ref q) H'
end
end Kp
namespace Kp
open PySem PySem.Spec PyProof.Rows L2 KpR
section
variable {P : Program} {w : World} {K : PySem.W.Frag} {mg : Str → Option Value} {base : Heap}
def SqA (K : PySem.W.Frag) (H : Hp) (a : Addr) (xs : List V) : Prop := SqL K H a xs ∨ SqT K H a xs
theorem sameA {K : PySem.W.Frag} {H H' : Hp} {a : Addr} {xs : List V} (e : Same H H') (h : SqA K H a xs) : SqA K H' a xs := h.elim (fun h => .inl (e.seq h)) (fun h => .inr (sameT e h))
theorem rix_any {K : PySem.W.Frag} {H : Hp} {a : Addr} {xs : List V} {i : Int} {v : V} {Q : VK} (h : SqA K H a xs) (e : atI xs i = some v) (q : Q v H) : rIx K (.ref a) (.int i) H Q :=
  h.elim (fun h => .inl ⟨a, xs, i, v, rfl, rfl, h, e, q⟩) (fun h => .inr (.inl ⟨a, xs, i, v, rfl, rfl, h, e, q⟩))
theorem mulP {p : Int} (h1 : 1 ≤ p) (h2 : p < 2 ^ 62) : -(2 ^ 64) < p ∧ p < 2 ^ 64 := ⟨by omega, by omega⟩
theorem vi_set {l : List Int} {i : Nat} {z : Int} : (vi l).set i (.int z) = vi (l.set i z) := (List.map_set ..).symm
theorem ixN_nat {n i : Nat} (h : i < n) : ixN n (i : Int) = some i := by
  have e : atI (List.range n) (i : Int) = some i := atI_nat (by simp [h])
  unfold atI at e
  cases z : ixN (List.range n).length (i : Int) with
  | none => rw [z] at e; cases e
  | some j =>
    rw [z] at e
    have e2 : (List.range n)[j]? = some i := e
    have hj := (List.getElem?_eq_some_iff.mp e2).2
    rw [List.getElem_range] at hj
    subst hj
    simpa using z
theorem ixN_last {n : Nat} : ixN (n + 1) (-1) = some n := by
  have e : atI (List.range n ++ [n]) (-1) = some n := atI_last _ _
  unfold atI at e
  have hl : (List.range n ++ [n]).length = n + 1 := by simp
  rw [hl] at e
  cases z : ixN (n + 1) (-1) with
  | none => rw [z] at e; cases e
  | some j =>
    rw [z, ← List.range_succ] at e
    have e2 : (List.range (n + 1))[j]? = some n := e
    have hj := (List.getElem?_eq_some_iff.mp e2).2
    rw [List.getElem_range] at hj
    exact congrArg some hj
theorem okcheckstart (T : Tx K mg) : FnOk P w K mg base CX0 1 T.acheckstart T.dcheckstart ["jars", "start", "parts"] (spcheckstart T) := by
  refine T.fcheckstart.ok sccheckstart (fun vs H Q E h => ?_) (fun cdv A outer s H vs Q E hr h => ?_)
  · obtain ⟨j, a, caps, st, p, rfl, _⟩ := h
    rfl
  · obtain ⟨j, a, caps, st, p, rfl, hJ, hS, p1, p2, hst, hq⟩ := h
    refine ⟨_, (pss_cons (ps_if (pt_cmpR op_lt (pv 2) pe_int (nomark _)) (pss_one ps_never) pss_nil)
      (pss_cons (ps_if (pt_cmpR op_ne (pe_callB call_len_seq rfl T.nlen PySem.boot_len (pa_cons (pv 1) pa_nil)) (pe_callB call_len_seq rfl T.nlen PySem.boot_len (pa_cons (pe_fld (pv 0) rfl) pa_nil)) (nomark _)) (pss_one ps_never) pss_nil)
      (pss_one (ps_for PassesOwn.never rfl (pi_enumT rfl T.nenumerate (pa_cons (pe_fld (pv 0) rfl) pa_nil)) (pg_tup rfl (pgs_cons (pg_name (i := 3) sccheckstart.nd rfl (by first | exact Or.inl rfl | exact Or.inr rfl)) (pgs_cons (pg_name (i := 4) sccheckstart.nd rfl (by first | exact Or.inl rfl | exact Or.inr rfl)) pgs_nil))) (pss_one (ps_if (pt_not (pt_chain op_le op_le pe_int (pe_ix (r := rIx K) ix_seq (pv 1) (pv 3) (fun _ _ => rfl)) (pe_op op_mul (pv 4) (pv 2)))) (pss_one ps_never) pss_nil)))))), ?_⟩
    obtain ⟨jx, t, e1, e2⟩ := hJ
    refine ⟨_, rfl, _, _, rfl, rfl, _, rfl, ifF (decide_eq_false (by omega)) ?_⟩
    refine ⟨_, rfl, a, _, rfl, hS, _, rfl, j, _, jx, _, _, rfl, e1, T.lJars, T.nJars_sizes, lk1, t, _, rfl, .inr (SqT.of e2), rfl, _, rfl, iteNS (by rw [List.length_map, List.length_map, hst.len]) ?_⟩
    refine ⟨_, rfl, j, _, jx, _, _, rfl, e1, T.lJars, T.nJars_sizes, lk1, t, _, rfl, SqT.of e2, ?_⟩
    refine for_enumT (K := K) (a := t) (xs := vi caps) (fun i σ H' => ∃ u v : Option V, σ = [some (.ref j), some (.ref a), some (.int p), u, v] ∧ Same H H') ⟨none, none, rfl, Same.refl _⟩ (fun i σ H' _ ⟨_, _, _, e⟩ => sameT e (SqT.of e2)) ?_ ?_
    · rintro i y N σ H' hi ⟨u, v, rfl, sm⟩ hN
      obtain ⟨z, hz, rfl⟩ := vi_get hi
      have lt : i < caps.length := (List.getElem?_eq_some_iff.mp hz).1
      have ez := at0_of hz
      have s2 : Same H (upd H' N (.tup [.int (i : Nat), .int z])) := sm.trans (same_new hN)
      refine ⟨N, _, rfl, SqT.of upd_same, rfl, _, _, rfl, _, _, rfl, rfl, ?_⟩
      have l2 : i < st.length := by rw [hst.len]; exact lt
      refine ⟨_, rfl, _, rfl, rix_any (sameA s2 hS) (vi_at l2) ⟨_, _, rfl, rfl, _, rfl, ifT (decide_eq_true (hst.lo i lt)) ?_⟩⟩
      refine ⟨_, rfl, _, rfl, _, _, rfl, rfl, .inr (mulP p1 p2), _, _, rfl, rfl, _, rfl, iteNS (by rw [← ez]; exact hst.hi i lt) ?_⟩
      exact ⟨_, _, rfl, s2⟩
    · rintro σ H' ⟨u, v, rfl, sm⟩
      exact hq _ sm
theorem okbehinddeed (T : Tx K mg) : FnOk P w K mg base CX0 1 T.abehinddeed T.dbehinddeed ["jars", "deed", "stand", "parts"] (spbehinddeed T) := by
  refine T.fbehinddeed.ok scbehinddeed (fun vs H Q E h => ?_) (fun cdv A outer s H vs Q E hr h => ?_)
  · obtain ⟨j, a, v, d, caps, st, p, rfl, _⟩ := h
    rfl
  · obtain ⟨j, a, v, d, caps, st, p, rfl, hJ, hD, ok, hS, p1, p2, hl, hq⟩ := h
    refine ⟨_, (pss_cons (ps_set (i := 4) scbehinddeed.nd rfl (by first | exact Or.inl rfl | exact Or.inr rfl) (pe_callTy call_list_of rfl T.nlist (by decide +kernel) (pa_cons (pv 2) pa_nil)))
      (pss_cons (ps_set (i := 5) scbehinddeed.nd rfl (by first | exact Or.inl rfl | exact Or.inr rfl) (pe_fld (pv 1) rfl))
      (pss_cons (ps_if (pt_val (pe_callB call_isi rfl T.nisinstance (by decide +kernel) (pa_cons (pv 1) (pa_cons (pe_glob (v := .ref T.cPut) rfl T.mPut rfl) pa_nil)))) (pss_cons (ps_asg (pe_callB (call_min2 rfl) rfl T.nmin (by decide +kernel) (pa_cons (pe_op op_add (pe_ix (r := rIxL K) ix_list (pv 2) (pv 5) (fun _ _ => rfl)) (pe_op op_mul (pe_fld (pv 1) rfl) (pv 3))) (pa_cons (pe_op op_mul (pe_ix (r := rIxT K) ix_tup (pe_fld (pv 0) rfl) (pv 5) (fun _ _ => rfl)) (pv 3)) pa_nil))) (pg_sub (pv 4) (pv 5) set_list))
      (pss_one (ps_ret (pv 4)))) pss_nil)
      (pss_cons (ps_if (pt_val (pe_callB call_isi rfl T.nisinstance (by decide +kernel) (pa_cons (pv 1) (pa_cons (pe_glob (v := .ref T.cDraw) rfl T.mDraw rfl) pa_nil)))) (pss_cons (ps_asg (pe_callB (call_max2 rfl) rfl T.nmax (by decide +kernel) (pa_cons (pe_op op_sub (pe_ix (r := rIxL K) ix_list (pv 2) (pv 5) (fun _ _ => rfl)) (pe_op op_mul (pe_fld (pv 1) rfl) (pv 3))) (pa_cons pe_int pa_nil))) (pg_sub (pv 4) (pv 5) set_list))
      (pss_one (ps_ret (pv 4)))) pss_nil)
      (pss_cons (ps_set (i := 6) scbehinddeed.nd rfl (by first | exact Or.inl rfl | exact Or.inr rfl) (pe_fld (pv 1) rfl))
      (pss_cons (ps_if (pt_val (pe_callB call_isi rfl T.nisinstance (by decide +kernel) (pa_cons (pv 1) (pa_cons (pe_glob (v := .ref T.cPour) rfl T.mPour rfl) pa_nil)))) (pss_cons (ps_set (i := 7) scbehinddeed.nd rfl (by first | exact Or.inl rfl | exact Or.inr rfl) (pe_callB (call_min2 rfl) rfl T.nmin (by decide +kernel) (pa_cons (pe_ix (r := rIxL K) ix_list (pv 2) (pv 5) (fun _ _ => rfl)) (pa_cons (pe_op op_sub (pe_op op_mul (pe_ix (r := rIxT K) ix_tup (pe_fld (pv 0) rfl) (pv 6) (fun _ _ => rfl)) (pv 3)) (pe_ix (r := rIxL K) ix_list (pv 2) (pv 6) (fun _ _ => rfl))) pa_nil))))
      (pss_cons (ps_asg (pe_op op_sub (pe_ix (r := rIxL K) ix_list (pv 2) (pv 5) (fun _ _ => rfl)) (pv 7)) (pg_sub (pv 4) (pv 5) set_list))
      (pss_cons (ps_asg (pe_op op_add (pe_ix (r := rIxL K) ix_list (pv 2) (pv 6) (fun _ _ => rfl)) (pv 7)) (pg_sub (pv 4) (pv 6) set_list))
      (pss_one (ps_ret (pv 4)))))) pss_nil)
      (pss_cons (ps_asg (pe_ix (r := rIxL K) ix_list (pv 2) (pv 6) (fun _ _ => rfl)) (pg_sub (pv 4) (pv 5) set_list))
      (pss_cons (ps_asg (pe_ix (r := rIxL K) ix_list (pv 2) (pv 5) (fun _ _ => rfl)) (pg_sub (pv 4) (pv 6) set_list))
      (pss_one (ps_ret (pv 4))))))))))), ?_⟩
    obtain ⟨q, dx, rfl, hp⟩ := deed_at hD
    have ha : d.fst < caps.length := by cases d <;> exact ok.1
    refine ⟨_, rfl, a, _, rfl, .inl hS, fun l hn => ?_⟩
    have s1 : Same H (upd H l (.lst (vi st))) := same_new hn
    have hp1 := s1 _ _ hp
    have hS1 := s1.seq hS
    obtain ⟨jx, t, e1, e2⟩ := hJ.same s1
    have ty := ty_deed hp1
    refine ⟨_, rfl, q, _, dx, _, _, rfl, hp1, cls_cls T d, no_a T d, fs_a d, ?_⟩
    refine ⟨_, rfl, .ref q, .ref T.cPut, _, _, _, rfl, .own _, ty, is_put T d, _, rfl, ?_⟩
    have l2 : d.fst < st.length := by rw [hl]; exact ha
    cases d with
    | put x k =>
      refine ifT rfl ?_
      refine ⟨_, rfl, _, rfl, a, _, _, _, rfl, rfl, hS1, vi_at l2, _, rfl, q, _, dx, _, _, rfl, hp1, T.lPut, T.nPut_k, lk2 (by decide +kernel), _, rfl, _, _, rfl, rfl, .inr (mulP p1 p2), _, _, rfl, rfl, ?_⟩
      refine ⟨_, rfl, j, _, jx, _, _, rfl, e1, T.lJars, T.nJars_sizes, lk1, _, rfl, t, _, _, _, rfl, rfl, SqT.of e2, vi_at ha, _, rfl, _, _, rfl, rfl, .inr (mulP p1 p2), _, _, rfl, ?_⟩
      refine ⟨_, rfl, _, rfl, l, _, _, x, rfl, rfl, upd_same, ixN_nat (by rw [List.length_map]; exact l2), _, rfl, ?_⟩
      refine hq _ l hn ?_ (same_mut s1 hn)
      rw [upd_same, vi_set]
      rfl
    | draw x k =>
      refine ifF rfl ⟨_, rfl, .ref q, .ref T.cDraw, _, _, _, rfl, .own _, ty, T.iDraw_Draw, _, rfl, ifT rfl ?_⟩
      refine ⟨_, rfl, _, rfl, a, _, _, _, rfl, rfl, hS1, vi_at l2, _, rfl, q, _, dx, _, _, rfl, hp1, T.lDraw, T.nDraw_k, lk2 (by decide +kernel), _, rfl, _, _, rfl, rfl, .inr (mulP p1 p2), _, _, rfl, rfl, ?_⟩
      refine ⟨_, _, rfl, ?_⟩
      refine ⟨_, rfl, _, rfl, l, _, _, x, rfl, rfl, upd_same, ixN_nat (by rw [List.length_map]; exact l2), _, rfl, ?_⟩
      refine hq _ l hn ?_ (same_mut s1 hn)
      rw [upd_same, vi_set]
      rfl
    | pour x b =>
      have lb : b < st.length := by rw [hl]; exact ok.2.1
      refine ifF rfl ⟨_, rfl, .ref q, .ref T.cDraw, _, _, _, rfl, .own _, ty, T.iPour_Draw, _, rfl, ifF rfl ?_⟩
      refine ⟨_, rfl, q, _, dx, _, _, rfl, hp1, T.lPour, T.nPour_b, lk2 (by decide +kernel), ?_⟩
      refine ⟨_, rfl, .ref q, .ref T.cPour, _, _, _, rfl, .own _, ty, T.iPour_Pour, _, rfl, ifT rfl ?_⟩
      refine ⟨_, rfl, _, rfl, a, _, _, _, rfl, rfl, hS1, vi_at l2, _, rfl, j, _, jx, _, _, rfl, e1, T.lJars, T.nJars_sizes, lk1, ?_⟩
      refine ⟨_, rfl, t, _, _, _, rfl, rfl, SqT.of e2, vi_at ok.2.1, _, rfl, _, _, rfl, rfl, .inr (mulP p1 p2), _, rfl, _, rfl, a, _, _, _, rfl, rfl, hS1, vi_at lb, _, _, rfl, rfl, _, _, rfl, ?_⟩
      refine ⟨_, rfl, _, rfl, a, _, _, _, rfl, rfl, hS1, vi_at l2, _, rfl, _, _, rfl, rfl, _, rfl, _, rfl, l, _, _, x, rfl, rfl, upd_same, ixN_nat (by rw [List.length_map]; exact l2), ?_⟩
      have hS2 := (same_mut (o := .lst ((vi st).set x (.int (at0 st x - (if at0 caps b * p - at0 st b < at0 st x then at0 caps b * p - at0 st b else at0 st x))))) s1 hn).seq hS
      refine ⟨_, rfl, _, rfl, a, _, _, _, rfl, rfl, hS2, vi_at lb, _, rfl, _, _, rfl, rfl, _, rfl, _, rfl, l, _, _, b, rfl, rfl, upd_same, ixN_nat (by rw [List.length_set, List.length_map]; exact lb), _, rfl, ?_⟩
      refine hq _ l hn ?_ (same_mut (same_mut s1 hn) hn)
      rw [upd_same, vi_set, vi_set]
      rfl
    | change x b =>
      have lb : b < st.length := by rw [hl]; exact ok.2.1
      refine ifF rfl ⟨_, rfl, .ref q, .ref T.cDraw, _, _, _, rfl, .own _, ty, T.iChange_Draw, _, rfl, ifF rfl ?_⟩
      refine ⟨_, rfl, q, _, dx, _, _, rfl, hp1, T.lChange, T.nChange_b, lk2 (by decide +kernel), ?_⟩
      refine ⟨_, rfl, .ref q, .ref T.cPour, _, _, _, rfl, .own _, ty, T.iChange_Pour, _, rfl, ifF rfl ?_⟩
      refine ⟨_, rfl, _, rfl, a, _, _, _, rfl, rfl, hS1, vi_at lb, _, rfl, _, rfl, l, _, _, x, rfl, rfl, upd_same, ixN_nat (by rw [List.length_map]; exact l2), ?_⟩
      have hS2 := (same_mut (o := .lst ((vi st).set x (.int (at0 st b)))) s1 hn).seq hS
      refine ⟨_, rfl, _, rfl, a, _, _, _, rfl, rfl, hS2, vi_at l2, _, rfl, _, rfl, l, _, _, b, rfl, rfl, upd_same, ixN_nat (by rw [List.length_set, List.length_map]; exact lb), _, rfl, ?_⟩
      refine hq _ l hn ?_ (same_mut (same_mut s1 hn) hn)
      rw [upd_same, vi_set, vi_set]
      rfl
theorem okbehindround (T : Tx K mg) : FnOk P w K mg base CX0 2 T.abehindround T.dbehindround ["row", "stand", "parts"] (spbehindround T) := by
  refine T.fbehindround.ok scbehindround (fun vs H Q E h => ?_) (fun cdv A outer s H vs Q E hr h => ?_)
  · obtain ⟨r, a, ds, caps, st, p, rfl, _⟩ := h
    rfl
  · obtain ⟨r, a, ds, caps, st, p, rfl, hR, ok, hS, p1, p2, hl, hq⟩ := h
    refine ⟨_, (pss_cons (ps_set (i := 3) scbehindround.nd rfl (by first | exact Or.inl rfl | exact Or.inr rfl) (pe_callTy call_list_of rfl T.nlist (by decide +kernel) (pa_cons (pv 1) pa_nil)))
      (pss_cons (ps_for PassesOwn.never rfl (pi_tup (pe_fld (pv 0) rfl)) (pg_name (i := 4) scbehindround.nd rfl (by first | exact Or.inl rfl | exact Or.inr rfl)) (pss_one (ps_set (i := 3) scbehindround.nd rfl (by first | exact Or.inl rfl | exact Or.inr rfl) (pe_call (okbehinddeed T) (hr.mono (by decide)) rfl T.gbehinddeed T.fbehinddeed.kp T.bbehinddeed .nil pass0 (pa_cons (pe_fld (pv 0) rfl) (pa_cons (pv 4) (pa_cons (pv 3) (pa_cons (pv 2) pa_nil))))))))
      (pss_one (ps_ret (pv 3))))), ?_⟩
    refine ⟨_, rfl, a, _, rfl, hS, fun l hn => ?_⟩
    have s1 : Same H (upd H l (.lst (vi st))) := same_new hn
    obtain ⟨rx, j, t, us, r1, r2, r3, r4⟩ := id hR
    refine ⟨_, rfl, r, _, rx, _, _, rfl, s1 _ _ r1, T.lRow, T.nRow_deeds, lk2 (by decide +kernel), t, rfl, ⟨_, SqT.of (s1 _ _ r3)⟩, ?_⟩
    refine for_tup (K := K) (a := t) (xs := us) (fun i σ H' => ∃ (m : Addr) (v : Option V), σ = [some (.ref r), some (.ref a), some (.int p), some (.ref m), v] ∧ H m = none ∧ H' m = some (.lst (vi (run caps p (ds.take i) st))) ∧ Same H H')
      ⟨l, none, rfl, hn, by rw [upd_same]; rfl, s1⟩ (fun i σ H' _ ⟨_, _, _, _, _, e⟩ => sameT e (SqT.of r3)) ?_ ?_
    · rintro i y σ H' hi ⟨m, v, rfl, hm, hm', sm⟩
      obtain ⟨d, hd, hv⟩ := r4.get hi
      refine ⟨_, rfl, r, _, rx, _, _, rfl, sm _ _ r1, T.lRow, T.nRow_jars, lk1, _, rfl, _, rfl, _, rfl, ?_⟩
      refine ⟨j, m, y, d, caps, _, p, rfl, r2.same sm, hv.same sm, ok d (List.mem_of_getElem? hd), SqL.of hm', p1, p2, ?_, fun H2 q q1 q2 s2 => ?_⟩
      · rw [run_len]
        exact hl
      · refine ⟨q, some y, rfl, sm.free q1, ?_, sm.trans s2⟩
        rw [q2, run_snoc hd]
    · rintro σ H' ⟨m, v, rfl, hm, hm', sm⟩
      refine ⟨_, rfl, hq _ m hm ?_ sm⟩
      rw [hm', r4.len, List.take_length]
theorem okbehind (T : Tx K mg) : FnOk P w K mg base CX0 3 T.abehind T.dbehind ["row", "start", "parts", "times"] (spbehind T) := by
  refine T.fbehind.ok scbehind (fun vs H Q E h => ?_) (fun cdv A outer s H vs Q E hr h => ?_)
  · obtain ⟨r, a, ds, caps, st, p, n, rfl, _⟩ := h
    rfl
  · obtain ⟨r, a, ds, caps, st, p, n, rfl, hR, ok, hS, p1, p2, n1, hst, hq⟩ := h
    refine ⟨_, PSs.nox (pss_cons (ps_expr (pe_call (okcheckstart T) (hr.mono (by decide)) rfl T.gcheckstart T.fcheckstart.kp T.bcheckstart .nil pass0 (pa_cons (pe_fld (pv 0) rfl) (pa_cons (pv 1) (pa_cons (pv 2) pa_nil)))))
      (pss_cons (ps_if (pt_not (pt_chain op_le op_le pe_int (pv 3) (pe_glob (v := .int 1000) rfl T.cMOSTTIMES ⟨_, rfl⟩))) (pss_one ps_never) pss_nil)
      (pss_cons (ps_set (i := 4) scbehind.nd rfl (by first | exact Or.inl rfl | exact Or.inr rfl) (pe_callTy call_list_of rfl T.nlist (by decide +kernel) (pa_cons (pv 1) pa_nil)))
      (pss_cons (ps_for PassesOwn.never rfl (pi_range1 rfl T.nrange (pa_cons (pv 3) pa_nil)) (pg_name (i := 5) scbehind.nd rfl (by first | exact Or.inl rfl | exact Or.inr rfl)) (pss_one (ps_set (i := 4) scbehind.nd rfl (by first | exact Or.inl rfl | exact Or.inr rfl) (pe_call (okbehindround T) (hr.mono (by decide)) rfl T.gbehindround T.fbehindround.kp T.bbehindround .nil pass0 (pa_cons (pv 0) (pa_cons (pv 4) (pa_cons (pv 2) pa_nil)))))))
      (pss_one (ps_ret (pv 4))))))), ?_⟩
    obtain ⟨rx, j, t, us, r1, r2, r3, r4⟩ := id hR
    refine ⟨_, rfl, r, _, rx, _, _, rfl, r1, T.lRow, T.nRow_jars, lk1, _, rfl, _, rfl, j, a, caps, st, p, rfl, r2, hS, p1, p2, hst, fun H1 s1 => ?_⟩
    refine ⟨_, rfl, _, _, rfl, rfl, _, rfl, ifT (decide_eq_true (by omega)) ?_⟩
    refine ⟨_, _, rfl, rfl, _, rfl, iteNS (by omega) ?_⟩
    refine ⟨_, rfl, a, _, rfl, sameA s1 hS, fun l hn => ?_⟩
    have s2 : Same H (upd H1 l (.lst (vi st))) := s1.trans (same_new hn)
    refine ⟨_, rfl, n, rfl, by omega, by omega, ?_⟩
    refine for_range (lo := 0) (n := (n : Int).toNat) (fun i σ H' => ∃ (m : Addr) (v : Option V), σ = [some (.ref r), some (.ref a), some (.int p), some (.int n), some (.ref m), v] ∧ H m = none ∧ H' m = some (.lst (vi (runs caps p ds i st))) ∧ Same H H')
      ⟨l, none, rfl, s1.free hn, by rw [upd_same]; rfl, s2⟩ ?_ ?_
    · rintro i σ H' hi ⟨m, v, rfl, hm, hm', sm⟩
      refine ⟨_, rfl, _, rfl, _, rfl, r, m, ds, caps, _, p, rfl, hR.same sm, ok, .inl (SqL.of hm'), p1, p2, (runs_stand p1 ok hst).len, fun H2 q q1 q2 s3 => ?_⟩
      exact ⟨q, _, rfl, sm.free q1, q2, sm.trans s3⟩
    · rintro σ H' ⟨m, v, rfl, hm, hm', sm⟩
      refine ⟨_, rfl, hq _ m hm ?_ sm⟩
      rw [hm', Int.toNat_natCast]
end
end Kp

namespace Kp
open PySem PySem.Spec PyProof.Rows L2 KpR
def keyI (l : List Int) : List L2.Key := l.map Sum.inl
theorem key_vi (l : List Int) : (keyI l).map kV = vi l := by
  unfold keyI vi
  rw [List.map_map]
  rfl
theorem key_inj : ∀ {l m : List Int}, keyI l = keyI m → l = m
  | [], [], _ => rfl
  | [], _ :: _, h => by cases h
  | _ :: _, [], h => by cases h
  | a :: l, b :: m, h => by
    injection h with h1 h2
    injection h1 with h1
    rw [h1, key_inj h2]
def seenAt (f : List Int → List Int) (st : List Int) (m : Nat) : List (List L2.Key × V) := (List.range m).map fun i => (keyI (it f i st), V.int i)
theorem seen_succ {f : List Int → List Int} {st : List Int} {m : Nat} : seenAt f st (m + 1) = seenAt f st m ++ [(keyI (it f m st), V.int m)] := by
  unfold seenAt
  rw [List.range_succ, List.map_append]
  rfl
theorem seen_none {f : List Int → List Int} {st x : List Int} : ∀ {m : Nat}, (∀ i, i < m → it f i st ≠ x) → valV (seenAt f st m) (keyI x) = none := fun {m} h => by
  unfold valV seenAt
  rw [Option.map_eq_none_iff, List.find?_eq_none]
  intro y hy
  obtain ⟨i, hi, rfl⟩ := List.mem_map.mp hy
  have := h i (List.mem_range.mp hi)
  simpa using fun z => this (key_inj z)
theorem seen_some {f : List Int → List Int} {st : List Int} {j : Nat} : ∀ {m : Nat}, j < m → (∀ i k, i < k → k < m → it f i st ≠ it f k st) → valV (seenAt f st m) (keyI (it f j st)) = some (V.int j)
  | 0, hj, _ => absurd hj (Nat.not_lt_zero _)
  | m + 1, hj, h => by
    have no : valV (seenAt f st m) (keyI (it f m st)) = none := seen_none fun i hi => h i m hi (by omega)
    rw [seen_succ, valV_snoc _ _ _ _ no]
    by_cases e : j = m
    · subst e
      rw [if_pos rfl]
    · rw [if_neg (fun z => h j m (by omega) (by omega) (key_inj z)), seen_some (by omega) (fun i k h1 h2 => h i k h1 (by omega))]
theorem seen_put {f : List Int → List Int} {st : List Int} {m : Nat} (h : ∀ i, i < m → it f i st ≠ it f m st) : putK (seenAt f st m) (keyI (it f m st)) (V.int m) = seenAt f st (m + 1) := by
  unfold putK
  rw [valV_any, seen_none h, if_neg (by simp), seen_succ]
theorem hu65 {A : Around} {k : Nat} (hr : Room k A) : A.units + 65 < cLine := by have := hr.un; omega
theorem gset {i : Nat} {v : V} {σ σ' : L2.St} {H : Hp} {Q : L2.St → Hp → Prop} (h : σ.set i (some v) = σ') (q : Q σ' H) : gName i v σ H Q := by
  subst h
  exact q
section
variable {K : PySem.W.Frag} {mg : Str → Option Value}
def spfate (T : Tx K mg) : Sp := fun vs H Q _ => ∃ (r a : Addr) (ds : List D) (caps st : List Int) (p : Int) (t n : Nat), vs = [.ref r, .ref a, .int p] ∧ RowAt T H r caps ds ∧ (∀ d ∈ ds, d.ok caps) ∧ (SqL K H a (vi st) ∨ H a = some (.tup (vi st))) ∧ 1 ≤ p ∧ p < 2 ^ 62 ∧ Stand caps p st ∧ Fate (run caps p ds) st t n ∧ t + n ≤ 20000 ∧
  ∀ (H' : Hp) (q : Addr), H q = none → H' q = some (.tup [.int t, .int n]) → Same H H' → Q (.ref q) H'
end
section
variable {P : Program} {w : World} {K : PySem.W.Frag} {mg : Str → Option Value} {base : Heap}
theorem okfate (T : Tx K mg) : FnOk P w K mg base CX0 3 T.afate T.dfate ["row", "start", "parts"] (spfate T) := by
  refine T.ffate.ok scfate (fun vs H Q E h => ?_) (fun cdv A outer s H vs Q E hr h => ?_)
  · obtain ⟨r, a, ds, caps, st, p, t, n, rfl, _⟩ := h
    rfl
  · obtain ⟨r, a0, ds, caps, st, p, t, n, rfl, hR, ok, ha, p1, p2, hst, hF, hB, hq⟩ := h
    refine ⟨_, PSs.nox (pss_cons (ps_expr (pe_call (okcheckstart T) (hr.mono (by decide)) rfl T.gcheckstart T.fcheckstart.kp T.bcheckstart .nil pass0 (pa_cons (pe_fld (pv 0) rfl) (pa_cons (pv 1) (pa_cons (pv 2) pa_nil)))))
      (C8.pss_cut (ps_set (i := 3) scfate.nd rfl (by first | exact Or.inl rfl | exact Or.inr rfl) (pe_callTy call_tuple_of rfl T.ntuple (by decide +kernel) (pa_cons (pv 1) pa_nil)))
      (pss_cons (ps_set (i := 4) scfate.nd rfl (by first | exact Or.inl rfl | exact Or.inr rfl) (pe_dispT (hu_of hr) (pv 3) pe_int))
      (pss_cons (ps_for PassesOwn.never rfl (pi_range2 rfl T.nrange (pa_cons pe_int (pa_cons (pe_op op_add (pe_glob (v := .int 20000) rfl T.cMOSTROUNDS ⟨_, rfl⟩) pe_int) pa_nil))) (pg_name (i := 5) scfate.nd rfl (by first | exact Or.inl rfl | exact Or.inr rfl)) (pss_cons (ps_set (i := 3) scfate.nd rfl (by first | exact Or.inl rfl | exact Or.inr rfl) (pe_callTy call_tuple_of rfl T.ntuple (by decide +kernel) (pa_cons (pe_call (okbehindround T) (hr.mono (by decide)) rfl T.gbehindround T.fbehindround.kp T.bbehindround .nil pass0 (pa_cons (pv 0) (pa_cons (pv 3) (pa_cons (pv 2) pa_nil)))) pa_nil)))
      (pss_cons (ps_if (pt_cmp (pc_din (hu_of hr) (pv 3) (pv 4)) (by rfl)) (pss_one (ps_ret (pe_tup (pa_cons (pe_dget (hu_of hr) (pv 4) (pv 3) (fun _ _ => rfl)) (pa_cons (pe_op op_sub (pv 5) (pe_dget (hu_of hr) (pv 4) (pv 3) (fun _ _ => rfl))) pa_nil))))) pss_nil)
      (pss_one (ps_dput (hu_of hr) (pv 4) (pv 3) (pv 5) rfl)))))
      (pss_one ps_never))))), ?_⟩
    obtain ⟨rx, j, tt, us, r1, r2, r3, r4⟩ := id hR
    have n1 := hF.pos
    refine ⟨_, rfl, r, _, rx, _, _, rfl, r1, T.lRow, T.nRow_jars, lk1, _, rfl, _, rfl, j, a0, caps, st, p, rfl, r2, ha.imp id SqT.of, p1, p2, hst, fun H1 s1 => ?_⟩
    refine ⟨fun σ' H' => ∃ b, σ' = [some (.ref r), some (.ref a0), some (.int p), some (.ref b), none, none] ∧ Same H H' ∧ H' b = some (.tup (vi st)), ?_, ?_⟩
    · rcases ha with ha | ha
      · exact ⟨_, rfl, a0, _, rfl, .inl ⟨s1.seq ha, fun l hl => ⟨l, rfl, s1.trans (same_new hl), upd_same⟩⟩⟩
      · exact ⟨_, rfl, a0, _, rfl, .inr ⟨SqT.of (s1 _ _ ha), ⟨a0, rfl, s1, s1 _ _ ha⟩⟩⟩
    replace s1 := True.intro
    rintro σ' H1 ⟨a, rfl, s1, ha1⟩
    refine fun D hD => ⟨_, rfl, upd_same, a, keyI st, rfl, (by rw [key_vi]; exact same_new hD _ _ ha1), ?_⟩
    have s2 : Same H (upd (upd H1 D (.dT [])) D (.dT [(keyI st, .int 0)])) := s1.trans (same_mut (same_new hD) hD)
    have d2 : (upd (upd H1 D (.dT [])) D (.dT [(keyI st, .int 0)])) D = some (.dT (seenAt (run caps p ds) st 1)) := upd_same
    have HD : H D = none := s1.free hD
    have a2 := (same_mut (same_new (o := .dT []) hD) hD (o := .dT [(keyI st, .int 0)])) _ _ ha1
    generalize upd (upd H1 D (.dT [])) D (.dT [(keyI st, V.int 0)]) = H2 at s2 d2 a2 ⊢
    refine ⟨_, _, rfl, rfl, _, _, rfl, ⟨by omega, by omega, by omega, by omega⟩, ?_⟩
    show ∃ W, _
    refine for_range (lo := 1) (n := ((20000 : Int) + 1 - 1).toNat) (fun k σ H' => ∃ (b : Addr) (v : Option V), σ = [some (.ref r), some (.ref a0), some (.int p), some (.ref b), some (.ref D), v] ∧ k < t + n ∧ H' b = some (.tup (vi (it (run caps p ds) k st))) ∧ H' D = some (.dT (seenAt (run caps p ds) st (k + 1))) ∧ Same H H') ⟨a, none, rfl, by omega, a2, d2, s2⟩ ?_ ?_
    · rintro k σ H' hk ⟨b, v, rfl, kt, hb, hd, sm⟩
      have Lk : (it (run caps p ds) k st).length = caps.length := by rw [← runs_it, runs_len, hst.len]
      refine ⟨_, rfl, _, rfl, _, rfl, r, b, ds, caps, _, p, rfl, hR.same sm, ok, .inr (SqT.of hb), p1, p2, Lk, fun H3 q q0 hq3 s3 => ?_⟩
      refine ⟨q, _, rfl, .inl ⟨SqL.of hq3, fun b2 hb2 => ?_⟩⟩
      have s4 := s3.trans (same_new (o := .tup (vi (run caps p ds (it (run caps p ds) k st)))) hb2)
      have h4 : (upd H3 b2 (.tup (vi (run caps p ds (it (run caps p ds) k st))))) b2 = some (.tup ((keyI (it (run caps p ds) (k + 1) st)).map kV)) := by rw [key_vi]; exact upd_same
      generalize upd H3 b2 _ = H4 at s4 h4 ⊢
      have d4 := s4 _ _ hd
      have g := DGet.t d4 h4
      refine ⟨_, rfl, _, rfl, D, _, rfl, g, _, rfl, ?_⟩
      by_cases e : k + 1 = t + n
      · have eq : it (run caps p ds) (k + 1) st = it (run caps p ds) t st := by rw [e]; exact hF.ring
        have v1 : valV (seenAt (run caps p ds) st (k + 1)) (keyI (it (run caps p ds) (k + 1) st)) = some (V.int t) := by
          rw [eq]
          exact seen_some (by omega) fun i k2 h1 h2 => hF.dist i k2 h1 (by omega)
        rw [v1] at g ⊢
        refine ifT rfl ?_
        refine ⟨_, rfl, _, rfl, D, _, rfl, g, _, rfl, _, rfl, _, rfl, D, _, rfl, g, _, _, rfl, rfl, (by show 2 ≤ sizeLine; decide), fun q5 hq5 => ?_⟩
        have s5 := same_new (o := .tup [V.int t, V.int (1 + (k : Int) - (t : Int))]) hq5
        refine hq _ q5 ((sm.trans s4).free hq5) ?_ ((sm.trans s4).trans s5)
        rw [show (n : Int) = 1 + (k : Int) - (t : Int) by omega]
        exact upd_same
      · have ne : ∀ i, i < k + 1 → it (run caps p ds) i st ≠ it (run caps p ds) (k + 1) st := fun i hi => hF.dist i (k + 1) hi (by omega)
        rw [seen_none ne]
        refine ifF rfl ?_
        refine ⟨_, rfl, _, rfl, _, rfl, D, _, rfl, DPut.t d4 h4 (Nat.lt_of_le_of_lt (by unfold seenAt; rw [List.length_map, List.length_range]; omega : _ ≤ 20001) (by decide)), ?_⟩
        refine ⟨b2, _, rfl, by omega, ?_, ?_, same_mut (sm.trans s4) HD⟩
        · have n : b2 ≠ D := fun z => by rw [z, d4] at h4; cases h4
          rw [key_vi] at h4
          rw [upd_ne n]
          exact h4
        · have ec : (1 : Int) + (k : Int) = ((k + 1 : Nat) : Int) := by omega
          rw [upd_same, ec, seen_put ne]
    · rintro σ H' ⟨b, v, rfl, kt, _⟩
      have : ((20000 : Int) + 1 - 1).toNat = 20000 := by decide
      omega
end
end Kp

namespace Kp
open PySem PySem.Spec PyProof.Rows L2 KpR
def D.word : D → Str
  | .pour _ _ => "pour"
  | .put _ _ => "put"
  | .draw _ _ => "draw"
  | .change _ _ => "change"
def D.last : D → Int
  | .pour _ b => b
  | .put _ k => k
  | .draw _ k => k
  | .change _ b => b
def FactAt (H : Hp) (v : V) (d : D) : Prop := ∃ t, v = .ref t ∧ H t = some (.tup [.str d.word, .int d.fst, .int d.last])
theorem FactAt.same {H H' : Hp} {v : V} {d : D} (e : Same H H') (h : FactAt H v d) : FactAt H' v d := by
  obtain ⟨t, rfl, h⟩ := h
  exact ⟨t, rfl, e _ _ h⟩
theorem FactAt.fr {w : Addr} {H H' : Hp} {u : HO} {v : V} {d : D} (e : Fr w H H') (hw : H w = some u) (hb : Blank u) (h : FactAt H v d) : FactAt H' v d := by
  obtain ⟨t, rfl, h⟩ := h
  exact ⟨t, rfl, fr_no e hw hb h nbT⟩
theorem made_same {H H' : Hp} {x dx : Addr} {o1 o2 : HO} (hx : H x = none) (hdx : H dx = none) (fr : Fr x (upd (upd H dx o1) x o2) H') : Same H H' := fun b o e => by
  have n1 : b ≠ x := ne_of_none e hx
  refine fr b o n1 ?_
  rw [upd_ne n1, upd_ne (ne_of_none e hdx)]
  exact e
/-- a well out of which c numbers have been drawn -/
def WellAt (n : Nat) (H : Hp) (w : Addr) : Prop := ∃ x y z : Int, H w = some (.lst [.int x, .int y, .int z]) ∧ 0 ≤ y ∧ y ≤ 2147483629 ∧ 0 ≤ z ∧ z ≤ n
theorem WellAt.mono {n m : Nat} {H : Hp} {w : Addr} (h : WellAt n H w) (k : n ≤ m) : WellAt m H w := by
  obtain ⟨x, y, z, q, r1, r2, r3, r4⟩ := h
  exact ⟨x, y, z, q, r1, r2, r3, by omega⟩
theorem WellAt.ex {n : Nat} {H : Hp} {w : Addr} (h : WellAt n H w) : ∃ u, H w = some u ∧ Blank u := by
  obtain ⟨a, b, c, q, _⟩ := h
  exact ⟨_, q, bl_l⟩
theorem WellAt.new {n : Nat} {H : Hp} {w p : Addr} {o : HO} (h : WellAt n H w) (e : H p = none) : WellAt n (upd H p o) w := by
  obtain ⟨a, b, c, q, r⟩ := h
  exact ⟨a, b, c, (same_new e) _ _ q, r⟩
theorem WellAt.ne {n : Nat} {H : Hp} {w p : Addr} (h : WellAt n H w) (e : H p = none) : p ≠ w := fun z => by
  obtain ⟨a, b, c, q, r⟩ := h
  rw [← z, e] at q
  cases q
theorem WellAt.mut {n : Nat} {H : Hp} {w p : Addr} {o : HO} (h : WellAt n H w) (e : p ≠ w) : WellAt n (upd H p o) w := by
  obtain ⟨a, b, c, q, r⟩ := h
  exact ⟨a, b, c, by rw [upd_ne e.symm]; exact q, r⟩
theorem WellAt.same {n : Nat} {H H' : Hp} {w : Addr} (h : WellAt n H w) (e : Same H H') : WellAt n H' w := by
  obtain ⟨a, b, c, q, r⟩ := h
  exact ⟨a, b, c, e _ _ q, r⟩
section
variable {K : PySem.W.Frag} {mg : Str → Option Value}
def spLwell (T : Tx K mg) : Sp := fun vs H Q _ => ∃ n : Int, vs = [.int n] ∧ ∀ (H' : Hp) (p : Addr), H p = none → WellAt 0 H' p → Same H H' → Q (.ref p) H'
def spLdraw (T : Tx K mg) : Sp := fun vs H Q _ => ∃ (w : Addr) (m : Int) (n : Nat), vs = [.ref w, .int m] ∧ WellAt n H w ∧ n ≤ 10000 ∧ 1 ≤ m ∧ m < 2 ^ 100 ∧ ∀ (H' : Hp) (v : Nat), (v : Int) < m → WellAt (n + 1) H' w → Fr w H H' → Q (.int v) H'
def spLof (T : Tx K mg) : Sp := fun vs H Q _ => ∃ (w a : Addr) (l : List Int) (n : Nat), vs = [.ref w, .ref a] ∧ WellAt n H w ∧ n ≤ 10000 ∧ H a = some (.lst (vi l)) ∧ a ≠ w ∧ 1 ≤ l.length ∧ l.length ≤ 20 ∧ ∀ (H' : Hp) (x : Int), x ∈ l → WellAt (n + 1) H' w → Fr w H H' → Q (.int x) H'
def spLdeedmade (T : Tx K mg) : Sp := fun vs H Q _ => ∃ d : D, vs = [.str d.word, .int d.fst, .int d.last] ∧ ∀ (H' : Hp) (p : Addr), H p = none → DeedAt T H' (.ref p) d → Same H H' → Q (.ref p) H'
def spLrow (T : Tx K mg) : Sp := fun vs H Q _ => ∃ (c f : Addr) (caps : List Int) (ts : List V) (ds : List D), vs = [.ref c, .ref f] ∧ H c = some (.tup (vi caps)) ∧ Caps caps ∧ H f = some (.lst ts) ∧ A2 (FactAt H) ts ds ∧ ds.length ≤ 20 ∧ (∀ d ∈ ds, d.ok caps) ∧
  ∀ (H' : Hp) (r : Addr), H r = none → RowAt T H' r caps ds → Same H H' → Q (.ref r) H'
def spLonce (T : Tx K mg) : Sp := fun vs H Q _ => ∃ (c f a : Addr) (caps st : List Int) (ts : List V) (ds : List D) (p : Int), vs = [.ref c, .ref f, .ref a, .int p] ∧ H c = some (.tup (vi caps)) ∧ H f = some (.lst ts) ∧ A2 (FactAt H) ts ds ∧ (∀ d ∈ ds, d.ok caps) ∧ H a = some (.tup (vi st)) ∧ st.length = caps.length ∧ 1 ≤ p ∧ p < 2 ^ 62 ∧
  ∀ (H' : Hp) (r : Addr), H r = none → H' r = some (.tup (vi (run caps p ds st))) → Same H H' → Q (.ref r) H'
def spLgreat (T : Tx K mg) : Sp := fun vs H Q _ => ∃ (w : Addr) (n : Nat), vs = [.ref w] ∧ WellAt n H w ∧ n ≤ 9999 ∧ ∀ (H' : Hp) (v : Nat), (v : Int) < 1000000000000 → WellAt (n + 2) H' w → Fr w H H' → Q (.int v) H'
def spLover (T : Tx K mg) : Sp := fun vs H Q _ => ∃ a d : Int, vs = [.int a, .int d] ∧ 1 ≤ d ∧ d < 2 ^ 100 ∧ Q (.int (over a d)) H
def spLcellat (T : Tx K mg) : Sp := fun vs H Q _ => ∃ (a : Addr) (ns : List Int) (k : Nat), vs = [.ref a, .int k] ∧ SqL K H a (vi ns) ∧ ∀ n : Int, Q (.int n) H
end
section
variable {P : Program} {w : World} {K : PySem.W.Frag} {mg : Str → Option Value} {base : Heap}
theorem okLcellat (T : Tx K mg) : FnOk P w K mg base CX0 1 T.aLcellat T.dLcellat ["_law_script", "_law_k"] (spLcellat T) := by
  refine T.fLcellat.ok scLcellat (fun vs H Q E h => ?_) (fun cdv A outer s H vs Q E hr h => ?_)
  · obtain ⟨a, ns, k, rfl, _⟩ := h
    rfl
  · obtain ⟨a, ns, k, rfl, hS, hq⟩ := h
    refine ⟨_, (pss_cons (ps_if (pt_cmpR op_lt (pv 1) (pe_callB call_len_seq rfl T.nlen PySem.boot_len (pa_cons (pv 0) pa_nil)) (nomark _)) (pss_one (ps_ret (pe_ix (r := rIxL K) ix_list (pv 0) (pv 1) (fun _ _ => rfl)))) pss_nil)
      (pss_one (ps_ret pe_int))), ?_⟩
    refine ⟨_, rfl, _, rfl, a, _, rfl, .inl hS, _, _, rfl, rfl, _, rfl, ifD (fun g => ?_) (fun _ => hq 0)⟩
    rw [List.length_map] at g
    exact ⟨_, rfl, _, rfl, a, _, _, _, rfl, rfl, hS, vi_at (by omega), hq _⟩
theorem okLwell (T : Tx K mg) : FnOk P w K mg base CX0 1 T.aLwell T.dLwell ["_law_cell"] (spLwell T) := by
  refine T.fLwell.ok scLwell (fun vs H Q E h => ?_) (fun cdv A outer s H vs Q E hr h => ?_)
  · obtain ⟨n, rfl, _⟩ := h
    rfl
  · obtain ⟨n, rfl, hq⟩ := h
    refine ⟨_, (pss_one (ps_ret (pe_lst (pa_cons (pe_op op_mul (pv 0) (pe_callTy call_int1 rfl T.nint (by decide +kernel) (pa_cons (pe_cmpR op_ge (pv 0) (pe_op op_pow pe_int pe_int) (nomark _)) pa_nil))) (pa_cons (pe_op op_mod (pv 0) pe_int) (pa_cons pe_int pa_nil)))))), ?_⟩
    refine ⟨_, rfl, _, rfl, _, _, rfl, rfl, ⟨by decide, by decide, by decide⟩, _, _, rfl, rfl, .inr ⟨_, rfl, _, _, rfl, rfl, .inr ?_, _, rfl, _, _, rfl, rfl, (by show (0 : Int) < 2147483629; decide), (by show 3 ≤ sizeLine; decide), fun p hp => hq _ p hp ⟨_, _, _, upd_same, Int.emod_nonneg _ (by decide), Int.le_of_lt (Int.emod_lt_of_pos _ (by decide)), by decide, by decide⟩ (same_new hp)⟩⟩
    split <;> exact ⟨by decide, by decide⟩
theorem okLdraw (T : Tx K mg) : FnOk P w K mg base CX0 1 T.aLdraw T.dLdraw ["_law_well_here", "_law_size"] (spLdraw T) := by
  refine T.fLdraw.ok scLdraw (fun vs H Q E h => ?_) (fun cdv A outer s H vs Q E hr h => ?_)
  · obtain ⟨u, m, n, rfl, _⟩ := h
    rfl
  · obtain ⟨u, m, n, rfl, ⟨a, b, c, hw, b0, b1, c0, c1⟩, n1, m1, m2, hq⟩ := h
    refine ⟨_, (pss_cons (ps_if (pt_cmpR op_gt (pe_ix (r := rIxL K) ix_list (pv 0) pe_int (fun _ _ => rfl)) pe_int (nomark _)) (pss_cons (ps_set (i := 2) scLdraw.nd rfl (by first | exact Or.inl rfl | exact Or.inr rfl) (pe_op op_mod (pe_ix (r := rIxL K) ix_list (pv 0) pe_int (fun _ _ => rfl)) (pv 1)))
      (pss_cons (ps_asg (pe_op op_fdivW (pe_ix (r := rIxL K) ix_list (pv 0) pe_int (fun _ _ => rfl)) (pv 1)) (pg_sub (pv 0) pe_int set_list))
      (pss_one (ps_ret (pv 2))))) pss_nil)
      (pss_cons (ps_asg (pe_op op_add (pe_ix (r := rIxL K) ix_list (pv 0) pe_int (fun _ _ => rfl)) pe_int) (pg_sub (pv 0) pe_int set_list))
      (pss_cons (ps_set (i := 3) scLdraw.nd rfl (by first | exact Or.inl rfl | exact Or.inr rfl) (pe_op op_mod (pe_op op_pow (pe_op op_add (pe_op op_add (pe_ix (r := rIxL K) ix_list (pv 0) pe_int (fun _ _ => rfl)) (pe_op op_mul pe_int (pe_ix (r := rIxL K) ix_list (pv 0) pe_int (fun _ _ => rfl)))) pe_int) pe_int) pe_int))
      (pss_cons (ps_set (i := 3) scLdraw.nd rfl (by first | exact Or.inl rfl | exact Or.inr rfl) (pe_op op_mod (pe_op op_add (pe_op op_fdivW (pv 3) pe_int) (pe_op op_mul (pv 3) (pe_op op_add (pe_ix (r := rIxL K) ix_list (pv 0) pe_int (fun _ _ => rfl)) pe_int))) pe_int))
      (pss_cons (ps_set (i := 3) scLdraw.nd rfl (by first | exact Or.inl rfl | exact Or.inr rfl) (pe_op op_mod (pe_op op_mul (pv 3) (pe_op op_add (pe_op op_fdivW (pv 3) pe_int) pe_int)) pe_int))
      (pss_one (ps_ret (pe_op op_mod (pe_op op_fdivW (pv 3) pe_int) (pv 1))))))))), ?_⟩
    have wd : CDivW a m := wide_div (b := 100) (by omega) (by omega) (by decide) (by decide)
    have back : ∀ (x : Int) (H' : Hp), WellAt (n + 1) H' u → Fr u H H' → Q (.int (x % m)) H' := fun x H' h1 h2 => by
      have q0 := Int.emod_nonneg x (show m ≠ 0 by omega)
      have q1 := Int.emod_lt_of_pos x (show 0 < m by omega)
      have e : x % m = ((x % m).toNat : Int) := by omega
      rw [e]
      exact hq H' _ (by omega) h1 h2
    refine ⟨_, rfl, u, _, _, _, rfl, rfl, SqL.of hw, rfl, _, _, rfl, rfl, _, rfl, ifD (fun _ => ?_) (fun _ => ?_)⟩
    · refine ⟨_, rfl, u, _, _, _, rfl, rfl, SqL.of hw, rfl, _, rfl, _, _, rfl, rfl, (by show 0 < m; omega), ?_⟩
      refine ⟨_, rfl, u, _, _, _, rfl, rfl, SqL.of hw, rfl, _, rfl, _, _, rfl, rfl, wd, _, rfl, u, _, _, 0, rfl, rfl, hw, rfl, _, rfl, ?_⟩
      exact back a _ ⟨_, _, _, upd_same, b0, b1, c0, by omega⟩ (fr_mut (Fr.refl _ _))
    · refine ⟨_, rfl, u, _, _, _, rfl, rfl, SqL.of hw, rfl, _, _, rfl, rfl, _, rfl, u, _, _, 2, rfl, rfl, hw, rfl, ?_⟩
      refine ⟨_, rfl, u, _, _, _, rfl, rfl, SqL.of upd_same, rfl, _, rfl, u, _, _, _, rfl, rfl, SqL.of upd_same, rfl, _, _, rfl, rfl, .inl ⟨by decide, by decide⟩, _, _, rfl, rfl, _, _, rfl, rfl, _, _, rfl, rfl, ⟨by decide, by decide, by omega⟩, _, _, rfl, rfl, (by show (0 : Int) < 2147483647; decide), ?_⟩
      refine ⟨_, rfl, _, _, rfl, rfl, ⟨by decide, by decide⟩, _, rfl, _, rfl, u, _, _, _, rfl, rfl, SqL.of upd_same, rfl, _, _, rfl, rfl, _, _, rfl, rfl, .inr ⟨by omega, by omega⟩, _, _, rfl, rfl, _, _, rfl, rfl, (by show (0 : Int) < 2147483587; decide), ?_⟩
      refine ⟨_, rfl, _, rfl, _, _, rfl, rfl, ⟨by decide, by decide⟩, _, _, rfl, rfl, _, _, rfl, rfl, ?_, _, _, rfl, rfl, (by show (0 : Int) < 2147483563; decide), ?_⟩
      · exact .inl ⟨Int.lt_of_lt_of_le (by decide) (Int.emod_nonneg _ (by decide)), Int.lt_trans (Int.emod_lt_of_pos _ (by decide)) (by decide)⟩
      refine ⟨_, rfl, _, _, rfl, rfl, ⟨by decide, by decide⟩, _, rfl, _, _, rfl, rfl, (by show 0 < m; omega), ?_⟩
      exact back _ _ ⟨_, _, _, upd_same, b0, b1, by omega, by omega⟩ (fr_mut (Fr.refl _ _))
theorem okLdeedmade (T : Tx K mg) : FnOk P w K mg base CX0 3 T.aLdeedmade T.dLdeedmade ["_law_word", "_law_a", "_law_last"] (spLdeedmade T) := by
  refine T.fLdeedmade.ok scLdeedmade (fun vs H Q E h => ?_) (fun cdv A outer s H vs Q E hr h => ?_)
  · obtain ⟨d, rfl, _⟩ := h
    rfl
  · obtain ⟨d, rfl, hq⟩ := h
    refine ⟨_, (pss_cons (ps_if (pt_cmpR op_eq (pv 0) pe_str (nomark _)) (pss_one (ps_ret (pe_make T.kPour (okPourInit T) (hr.mono (by decide)) rfl T.mPour T.bPourInit .nil pass0 (pa_cons (pv 1) (pa_cons (pv 2) pa_nil))))) pss_nil)
      (pss_cons (ps_if (pt_cmpR op_eq (pv 0) pe_str (nomark _)) (pss_one (ps_ret (pe_make T.kPut (okPutInit T) (hr.mono (by decide)) rfl T.mPut T.bPutInit .nil pass0 (pa_cons (pv 1) (pa_cons (pv 2) pa_nil))))) pss_nil)
      (pss_cons (ps_if (pt_cmpR op_eq (pv 0) pe_str (nomark _)) (pss_one (ps_ret (pe_make T.kDraw (okDrawInit T) (hr.mono (by decide)) rfl T.mDraw T.bDrawInit .nil pass0 (pa_cons (pv 1) (pa_cons (pv 2) pa_nil))))) pss_nil)
      (pss_one (ps_ret (pe_make T.kChange (okChangeInit T) (hr.mono (by decide)) rfl T.mChange T.bChangeInit .nil pass0 (pa_cons (pv 1) (pa_cons (pv 2) pa_nil)))))))), ?_⟩
    refine ⟨_, rfl, rfl, _, rfl, ?_⟩
    have fin : ∀ (x dx : Addr) (C : Addr) (fs : List (Str × V)) (H2 : Hp), H x = none → H dx = none → dx ≠ x → (H2 x = some (.ins C dx fs)) → Fr x (upd (upd H dx (.own x)) x (.ins C dx [])) H2 → (DeedAt T H2 (.ref x) d) → Q (.ref x) H2 := fun x dx C fs H2 hx hdx ne h2 fr hd => hq H2 x hx hd (made_same hx hdx fr)
    cases d with
    | pour a b =>
      refine ifT (show decide (V.str "pour" = V.str "pour") = true by decide +kernel) ⟨_, rfl, _, rfl, fun x dx hx hdx ne => ⟨x, dx, _, _, rfl, upd_same, fun H2 h2 fr => ⟨rfl, ?_⟩⟩⟩
      exact fin x dx _ _ H2 hx hdx ne h2 fr ⟨x, dx, rfl, h2⟩
    | put a k =>
      refine ifF (show decide (V.str "put" = V.str "pour") = false by decide +kernel) ⟨_, rfl, rfl, _, rfl, ifT (show decide (V.str "put" = V.str "put") = true by decide +kernel) ⟨_, rfl, _, rfl, fun x dx hx hdx ne => ⟨x, dx, _, _, rfl, upd_same, fun H2 h2 fr => ⟨rfl, ?_⟩⟩⟩⟩
      exact fin x dx _ _ H2 hx hdx ne h2 fr ⟨x, dx, rfl, h2⟩
    | draw a k =>
      refine ifF (show decide (V.str "draw" = V.str "pour") = false by decide +kernel) ⟨_, rfl, rfl, _, rfl, ifF (show decide (V.str "draw" = V.str "put") = false by decide +kernel) ⟨_, rfl, rfl, _, rfl, ifT (show decide (V.str "draw" = V.str "draw") = true by decide +kernel) ⟨_, rfl, _, rfl, fun x dx hx hdx ne => ⟨x, dx, _, _, rfl, upd_same, fun H2 h2 fr => ⟨rfl, ?_⟩⟩⟩⟩⟩
      exact fin x dx _ _ H2 hx hdx ne h2 fr ⟨x, dx, rfl, h2⟩
    | change a k =>
      refine ifF (show decide (V.str "change" = V.str "pour") = false by decide +kernel) ⟨_, rfl, rfl, _, rfl, ifF (show decide (V.str "change" = V.str "put") = false by decide +kernel) ⟨_, rfl, rfl, _, rfl, ifF (show decide (V.str "change" = V.str "draw") = false by decide +kernel) ⟨_, rfl, _, rfl, fun x dx hx hdx ne => ⟨x, dx, _, _, rfl, upd_same, fun H2 h2 fr => ⟨rfl, ?_⟩⟩⟩⟩⟩
      exact fin x dx _ _ H2 hx hdx ne h2 fr ⟨x, dx, rfl, h2⟩
theorem okLrow (T : Tx K mg) : FnOk P w K mg base CX0 5 T.aLrow T.dLrow ["_law_sizes_here", "_law_deeds_here"] (spLrow T) := by
  refine T.fLrow.ok scLrow (fun vs H Q E h => ?_) (fun cdv A outer s H vs Q E hr h => ?_)
  · obtain ⟨c, f, caps, ts, ds, rfl, _⟩ := h
    rfl
  · obtain ⟨c, f, caps, ts, ds, rfl, hc, hC, hf, hA, l20, ok, hq⟩ := h
    refine ⟨_, (pss_one (ps_ret (pe_make T.kRow (okRowInit T) (hr.mono (by decide)) rfl T.mRow T.bRowInit .nil pass0 (pa_cons (pe_make T.kJars (okJarsInit T) (hr.mono (by decide)) rfl T.mJars T.bJarsInit .nil pass0 (pa_cons (pv 0) pa_nil)) (pa_cons (pe_lc (own := [("_law_word", 2), ("_law_a", 3), ("_law_last", 4)]) (g := gTup K 3 (gCons (gName 2) (gCons (gName 3) (gCons (gName 4) gNil)))) rfl scLrow.nd (pi_list (pv 1)) (blkOk_by (own := [("_law_word", 2), ("_law_a", 3), ("_law_last", 4)]) (N := ["_law_sizes_here", "_law_deeds_here", "_law_word", "_law_a", "_law_last"]) (sc := defScope sLrow) (by decide +kernel)) (fun _ _ _ _ _ => (pg_tup rfl (pgs_cons (pg_name (i := 2) scLrow.nd rfl (by first | exact Or.inl rfl | exact Or.inr rfl)) (pgs_cons (pg_name (i := 3) scLrow.nd rfl (by first | exact Or.inl rfl | exact Or.inr rfl)) (pgs_cons (pg_name (i := 4) scLrow.nd rfl (by first | exact Or.inl rfl | exact Or.inr rfl)) pgs_nil))))) (fun _ _ _ _ _ => pts_nil) (fun _ _ _ _ _ => (pe_call (okLdeedmade T) (hr.mono (by decide)) rfl T.gLdeedmade T.fLdeedmade.kp T.bLdeedmade .nil pass0 (pa_cons (pv 2) (pa_cons (pv 3) (pa_cons (pv 4) pa_nil)))))) pa_nil))))), ?_⟩
    have vl := hA.len
    refine ⟨_, rfl, fun x dx hx hdx ne => ?_⟩
    have s1 : Same H (upd (upd H dx (.own x)) x (.ins T.cJars dx [])) := (same_new hdx).trans (same_new (by rw [upd_ne ne.symm]; exact hx))
    refine ⟨x, dx, c, caps, rfl, upd_same, s1 _ _ hc, hC, fun H1 hJ fr => ⟨rfl, ?_⟩⟩
    have s2 := made_same hx hdx fr
    refine ⟨_, rfl, f, rfl, ⟨_, SqL.of (s2 _ _ hf)⟩, fun D hD => ?_⟩
    refine lc_list (K := K) (a := f) (xs := ts) (fun i H' => ∃ us, H' D = some (.lst us) ∧ A2 (DeedAt T H') us (ds.take i) ∧ Same H1 H') ⟨[], upd_same, by simp [A2], same_new hD⟩ (fun i H' _ ⟨_, _, _, e⟩ => e.seq (SqL.of (s2 _ _ hf))) ?_ ?_
    · rintro i y H' hi ⟨us, k1, k2, sm⟩
      obtain ⟨d, hd, hy⟩ := hA.get hi
      obtain ⟨t, rfl, ht⟩ := hy.same (s2.trans sm)
      have ul := k2.len
      rw [List.length_take] at ul
      refine ⟨t, _, rfl, SqT.of ht, rfl, _, _, rfl, _, _, rfl, _, _, rfl, rfl, rfl, _, rfl, _, rfl, _, rfl, d, rfl, fun H2 q q0 hq2 s3 => ?_⟩
      have g := s3 _ _ k1
      have bl : Fr D H2 (upd H2 D (.lst (us ++ [V.ref q]))) := fr_mut (Fr.refl _ _)
      refine ⟨us, g, small1000 (by omega), us ++ [V.ref q], upd_same, ?_, same_mut (sm.trans s3) hD⟩
      rw [List.take_add_one, hd]
      exact A2.app (A2.mono (fun _ _ k => (k.same s3).fr bl g bl_l) k2) ⟨hq2.fr bl g bl_l, trivial⟩
    · rintro H3 ⟨us, k1, k2, sm⟩
      rw [vl, List.take_length] at k2
      refine fun x2 dx2 hx2 hdx2 ne2 => ?_
      have s3 : Same H3 (upd (upd H3 dx2 (.own x2)) x2 (.ins T.cRow dx2 [])) := (same_new hdx2).trans (same_new (by rw [upd_ne ne2.symm]; exact hx2))
      refine ⟨x2, dx2, x, D, caps, us, ds, rfl, upd_same, (hJ.same sm).same s3, s3 _ _ k1, A2.mono (fun _ _ k => k.same s3) k2, l20, ok, fun H5 hR fr5 => ⟨rfl, ?_⟩⟩
      exact hq H5 x2 ((s2.trans sm).free hx2) hR ((s2.trans sm).trans (made_same hx2 hdx2 fr5))
theorem okLgreat (T : Tx K mg) : FnOk P w K mg base CX0 2 T.aLgreat T.dLgreat ["_law_well_here"] (spLgreat T) := by
  refine T.fLgreat.ok scLgreat (fun vs H Q E h => ?_) (fun cdv A outer s H vs Q E hr h => ?_)
  · obtain ⟨u, n, rfl, _⟩ := h
    rfl
  · obtain ⟨u, n, rfl, hw, n1, hq⟩ := h
    refine ⟨_, (pss_one (ps_ret (pe_op op_add (pe_op op_mul (pe_call (okLdraw T) (hr.mono (by decide)) rfl T.gLdraw T.fLdraw.kp T.bLdraw .nil pass0 (pa_cons (pv 0) (pa_cons (pe_op op_pow pe_int pe_int) pa_nil))) (pe_op op_pow pe_int pe_int)) (pe_call (okLdraw T) (hr.mono (by decide)) rfl T.gLdraw T.fLdraw.kp T.bLdraw .nil pass0 (pa_cons (pv 0) (pa_cons (pe_op op_pow pe_int pe_int) pa_nil)))))), ?_⟩
    have e6 : (10 : Int) ^ (6 : Int).toNat = 1000000 := by decide
    refine ⟨_, rfl, _, _, rfl, rfl, ⟨by decide, by decide, by decide⟩, u, _, n, rfl, hw, by omega, by decide, by decide, fun H1 v1 l1 w1 f1 => ?_⟩
    refine ⟨_, _, rfl, rfl, ⟨by decide, by decide, by decide⟩, _, _, rfl, rfl, .inr ⟨by decide, by decide⟩, _, rfl, _, _, rfl, rfl, ⟨by decide, by decide, by decide⟩, u, _, n + 1, rfl, w1, by omega, by decide, by decide, fun H2 v2 l2 w2 f2 => ⟨_, _, rfl, rfl, ?_⟩⟩
    rw [e6] at l1 l2 ⊢
    have := hq H2 (v1 * 1000000 + v2) (by omega) w2 (f1.trans f2)
    rw [Int.natCast_add, Int.natCast_mul] at this
    exact this
end
end Kp

namespace Kp
open PySem PySem.Spec PyProof.Rows L2 KpR
theorem turn_ne {M a e : Nat} (ha : a < M) (he : e + 1 < M) : (a + 1 + e) % M < M ∧ a ≠ (a + 1 + e) % M := by
  refine ⟨Nat.mod_lt _ (by omega), ?_⟩
  by_cases c : a + 1 + e < M
  · rw [Nat.mod_eq_of_lt c]
    omega
  · rw [Nat.mod_eq_sub_mod (by omega), Nat.mod_eq_of_lt (by omega)]
    omega
/-- a deed whose amount is at most its jar's size and one more -/
def D.little (caps : List Int) (d : D) : Prop := d.ok caps ∧ ∀ a k, (d = .put a k ∨ d = .draw a k) → k ≤ at0 caps a + 1
section
variable {K : PySem.W.Frag} {mg : Str → Option Value}
def spLsizes (T : Tx K mg) : Sp := fun vs H Q _ => ∃ (u : Addr) (m : Nat) (most : Int) (n : Nat), vs = [.ref u, .int m, .int most] ∧ WellAt n H u ∧ n ≤ 9000 ∧ 1 ≤ m ∧ m ≤ 6 ∧ 1 ≤ most ∧ most ≤ 1000 ∧
  ∀ (H' : Hp) (c : Addr) (caps : List Int), H' c = some (.tup (vi caps)) → caps.length = m → (∀ x ∈ caps, 1 ≤ x ∧ x ≤ most) → WellAt (n + 1 + 2 * m) H' u → Fr u H H' → Q (.ref c) H'
def spLdeed (T : Tx K mg) : Sp := fun vs H Q _ => ∃ (u c : Addr) (caps : List Int) (n : Nat), vs = [.ref u, .ref c] ∧ WellAt n H u ∧ n ≤ 9000 ∧ H c = some (.tup (vi caps)) ∧ 1 ≤ caps.length ∧ caps.length ≤ 6 ∧ (∀ x ∈ caps, 1 ≤ x ∧ x ≤ 999999999998) ∧
  ∀ (H' : Hp) (t : V) (d : D), FactAt H' t d → d.little caps → WellAt (n + 4) H' u → Fr u H H' → Q t H'
def spLdeeds (T : Tx K mg) : Sp := fun vs H Q _ => ∃ (u c : Addr) (caps : List Int) (m n : Nat), vs = [.ref u, .ref c, .int m] ∧ WellAt n H u ∧ n ≤ 8000 ∧ m ≤ 20 ∧ H c = some (.tup (vi caps)) ∧ 1 ≤ caps.length ∧ caps.length ≤ 6 ∧ (∀ x ∈ caps, 1 ≤ x ∧ x ≤ 999999999998) ∧
  ∀ (H' : Hp) (f : Addr) (ts : List V) (ds : List D), H f = none → H' f = some (.lst ts) → A2 (FactAt H') ts ds → ds.length ≤ m → (∀ d ∈ ds, d.little caps) → WellAt (n + 1 + 5 * m) H' u → Fr u H H' → Q (.ref f) H'
def spLstart (T : Tx K mg) : Sp := fun vs H Q _ => ∃ (u c : Addr) (caps : List Int) (p : Int) (n : Nat), vs = [.ref u, .ref c, .int p] ∧ WellAt n H u ∧ n ≤ 9000 ∧ H c = some (.tup (vi caps)) ∧ caps.length ≤ 6 ∧ (∀ x ∈ caps, 1 ≤ x ∧ x ≤ 1000000000000) ∧ 1 ≤ p ∧ p < 2 ^ 40 ∧
  ∀ (H' : Hp) (a : Addr) (st : List Int), H' a = some (.tup (vi st)) → Stand caps p st → WellAt (n + caps.length) H' u → Fr u H H' → Q (.ref a) H'
end
section
variable {P : Program} {w : World} {K : PySem.W.Frag} {mg : Str → Option Value} {base : Heap}
theorem pickL {l : Addr} {xs : List Int} {n : Nat} {H : Hp} {Q : VK} (h : SqL K H l (vi xs)) (hn : n < xs.length) (q : Q (.int (at0 xs n)) H) : rIxL K (.ref l) (.int n) H Q := ⟨l, _, _, _, rfl, rfl, h, vi_at hn, q⟩
theorem okLsizes (T : Tx K mg) : FnOk P w K mg base CX0 2 T.aLsizes T.dLsizes ["_law_well_here", "_law_jars", "_law_most"] (spLsizes T) := by
  refine T.fLsizes.ok scLsizes (fun vs H Q E h => ?_) (fun cdv A outer s H vs Q E hr h => ?_)
  · obtain ⟨u, m, most, n, rfl, _⟩ := h
    rfl
  · obtain ⟨u, m, most, n, rfl, hw, n9, m1, m6, o1, o2, hq⟩ := h
    refine ⟨_, (pss_cons (ps_set (i := 3) scLsizes.nd rfl (by first | exact Or.inl rfl | exact Or.inr rfl) (pe_op op_add pe_int (pe_call (okLdraw T) (hr.mono (by decide)) rfl T.gLdraw T.fLdraw.kp T.bLdraw .nil pass0 (pa_cons (pv 0) (pa_cons (pv 2) pa_nil)))))
      (pss_one (ps_ret (pe_callTy call_tuple_of rfl T.ntuple (by decide +kernel) (pa_cons (pe_lc (own := [("_law_k", 4)]) rfl scLsizes.nd (pi_range1 rfl T.nrange (pa_cons (pv 1) pa_nil)) (blkOk_by (own := [("_law_k", 4)]) (N := ["_law_well_here", "_law_jars", "_law_most", "_law_first", "_law_k"]) (sc := defScope sLsizes) (by decide +kernel)) (fun _ _ _ _ _ => (pg_name (i := 4) scLsizes.nd rfl (by first | exact Or.inl rfl | exact Or.inr rfl))) (fun _ _ _ _ _ => pts_nil) (fun _ _ _ _ _ => (pe_ix (r := rIxL K) ix_list (pe_lst (pa_cons (pv 3) (pa_cons (pe_op op_add pe_int (pe_call (okLdraw T) (hr.mono (by decide)) rfl T.gLdraw T.fLdraw.kp T.bLdraw .nil pass0 (pa_cons (pv 0) (pa_cons (pv 2) pa_nil)))) pa_nil))) (pe_call (okLdraw T) (hr.mono (by decide)) rfl T.gLdraw T.fLdraw.kp T.bLdraw .nil pass0 (pa_cons (pv 0) (pa_cons pe_int pa_nil))) (fun _ _ => rfl)))) pa_nil))))), ?_⟩
    refine ⟨_, rfl, _, rfl, u, most, n, rfl, hw, by omega, by omega, by omega, fun H1 g lg w1 f1 => ⟨_, _, rfl, rfl, ?_⟩⟩
    obtain ⟨g1, hg⟩ : ∃ g1 : Int, 1 + (g : Int) = g1 := ⟨_, rfl⟩
    refine gset (σ' := [some (V.ref u), some (V.int m), some (V.int most), some (V.int g1), none]) (by rw [← hg]; rfl) ?_
    refine ⟨_, rfl, _, rfl, by omega, by omega, fun D hD => ?_⟩
    have du : D ≠ u := w1.ne hD
    refine lc_range (lo := 0) (n := ((m : Int)).toNat) (fun i H' => ∃ ws : List Int, H' D = some (.lst (vi ws)) ∧ ws.length = i ∧ (∀ x ∈ ws, 1 ≤ x ∧ x ≤ most) ∧ WellAt (n + 1 + 2 * i) H' u ∧ Fr u H1 H') ⟨[], upd_same, rfl, (fun x h => by cases h), w1.new hD, Fr.of (same_new hD)⟩ ?_ ?_
    · rintro i H' hi ⟨ws, q1, rfl, z1, w2, f2⟩
      have hi2 : ws.length < m := by omega
      refine ⟨rfl, ?_⟩
      refine ⟨_, rfl, _, rfl, _, rfl, u, most, n + 1 + 2 * ws.length, rfl, w2, by omega, by omega, by omega, fun H3 d ld w3 f3 => ⟨_, _, rfl, rfl, (by show 2 ≤ sizeLine; decide), fun l hl => ?_⟩⟩
      have x3 := same_new (o := .lst [V.int g1, V.int (1 + (d : Int))]) hl
      have lu : l ≠ u := w3.ne hl
      refine ⟨_, rfl, u, 2, n + 2 + 2 * ws.length, rfl, (w3.same x3).mono (by omega), by omega, by decide, by decide, fun H4 e le w4 f4 => ?_⟩
      refine pickL (xs := [g1, 1 + (d : Int)]) (SqL.of (f4 _ _ lu upd_same)) (by simp; omega) ?_
      have mem := at0_mem (l := [g1, 1 + (d : Int)]) (i := e) (by simp; omega)
      generalize at0 [g1, 1 + (d : Int)] e = y at mem
      have y1 : 1 ≤ y ∧ y ≤ most := by
        rcases List.mem_cons.mp mem with h | h
        · omega
        · have := List.mem_singleton.mp h
          omega
      refine ⟨_, f4 _ _ du (x3 _ _ (f3 _ _ du q1)), Nat.lt_of_lt_of_le (by rw [List.length_map]; omega : _ < 100) (by decide), ws ++ [y], ?_, by simp, ?_, ?_, ?_⟩
      · rw [upd_same]
        simp [vi]
      · intro x hx
        rcases List.mem_append.mp hx with h | h
        · exact z1 x h
        · obtain rfl := List.mem_singleton.mp h
          exact y1
      · exact (w4.mut du).mono (by omega)
      · exact fr_new (((f2.trans f3).trans (Fr.of x3)).trans f4) hD
    · rintro H' ⟨ws, q1, e1, z1, w2, f2⟩
      refine ⟨D, _, rfl, .inl ⟨SqL.of q1, fun c hc => ?_⟩⟩
      have x4 := same_new (o := .tup (vi ws)) hc
      exact hq _ c ws upd_same (by omega) z1 ((w2.same x4).mono (by omega)) ((f1.trans f2).trans (Fr.of x4))
theorem okLdeed (T : Tx K mg) : FnOk P w K mg base CX0 2 T.aLdeed T.dLdeed ["_law_well_here", "_law_sizes_here"] (spLdeed T) := by
  refine T.fLdeed.ok scLdeed (fun vs H Q E h => ?_) (fun cdv A outer s H vs Q E hr h => ?_)
  · obtain ⟨u, c, caps, n, rfl, _⟩ := h
    rfl
  · obtain ⟨u, c, caps, n, rfl, hw, n9, hc, c1, c6, cb, hq⟩ := h
    refine ⟨_, (pss_cons (ps_set (i := 2) scLdeed.nd rfl (by first | exact Or.inl rfl | exact Or.inr rfl) (pe_call (okLdraw T) (hr.mono (by decide)) rfl T.gLdraw T.fLdraw.kp T.bLdraw .nil pass0 (pa_cons (pv 0) (pa_cons (pe_callB call_len_seq rfl T.nlen PySem.boot_len (pa_cons (pv 1) pa_nil)) pa_nil))))
      (pss_cons (ps_set (i := 3) scLdeed.nd rfl (by first | exact Or.inl rfl | exact Or.inr rfl) (pe_op op_mod (pe_op op_add (pe_op op_add (pv 2) pe_int) (pe_call (okLdraw T) (hr.mono (by decide)) rfl T.gLdraw T.fLdraw.kp T.bLdraw .nil pass0 (pa_cons (pv 0) (pa_cons (pe_callB (call_max2 rfl) rfl T.nmax (by decide +kernel) (pa_cons pe_int (pa_cons (pe_op op_sub (pe_callB call_len_seq rfl T.nlen PySem.boot_len (pa_cons (pv 1) pa_nil)) pe_int) pa_nil))) pa_nil)))) (pe_callB call_len_seq rfl T.nlen PySem.boot_len (pa_cons (pv 1) pa_nil))))
      (pss_cons (ps_set (i := 4) scLdeed.nd rfl (by first | exact Or.inl rfl | exact Or.inr rfl) (pe_call (okLdraw T) (hr.mono (by decide)) rfl T.gLdraw T.fLdraw.kp T.bLdraw .nil pass0 (pa_cons (pv 0) (pa_cons pe_int pa_nil))))
      (pss_cons (ps_set (i := 5) scLdeed.nd rfl (by first | exact Or.inl rfl | exact Or.inr rfl) (pe_op op_add pe_int (pe_call (okLdraw T) (hr.mono (by decide)) rfl T.gLdraw T.fLdraw.kp T.bLdraw .nil pass0 (pa_cons (pv 0) (pa_cons (pe_op op_add (pe_ix (r := rIxT K) ix_tup (pv 1) (pv 2) (fun _ _ => rfl)) pe_int) pa_nil)))))
      (pss_cons (ps_if (PW.pt (pw_or (pt_cmpR op_lt (pv 4) pe_int (nomark _)) (pw_or1 (pt_cmpR op_eq (pv 2) (pv 3) (nomark _))))) (pss_one (ps_ret (pe_tup (pa_cons (pe_ix (r := rIxL K) ix_list (pe_lst (pa_cons pe_str (pa_cons pe_str pa_nil))) (pe_op op_mod (pv 4) pe_int) (fun _ _ => rfl)) (pa_cons (pv 2) (pa_cons (pv 5) pa_nil)))))) pss_nil)
      (pss_cons (ps_if (PW.pt (pw_and (pt_cmpR op_eq (pv 4) pe_int (nomark _)) (pw_and1 (pt_cmpR op_eq (pe_ix (r := rIxT K) ix_tup (pv 1) (pv 2) (fun _ _ => rfl)) (pe_ix (r := rIxT K) ix_tup (pv 1) (pv 3) (fun _ _ => rfl)) (nomark _))))) (pss_one (ps_ret (pe_tup (pa_cons pe_str (pa_cons (pv 2) (pa_cons (pv 3) pa_nil)))))) pss_nil)
      (pss_one (ps_ret (pe_tup (pa_cons pe_str (pa_cons (pv 2) (pa_cons (pv 3) pa_nil)))))))))))), ?_⟩
    have cu : c ≠ u := fun z => by
      obtain ⟨_, _, _, q, _⟩ := hw
      rw [← z, hc] at q
      cases q
    obtain ⟨M, hM⟩ : ∃ M : Nat, caps.length = M := ⟨_, rfl⟩
    have lv : (vi caps).length = M := by rw [List.length_map]; exact hM
    -- a
    refine ⟨_, rfl, _, rfl, c, _, rfl, .inr (SqT.of hc), u, _, n, rfl, hw, by omega, by rw [lv]; omega, by rw [lv]; omega, fun H1 a la w1 f1 => ?_⟩
    rw [lv] at la
    have la : a < M := by omega
    refine gset (σ' := [some (V.ref u), some (V.ref c), some (V.int a), none, none, none]) rfl ?_
    have c1' := f1 _ _ cu hc
    -- b
    refine ⟨_, rfl, _, _, rfl, rfl, _, rfl, _, rfl, c, _, rfl, .inr (SqT.of c1'), _, _, rfl, rfl, _, _, rfl, u, _, n + 1, rfl, w1, by omega, by rw [lv]; split <;> omega, by rw [lv]; split <;> omega, fun H2 e le w2 f2 => ?_⟩
    have le : 1 ≤ M ∧ (M = 1 → e = 0) ∧ (2 ≤ M → e + 1 < M) := by
      rw [lv] at le
      split at le <;> omega
    have c2 := f2 _ _ cu c1'
    refine ⟨_, _, rfl, rfl, _, rfl, c, _, rfl, .inr (SqT.of c2), _, _, rfl, rfl, (by show 0 < ((vi caps).length : Int); rw [lv]; omega), ?_⟩
    obtain ⟨b, hb⟩ : ∃ b : Nat, (a + 1 + e) % M = b := ⟨_, rfl⟩
    have ec : ((a : Int) + 1 + (e : Int)) % ((vi caps).length : Int) = (b : Int) := by
      rw [← hb, Int.natCast_emod, lv]
      rfl
    refine gset (σ' := [some (V.ref u), some (V.ref c), some (V.int a), some (V.int b), none, none]) (by rw [← ec]; rfl) ?_
    have lb : b < M := by rw [← hb]; exact Nat.mod_lt _ (by omega)
    have nab : 2 ≤ M → a ≠ b := fun h => by rw [← hb]; exact (turn_ne la (le.2.2 h)).2
    -- way
    refine ⟨_, rfl, u, 8, n + 2, rfl, w2, by omega, by decide, by decide, fun H3 v lw w3 f3 => ?_⟩
    refine gset (σ' := [some (V.ref u), some (V.ref c), some (V.int a), some (V.int b), some (V.int v), none]) rfl ?_
    have c3 := f3 _ _ cu c2
    -- much
    have ba := cb _ (at0_mem (l := caps) (i := a) (by omega))
    refine ⟨_, rfl, _, rfl, _, rfl, c, _, _, _, rfl, rfl, SqT.of c3, vi_at (by omega), _, _, rfl, rfl, u, _, n + 3, rfl, w3, by omega, (by show 1 ≤ at0 caps a + 1; omega), (by show at0 caps a + 1 < _; omega), fun H4 k lk w4 f4 => ⟨_, _, rfl, rfl, ?_⟩⟩
    have lk : (k : Int) < at0 caps a + 1 := lk
    obtain ⟨mu, hmu⟩ : ∃ mu : Int, 1 + (k : Int) = mu := ⟨_, rfl⟩
    refine gset (σ' := [some (V.ref u), some (V.ref c), some (V.int a), some (V.int b), some (V.int v), some (V.int mu)]) (by rw [← hmu]; rfl) ?_
    have c4 := f4 _ _ cu c3
    have f04 := ((f1.trans f2).trans f3).trans f4
    have fin : ∀ (d : D) (G : Hp) (t : Addr), Same H4 G → d.little caps → G t = some (.tup [.str d.word, .int d.fst, .int d.last]) → Q (.ref t) G := fun d G t s hd ht => hq G _ d ⟨t, rfl, ht⟩ hd ((w4.same s).mono (by omega)) (f04.trans (Fr.of s))
    have pd : ∀ (G : Hp → VK → Prop), True := fun _ => trivial
    -- put or draw
    have two : ∀ (l : Addr), H4 l = none → v % 2 = 0 ∨ v % 2 = 1 := fun _ _ => by omega
    have lp : D.little caps (.put a mu) := ⟨⟨by omega, by omega, by omega⟩, fun a' k' h => by
      rcases h with h | h
      · injection h with h1 h2
        subst h1 h2
        omega
      · cases h⟩
    have ld : D.little caps (.draw a mu) := ⟨⟨by omega, by omega, by omega⟩, fun a' k' h => by
      rcases h with h | h
      · cases h
      · injection h with h1 h2
        subst h1 h2
        omega⟩
    have pick : ∀ (l : Addr) (G : VK), H4 l = none → (v % 2 = 0 → G (.str "put") (upd H4 l (.lst [V.str "put", V.str "draw"]))) → (v % 2 = 1 → G (.str "draw") (upd H4 l (.lst [V.str "put", V.str "draw"]))) → rIxL K (.ref l) (.int ((v : Int) % 2)) (upd H4 l (.lst [V.str "put", V.str "draw"])) G := fun l G hl g0 g1 => by
      rcases (show v % 2 = 0 ∨ v % 2 = 1 by omega) with e | e
      · rw [show (v : Int) % 2 = ((0 : Nat) : Int) by omega]
        exact ⟨l, _, _, _, rfl, rfl, SqL.of upd_same, atI_nat rfl, g0 e⟩
      · rw [show (v : Int) % 2 = ((1 : Nat) : Int) by omega]
        exact ⟨l, _, _, _, rfl, rfl, SqL.of upd_same, atI_nat rfl, g1 e⟩
    refine ⟨_, rfl, _, _, rfl, rfl, _, rfl, ifD (fun g => ?_) (fun g => ?_)⟩
    · exact ⟨(by show 2 ≤ sizeLine; decide), fun l hl => ⟨_, rfl, _, _, rfl, rfl, (by show (0 : Int) < 2; decide), pick l _ hl (fun _ => ⟨_, rfl, _, rfl, (by show 3 ≤ sizeLine; decide), fun t ht => fin (.put a mu) _ t ((same_new hl).trans (same_new ht)) lp upd_same⟩) (fun _ => ⟨_, rfl, _, rfl, (by show 3 ≤ sizeLine; decide), fun t ht => fin (.draw a mu) _ t ((same_new hl).trans (same_new ht)) ld upd_same⟩)⟩⟩
    refine ⟨_, rfl, _, rfl, rfl, _, rfl, ifD (fun g => ?_) (fun g => ?_)⟩
    · exact ⟨(by show 2 ≤ sizeLine; decide), fun l hl => ⟨_, rfl, _, _, rfl, rfl, (by show (0 : Int) < 2; decide), pick l _ hl (fun _ => ⟨_, rfl, _, rfl, (by show 3 ≤ sizeLine; decide), fun t ht => fin (.put a mu) _ t ((same_new hl).trans (same_new ht)) lp upd_same⟩) (fun _ => ⟨_, rfl, _, rfl, (by show 3 ≤ sizeLine; decide), fun t ht => fin (.draw a mu) _ t ((same_new hl).trans (same_new ht)) ld upd_same⟩)⟩⟩
    have nab2 : a ≠ b := fun z => g (by rw [z])
    have fpour : ∀ t, H4 t = none → Q (.ref t) (upd H4 t (.tup [.str "pour", .int a, .int b])) := fun t ht => fin (.pour a b) _ t (same_new ht) ⟨⟨by omega, by omega, nab2⟩, fun a' k' h => by rcases h with h | h <;> cases h⟩ upd_same
    refine ⟨_, rfl, rfl, _, rfl, ifD (fun g7 => ?_) (fun g7 => ?_)⟩
    · refine ⟨_, rfl, _, rfl, c, _, _, _, rfl, rfl, SqT.of c4, vi_at (by omega), _, rfl, _, rfl, c, _, _, _, rfl, rfl, SqT.of c4, vi_at (by omega), rfl, _, rfl, ifD (fun ge => ?_) (fun ge => ?_)⟩
      · have ge : at0 caps a = at0 caps b := by injection ge
        exact ⟨_, rfl, _, rfl, (by show 3 ≤ sizeLine; decide), fun t ht => fin (.change a b) _ t (same_new ht) ⟨⟨by omega, by omega, nab2, ge⟩, fun a' k' h => by rcases h with h | h <;> cases h⟩ upd_same⟩
      · exact ⟨_, rfl, _, rfl, (by show 3 ≤ sizeLine; decide), fpour⟩
    · exact ⟨_, rfl, _, rfl, (by show 3 ≤ sizeLine; decide), fpour⟩
theorem okLdeeds (T : Tx K mg) : FnOk P w K mg base CX0 3 T.aLdeeds T.dLdeeds ["_law_well_here", "_law_sizes_here", "_law_most"] (spLdeeds T) := by
  refine T.fLdeeds.ok scLdeeds (fun vs H Q E h => ?_) (fun cdv A outer s H vs Q E hr h => ?_)
  · obtain ⟨u, c, caps, m, n, rfl, _⟩ := h
    rfl
  · obtain ⟨u, c, caps, m, n, rfl, hw, n9, m20, hc, c1, c6, cb, hq⟩ := h
    refine ⟨_, (pss_cons (ps_set (i := 3) scLdeeds.nd rfl (by first | exact Or.inl rfl | exact Or.inr rfl) (pe_lst pa_nil))
      (pss_cons (ps_for PassesOwn.never rfl (pi_range1 rfl T.nrange (pa_cons (pe_call (okLdraw T) (hr.mono (by decide)) rfl T.gLdraw T.fLdraw.kp T.bLdraw .nil pass0 (pa_cons (pv 0) (pa_cons (pe_op op_add (pv 2) pe_int) pa_nil))) pa_nil)) (pg_name (i := 4) scLdeeds.nd rfl (by first | exact Or.inl rfl | exact Or.inr rfl)) (pss_cons (ps_set (i := 5) scLdeeds.nd rfl (by first | exact Or.inl rfl | exact Or.inr rfl) (pe_call (okLdeed T) (hr.mono (by decide)) rfl T.gLdeed T.fLdeed.kp T.bLdeed .nil pass0 (pa_cons (pv 0) (pa_cons (pv 1) pa_nil))))
      (C8.pss_cut (ps_if (PW.pt (pw_and (pt_cmpR (op_neNil (Nat.lt_of_le_of_lt (Nat.le_add_right _ _) hr.units)) (pv 3) (pe_lst pa_nil) (nomark _)) (pw_and1 (pt_cmpR op_eq (pe_call (okLdraw T) (hr.mono (by decide)) rfl T.gLdraw T.fLdraw.kp T.bLdraw .nil pass0 (pa_cons (pv 0) (pa_cons pe_int pa_nil))) pe_int (nomark _))))) (pss_one (ps_set (i := 5) scLdeeds.nd rfl (by first | exact Or.inl rfl | exact Or.inr rfl) (pe_ix (r := rIxL K) ix_list (pv 3) (pe_un un_neg pe_int) (fun _ _ => rfl)))) pss_nil)
      (pss_one (ps_expr (pe_bm PySem.F.plainAttrs_list PySem.F.slot_list_append PySem.F.type_list_append mt_append (pv 3) (pa_cons (pv 5) pa_nil)))))))
      (pss_one (ps_ret (pv 3))))), ?_⟩
    have cu : c ≠ u := fun z => by
      obtain ⟨_, _, _, q, _⟩ := hw
      rw [← z, hc] at q
      cases q
    refine ⟨(by show 0 ≤ sizeLine; decide), fun f hf => ?_⟩
    have fu : f ≠ u := hw.ne hf
    have cf : c ≠ f := ne_of_none hc hf
    refine gset (σ' := [some (V.ref u), some (V.ref c), some (V.int m), some (V.ref f), none, none]) rfl ?_
    have s0 := same_new (o := .lst []) hf
    have w0 := hw.same s0
    have f0 : (upd H f (.lst [])) f = some (.lst []) := upd_same
    have c0 := s0 _ _ hc
    generalize upd H f (.lst []) = H0 at s0 w0 f0 c0 ⊢
    refine ⟨_, rfl, _, rfl, _, _, rfl, rfl, u, _, n, rfl, w0, by omega, by omega, by omega, fun H1 g lg w1 f1 => ⟨_, rfl, by omega, by omega, ?_⟩⟩
    refine for_range (lo := 0) (n := ((g : Int)).toNat) (fun i σ H' => ∃ (v4 v5 : Option V) (ts : List V) (ds : List D), σ = [some (V.ref u), some (V.ref c), some (V.int m), some (V.ref f), v4, v5] ∧ H' f = some (.lst ts) ∧ A2 (FactAt H') ts ds ∧ ds.length = i ∧ (∀ d ∈ ds, d.little caps) ∧ WellAt (n + 1 + 5 * i) H' u ∧ Fr u H H' ∧ H' c = some (.tup (vi caps)))
      ⟨none, none, [], [], rfl, f1 _ _ fu f0, trivial, rfl, (fun d h => by cases h), w1, (Fr.of s0).trans f1, f1 _ _ cu c0⟩ ?_ ?_
    · rintro i σ H2 hi ⟨v4, v5, ts, ds, rfl, g2, A2', e2, ok2, w2, fr2, c2⟩
      have i20 : i < 20 := by omega
      refine ⟨_, rfl, _, rfl, u, c, caps, n + 1 + 5 * i, rfl, w2, by omega, c2, c1, c6, cb, fun H3 t d hd ld w3 f3 => ?_⟩
      refine gset (σ' := [some (V.ref u), some (V.ref c), some (V.int m), some (V.ref f), some (V.int (0 + (i : Nat))), some t]) rfl ?_
      obtain ⟨o2, ho2, bo2⟩ := w2.ex
      have A3 : A2 (FactAt H3) ts ds := A2.mono (fun _ _ k => k.fr f3 ho2 bo2) A2'
      have g3 := f3 _ _ fu g2
      have c3 := f3 _ _ cu c2
      have fr3 := fr2.trans f3
      have tl := A3.len
      obtain ⟨o3, ho3, bo3⟩ := w3.ex
      refine ⟨fun σ' H' => ∃ (t : V) (d : D), σ' = [some (V.ref u), some (V.ref c), some (V.int m), some (V.ref f), some (V.int (0 + (i : Nat))), some t] ∧ FactAt H' t d ∧ d.little caps ∧ WellAt (n + 1 + 5 * i + 5) H' u ∧ Fr u H3 H', ?_, ?_⟩
      · rcases List.eq_nil_or_concat ts with e | ⟨us, y, e⟩ <;> (try rw [List.concat_eq_append] at e)
        · subst e
          refine ⟨_, rfl, (by show 0 ≤ sizeLine; decide), fun z hz => ⟨f, z, _, rfl, rfl, (same_new hz) _ _ g3, upd_same, _, rfl, ifF rfl ?_⟩⟩
          exact ⟨t, d, rfl, hd.same (same_new hz), ld, (w3.same (same_new hz)).mono (by omega), Fr.of (same_new hz)⟩
        · subst e
          obtain ⟨dl, hdl, fl⟩ := A3.get (i := us.length) (v := y) (by simp)
          refine ⟨_, rfl, (by show 0 ≤ sizeLine; decide), fun z hz => ⟨f, z, _, rfl, rfl, (same_new hz) _ _ g3, upd_same, _, rfl, ifT (by simp) ?_⟩⟩
          have xz := same_new (o := .lst []) hz
          refine ⟨_, rfl, u, 5, n + 1 + 5 * i + 4, rfl, (w3.same xz).mono (by omega), by omega, by decide, by decide, fun H4 v lv w4 f4 => ⟨rfl, _, rfl, ifD (fun g => ?_) (fun g => ?_)⟩⟩
          · have f34 := (Fr.of xz).trans f4
            refine ⟨_, rfl, _, rfl, f, _, _, _, rfl, rfl, SqL.of (f34 _ _ fu g3), atI_last _ _, ?_⟩
            exact ⟨y, dl, rfl, fl.fr f34 ho3 bo3, ok2 _ (List.mem_of_getElem? hdl), w4.mono (by omega), f34⟩
          · exact ⟨t, d, rfl, hd.fr ((Fr.of xz).trans f4) ho3 bo3, ld, w4.mono (by omega), (Fr.of xz).trans f4⟩
      rintro σ' H4 ⟨t, d, rfl, hd, ld, w4, f4⟩
      have A4 : A2 (FactAt H4) ts ds := A2.mono (fun _ _ k => k.fr f4 ho3 bo3) A3
      refine ⟨_, rfl, .inl ⟨rfl, _, SqL.of (f4 _ _ fu g3)⟩, _, rfl, f, _, _, rfl, rfl, f4 _ _ fu g3, small1000 (by omega), ?_⟩
      have q : Fr f H4 (upd H4 f (.lst (ts ++ [t]))) := fr_mut (Fr.refl _ _)
      refine ⟨_, _, ts ++ [t], ds ++ [d], rfl, upd_same, ?_, by rw [List.length_append, e2]; rfl, ?_, ?_, ?_, ?_⟩
      · exact A2.mono (fun _ _ k => k.fr q (f4 _ _ fu g3) bl_l) (A2.app A4 ⟨hd, trivial⟩)
      · intro e he
        rcases List.mem_append.mp he with h | h
        · exact ok2 e h
        · obtain rfl := List.mem_singleton.mp h
          exact ld
      · exact (w4.mut fu).mono (by omega)
      · intro b o nb hb
        rw [upd_ne (ne_of_none hb hf)]
        exact f4 b o nb (fr3 b o nb hb)
      · rw [upd_ne cf]
        exact f4 _ _ cu c3
    · rintro σ H2 ⟨v4, v5, ts, ds, rfl, g2, A2', e2, ok2, w2, fr2, c2⟩
      exact ⟨_, rfl, hq _ f ts ds hf g2 A2' (by omega) ok2 (w2.mono (by omega)) fr2⟩
theorem okLstart (T : Tx K mg) : FnOk P w K mg base CX0 2 T.aLstart T.dLstart ["_law_well_here", "_law_sizes_here", "_law_shares"] (spLstart T) := by
  refine T.fLstart.ok scLstart (fun vs H Q E h => ?_) (fun cdv A outer s H vs Q E hr h => ?_)
  · obtain ⟨u, c, caps, p, n, rfl, _⟩ := h
    rfl
  · obtain ⟨u, c, caps, p, n, rfl, hw, n9, hc, c6, cb, p1, p2, hq⟩ := h
    refine ⟨_, (pss_one (ps_ret (pe_callTy call_tuple_of rfl T.ntuple (by decide +kernel) (pa_cons (pe_lc (own := [("_law_size", 3)]) rfl scLstart.nd (pi_tup (pv 1)) (blkOk_by (own := [("_law_size", 3)]) (N := ["_law_well_here", "_law_sizes_here", "_law_shares", "_law_size"]) (sc := defScope sLstart) (by decide +kernel)) (fun _ _ _ _ _ => (pg_name (i := 3) scLstart.nd rfl (by first | exact Or.inl rfl | exact Or.inr rfl))) (fun _ _ _ _ _ => pts_nil) (fun _ _ _ _ _ => (pe_call (okLdraw T) (hr.mono (by decide)) rfl T.gLdraw T.fLdraw.kp T.bLdraw .nil pass0 (pa_cons (pv 0) (pa_cons (pe_op op_add (pe_op op_mul (pv 3) (pv 2)) pe_int) pa_nil))))) pa_nil)))), ?_⟩
    have cu : c ≠ u := fun z => by
      obtain ⟨_, _, _, q, _⟩ := hw
      rw [← z, hc] at q
      cases q
    refine ⟨_, rfl, c, rfl, ⟨_, SqT.of hc⟩, fun D hD => ?_⟩
    have du : D ≠ u := hw.ne hD
    have p62 : p < 2 ^ 62 := by omega
    refine lc_tup (K := K) (a := c) (xs := vi caps) (fun i H' => ∃ st : List Int, H' D = some (.lst (vi st)) ∧ st.length = i ∧ Part caps p st ∧ WellAt (n + i) H' u ∧ Fr u H H') ⟨[], upd_same, rfl, Part.nil, hw.new hD, Fr.of (same_new hD)⟩ (fun i H' _ ⟨_, _, _, _, _, f⟩ => SqT.of (f _ _ cu hc)) ?_ ?_
    · rintro i y H' hi ⟨st, q1, rfl, pt, w1, f1⟩
      obtain ⟨z, hz, rfl⟩ := vi_get hi
      have lt : st.length < caps.length := (List.getElem?_eq_some_iff.mp hz).1
      have ez := at0_of hz
      have zb := cb z (List.mem_of_getElem? hz)
      have zp0 : 0 ≤ z * p := Int.mul_nonneg (by omega) (by omega)
      have zp1 : z * p ≤ 1000000000000 * 2 ^ 40 := Int.mul_le_mul zb.2 (by omega) (by omega) (by decide)
      refine ⟨rfl, ?_⟩
      refine ⟨_, rfl, _, rfl, _, rfl, _, _, rfl, rfl, .inr (mulP p1 p62), _, _, rfl, rfl, u, _, n + st.length, rfl, w1, by omega, (by show 1 ≤ z * p + 1; omega), (by
        show z * p + 1 < 2 ^ 100
        have : (1000000000000 : Int) * 2 ^ 40 + 1 < 2 ^ 100 := by decide
        omega), fun H2 g lg w2 f2 => ?_⟩
      have lg : (g : Int) < z * p + 1 := lg
      refine ⟨_, f2 _ _ du q1, Nat.lt_of_lt_of_le (by rw [List.length_map]; omega : _ < 100) (by decide), st ++ [(g : Int)], ?_, by simp, pt.app (by omega) (by rw [ez]; omega), (w2.mut du), ?_⟩
      · rw [upd_same]
        simp [vi]
      · exact fr_new (f1.trans f2) hD
    · rintro H' ⟨st, q1, e1, pt, w1, f1⟩
      rw [show (vi caps).length = caps.length from List.length_map ..] at e1 w1
      refine ⟨D, _, rfl, .inl ⟨SqL.of q1, fun a ha => ?_⟩⟩
      have x4 := same_new (o := .tup (vi st)) ha
      exact hq _ a st upd_same (pt.stand e1) (w1.same x4) (f1.trans (Fr.of x4))
end
end Kp

namespace Kp
open PySem PySem.Spec PyProof.Rows L2 KpR
theorem pick2I {x y : Int} {c : Bool} : atI [V.int x, V.int y] (if c = true then 1 else 0) = some (.int (if c = true then y else x)) := by cases c <;> rfl
def D.isPD : D → Bool
  | .put _ _ => true
  | .draw _ _ => true
  | _ => false
theorem word_pd (d : D) : inV (.str d.word) [V.str "put", V.str "draw"] = d.isPD := by
  cases d with
  | pour a b => show inV (.str "pour") [V.str "put", V.str "draw"] = false; decide +kernel
  | put a b => show inV (.str "put") [V.str "put", V.str "draw"] = true; decide +kernel
  | draw a b => show inV (.str "draw") [V.str "put", V.str "draw"] = true; decide +kernel
  | change a b => show inV (.str "change") [V.str "put", V.str "draw"] = false; decide +kernel
theorem sc_last {d : D} {q : Int} : d.last * (if d.isPD = true then q else 1) = (d.sc q).last := by
  cases d <;> simp [D.isPD, D.last, D.sc]
theorem sc_word {d : D} {q : Int} : (d.sc q).word = d.word := by cases d <;> rfl
theorem sc_fst {d : D} {q : Int} : (d.sc q).fst = d.fst := by cases d <;> rfl
theorem sc_little {caps : List Int} {d : D} {q : Int} (h : d.little caps) (c6 : ∀ x ∈ caps, 1 ≤ x ∧ x ≤ 6) (q1 : 1 ≤ q) (q2 : q ≤ 100000000000) : (d.sc q).ok (mulL q caps) := by
  have hl : (mulL q caps).length = caps.length := List.length_map ..
  obtain ⟨ok, few⟩ := h
  have kb : ∀ a k, a < caps.length → 1 ≤ k → (d = .put a k ∨ d = .draw a k) → 1 ≤ k * q ∧ k * q ≤ 1000000000000 := fun a k ha k1 hd => by
    have h1 := few a k hd
    have h2 := (c6 _ (at0_mem ha)).2
    have h3 : k * q ≤ 7 * 100000000000 := Int.mul_le_mul (by omega) q2 (by omega) (by decide)
    have h4 : 1 * 1 ≤ k * q := Int.mul_le_mul k1 q1 (by decide) (by omega)
    omega
  cases d with
  | pour a b => exact ⟨by rw [hl]; exact ok.1, by rw [hl]; exact ok.2.1, ok.2.2⟩
  | put a k =>
    have := kb a k ok.1 ok.2.1 (.inl rfl)
    exact ⟨by rw [hl]; exact ok.1, this.1, this.2⟩
  | draw a k =>
    have := kb a k ok.1 ok.2.1 (.inr rfl)
    exact ⟨by rw [hl]; exact ok.1, this.1, this.2⟩
  | change a b => exact ⟨by rw [hl]; exact ok.1, by rw [hl]; exact ok.2.1, ok.2.2.1, by rw [at0_mul, at0_mul, ok.2.2.2]⟩
theorem wide_caps {caps : List Int} {q : Int} (c1 : 1 ≤ caps.length) (c3 : caps.length ≤ 6) (c6 : ∀ x ∈ caps, 1 ≤ x ∧ x ≤ 6) (q1 : 1 ≤ q) (q2 : q ≤ 100000000000) : Caps (mulL q caps) := by
  have hl : (mulL q caps).length = caps.length := List.length_map ..
  have b : ∀ i, i < (mulL q caps).length → 1 ≤ at0 (mulL q caps) i ∧ at0 (mulL q caps) i ≤ 1000000000000 := fun i hi => by
    rw [hl] at hi
    rw [at0_mul]
    have h := c6 _ (at0_mem hi)
    have h3 : at0 caps i * q ≤ 6 * 100000000000 := Int.mul_le_mul h.2 q2 (by omega) (by decide)
    have h4 : 1 * 1 ≤ at0 caps i * q := Int.mul_le_mul h.1 q1 (by decide) (by omega)
    omega
  exact ⟨by omega, by omega, fun i hi => (b i hi).1, fun i hi => (b i hi).2⟩
section
variable {K : PySem.W.Frag} {mg : Str → Option Value}
def spLshared (T : Tx K mg) : Sp := fun vs H Q _ => ∃ a b : Nat, vs = [.int a, .int b] ∧ a < 2 ^ 40 ∧ b < 2 ^ 40 ∧ Q (.int (Nat.gcd a b)) H
def spLtimes (T : Tx K mg) : Sp := fun vs H Q _ => ∃ (c f : Addr) (caps : List Int) (ts : List V) (ds : List D) (q : Int), vs = [.ref c, .ref f, .int q] ∧ H c = some (.tup (vi caps)) ∧ caps.length ≤ 6 ∧ H f = some (.lst ts) ∧ A2 (FactAt H) ts ds ∧ ds.length ≤ 20 ∧ 1 ≤ q ∧ q < 2 ^ 62 ∧
  ∀ (H' : Hp) (z cw fw : Addr) (us : List V), H' z = some (.tup [.ref cw, .ref fw]) → H' cw = some (.tup (vi (mulL q caps))) → H' fw = some (.lst us) → A2 (FactAt H') us (ds.map (D.sc q)) → Same H H' → Q (.ref z) H'
theorem kbFate (T : Tx K mg) : ∃ mv : List Value, KBn K T.dfate ["row", "start", "parts"] 2 ["parts"] (fun us ws => us ++ (ws ++ mv)) (fun vs zs => vs ++ (zs ++ [])) :=
  T.ffate.kbinds0 2 ["parts"] [] (fun vs mz zs => vs ++ (zs ++ mz)) (by simp) (by simp) (fun r1 r2 r3 => r1.append (r3.append r2))
    (fun Dd doc pm an cdv ct us mv ws h1 h2 h3 => match us, mv, ws, h1, h2, h3 with
      | [_, _], [], [_], _, _, _ => rfl)
theorem kbParts (T : Tx K mg) : ∃ mv : List Value, KBn K T.dbehind ["row", "start", "parts", "times"] 2 ["parts"] (fun us ws => us ++ (ws ++ mv)) (fun vs zs => vs ++ (zs ++ [.int 1])) :=
  T.fbehind.kbinds0 2 ["parts"] [("times", .int 1)] (fun vs mz zs => vs ++ (zs ++ mz)) (by simp) (by simp) (fun r1 r2 r3 => r1.append (r3.append r2))
    (fun Dd doc pm an cdv ct us mv ws h1 h2 h3 => match us, mv, ws, h1, h2, h3 with
      | [_, _], [_], [_], _, _, _ => ⟨_, _, _, _, _, _, rfl, rfl, rfl⟩)
theorem kbBoth (T : Tx K mg) : ∃ mv : List Value, KBn K T.dbehind ["row", "start", "parts", "times"] 2 ["parts", "times"] (fun us ws => us ++ ws) (fun vs zs => vs ++ zs) :=
  T.fbehind.kbinds0 2 ["parts", "times"] [] (fun vs mz zs => vs ++ zs) (by simp) (by simp) (fun r1 r2 r3 => r1.append r3)
    (fun Dd doc pm an cdv ct us mv ws h1 h2 h3 => match us, mv, ws, h1, h2, h3 with
      | [_, _], [], [_, _], _, _, _ => rfl)
end
section
variable {P : Program} {w : World} {K : PySem.W.Frag} {mg : Str → Option Value} {base : Heap}
theorem okLshared (T : Tx K mg) : FnOk P w K mg base CX0 1 T.aLshared T.dLshared ["_law_one", "_law_other"] (spLshared T) := by
  refine T.fLshared.ok scLshared (fun vs H Q E h => ?_) (fun cdv A outer s H vs Q E hr h => ?_)
  · obtain ⟨a, b, rfl, _⟩ := h
    rfl
  · obtain ⟨a, b, rfl, a1, b1, hq⟩ := h
    refine ⟨_, (pss_cons (ps_while PassesOwn.never (pt_cmpR op_gt (pv 1) pe_int (nomark _)) (pss_one (ps_par (i := 0) (j := 1) rfl scLshared.nd rfl rfl (by decide) rfl rfl (pa_cons (pv 1) (pa_cons (pe_op op_mod (pv 0) (pv 1)) pa_nil)) rfl)))
      (pss_one (ps_ret (pv 0)))), ?_⟩
    refine ⟨fun m σ H' => ∃ x y : Nat, m = y ∧ σ = [some (V.int x), some (V.int y)] ∧ Nat.gcd x y = Nat.gcd a b ∧ H' = H ∧ x < 2 ^ 40 ∧ y < 2 ^ 40, ⟨_, a, b, rfl, rfl, rfl, rfl, a1, b1⟩, ?_⟩
    rintro m σ H' ⟨x, y, em, rfl, hg, rfl, x1, y1⟩
    refine ⟨_, rfl, _, _, rfl, rfl, _, rfl, ?_⟩
    by_cases y0 : 0 < y
    · refine ifT (decide_eq_true (by omega)) ⟨_, fun σ' H' h => h, ?_⟩
      have ym := Nat.mod_lt x y0
      refine ⟨_, rfl, _, rfl, _, rfl, _, _, rfl, rfl, (by show (0 : Int) < (y : Int); omega), ?_⟩
      refine ⟨_, _, rfl, x % y, by omega, y, x % y, rfl, ?_, ?_, rfl, by omega, by omega⟩
      · rw [Int.natCast_emod]
        rfl
      · rw [Nat.gcd_comm, ← Nat.gcd_rec, Nat.gcd_comm, hg]
    · refine ifF (decide_eq_false (by omega)) ⟨_, rfl, ?_⟩
      have : y = 0 := by omega
      subst this
      rw [Nat.gcd_zero_right] at hg
      rw [hg]
      exact hq
theorem okLtimes (T : Tx K mg) : FnOk P w K mg base CX0 1 T.aLtimes T.dLtimes ["_law_sizes_here", "_law_deeds_here", "_law_by"] (spLtimes T) := by
  refine T.fLtimes.ok scLtimes (fun vs H Q E h => ?_) (fun cdv A outer s H vs Q E hr h => ?_)
  · obtain ⟨c, f, caps, ts, ds, q, rfl, _⟩ := h
    rfl
  · obtain ⟨c, f, caps, ts, ds, q, rfl, hc, c6, hf, hA, d20, q1, q2, hq⟩ := h
    refine ⟨_, (pss_cons (ps_set (i := 3) scLtimes.nd rfl (by first | exact Or.inl rfl | exact Or.inr rfl) (pe_lst pa_nil))
      (pss_cons (ps_for PassesOwn.never rfl (pi_list (pv 1)) (pg_tup rfl (pgs_cons (pg_name (i := 4) scLtimes.nd rfl (by first | exact Or.inl rfl | exact Or.inr rfl)) (pgs_cons (pg_name (i := 5) scLtimes.nd rfl (by first | exact Or.inl rfl | exact Or.inr rfl)) (pgs_cons (pg_name (i := 6) scLtimes.nd rfl (by first | exact Or.inl rfl | exact Or.inr rfl)) pgs_nil)))) (pss_one (ps_expr (pe_bm PySem.F.plainAttrs_list PySem.F.slot_list_append PySem.F.type_list_append mt_append (pv 3) (pa_cons (pe_tup (pa_cons (pv 4) (pa_cons (pv 5) (pa_cons (pe_op op_mul (pv 6) (pe_ix (r := rIxL K) ix_list (pe_lst (pa_cons pe_int (pa_cons (pv 2) pa_nil))) (pe_callTy call_int1 rfl T.nint (by decide +kernel) (pa_cons (pe_cmpR (r := rIn K false) op_in_seq (pv 4) (pe_tup (pa_cons pe_str (pa_cons pe_str pa_nil))) (by rfl)) pa_nil)) (fun _ _ => rfl))) pa_nil)))) pa_nil)))))
      (pss_one (ps_ret (pe_tup (pa_cons (pe_callTy call_tuple_of rfl T.ntuple (by decide +kernel) (pa_cons (pe_lc (own := [("_law_size", 7)]) rfl scLtimes.nd (pi_tup (pv 0)) (blkOk_by (own := [("_law_size", 7)]) (N := ["_law_sizes_here", "_law_deeds_here", "_law_by", "_law_found", "_law_word", "_law_a", "_law_last", "_law_size"]) (sc := defScope sLtimes) (by decide +kernel)) (fun _ _ _ _ _ => (pg_name (i := 7) scLtimes.nd rfl (by first | exact Or.inl rfl | exact Or.inr rfl))) (fun _ _ _ _ _ => pts_nil) (fun _ _ _ _ _ => (pe_op op_mul (pv 7) (pv 2)))) pa_nil)) (pa_cons (pv 3) pa_nil))))))), ?_⟩
    refine ⟨(by show 0 ≤ sizeLine; decide), fun l hl => ?_⟩
    have s1 := same_new (o := .lst []) hl
    refine ⟨_, rfl, f, rfl, ⟨_, SqL.of (s1 _ _ hf)⟩, ?_⟩
    refine for_list (K := K) (a := f) (xs := ts) (fun i σ H' => ∃ (v4 v5 v6 : Option V) (us : List V), σ = [some (V.ref c), some (V.ref f), some (V.int q), some (V.ref l), v4, v5, v6, none] ∧ H' l = some (.lst us) ∧ A2 (FactAt H') us ((ds.take i).map (D.sc q)) ∧ Same H H') ⟨none, none, none, [], rfl, upd_same, trivial, s1⟩ (fun i σ H' _ ⟨_, _, _, _, _, _, _, e⟩ => SqL.of (e _ _ hf)) ?_ ?_
    · rintro i y σ H' hi ⟨v4, v5, v6, us, rfl, g1, A1, sm⟩
      obtain ⟨d, hd, hy⟩ := hA.get hi
      obtain ⟨t, rfl, ht⟩ := hy.same sm
      have ul := A1.len
      rw [List.length_map, List.length_take] at ul
      refine ⟨t, _, rfl, SqT.of ht, rfl, _, _, rfl, _, _, rfl, _, _, rfl, rfl, ?_⟩
      refine ⟨_, rfl, .inl ⟨rfl, _, SqL.of g1⟩, _, rfl, _, rfl, _, rfl, _, rfl, (by show 2 ≤ sizeLine; decide), fun l2 hl2 => ?_⟩
      have x2 := same_new (o := .lst [V.int 1, V.int q]) hl2
      refine ⟨_, rfl, (by show 2 ≤ sizeLine; decide), fun t2 ht2 => ⟨t2, _, rfl, .inr (SqT.of upd_same), rfl, rfl, ?_⟩⟩
      have x3 := same_new (o := .tup [V.str "put", V.str "draw"]) ht2
      rw [word_pd]
      refine .inr ⟨_, rfl, l2, _, _, _, rfl, rfl, SqL.of (x3 _ _ upd_same), pick2I, _, _, rfl, rfl, ?_, (by show 3 ≤ sizeLine; decide), fun t3 ht3 => ?_⟩
      · right
        show -(2 ^ 64) < (if d.isPD = true then q else 1) ∧ (if d.isPD = true then q else 1) < 2 ^ 64
        split <;> omega
      have x4 := ((same_new (o := .lst [V.int 1, V.int q]) hl2).trans x3).trans (same_new (o := .tup [V.str d.word, V.int d.fst, V.int (d.last * (if d.isPD = true then q else 1))]) ht3)
      refine ⟨l, _, _, rfl, rfl, x4 _ _ g1, small1000 (by omega), ?_⟩
      have t9 : (upd (upd (upd H' l2 (.lst [V.int 1, V.int q])) t2 (.tup [V.str "put", V.str "draw"])) t3 (.tup [V.str d.word, V.int d.fst, V.int (d.last * (if d.isPD = true then q else 1))])) t3 = some (.tup [V.str (d.sc q).word, V.int (d.sc q).fst, V.int (d.sc q).last]) := by
        rw [sc_word, sc_fst, ← sc_last]
        exact upd_same
      have g4 := x4 _ _ g1
      have A4 := A2.mono (fun _ _ k => FactAt.same x4 k) A1
      refine ⟨_, _, _, us ++ [V.ref t3], rfl, upd_same, ?_, same_mut (sm.trans x4) hl⟩
      rw [List.take_add_one, hd, List.map_append]
      have q : Fr l _ (upd (upd (upd (upd H' l2 (.lst [V.int 1, V.int q])) t2 (.tup [V.str "put", V.str "draw"])) t3 (.tup [V.str d.word, V.int d.fst, V.int (d.last * (if d.isPD = true then q else 1))])) l (.lst (us ++ [V.ref t3]))) := fr_mut (Fr.refl _ _)
      exact A2.mono (fun _ _ k => k.fr q g4 bl_l) (A2.app A4 ⟨⟨t3, rfl, t9⟩, trivial⟩)
    · rintro σ H' ⟨v4, v5, v6, us, rfl, g1, A1, sm⟩
      rw [hA.len, List.take_length] at A1
      have c1 := sm _ _ hc
      refine ⟨_, rfl, c, rfl, ⟨_, SqT.of c1⟩, fun D hD => ?_⟩
      refine lc_tup (K := K) (a := c) (xs := vi caps) (fun i H2 => H2 D = some (.lst (vi (mulL q (caps.take i)))) ∧ Same H' H2) ⟨upd_same, same_new hD⟩ (fun i H2 _ h => SqT.of (h.2 _ _ c1)) ?_ ?_
      · rintro i y H2 hi ⟨k1, s2⟩
        obtain ⟨z, hz, rfl⟩ := vi_get hi
        have lt : i < caps.length := (List.getElem?_eq_some_iff.mp hz).1
        refine ⟨rfl, ?_⟩
        refine ⟨_, rfl, _, rfl, _, _, rfl, rfl, .inr (mulP q1 q2), _, k1, Nat.lt_of_lt_of_le (by rw [List.length_map]; unfold mulL; rw [List.length_map, List.length_take]; omega : _ < 100) (by decide), ?_, same_mut s2 hD⟩
        rw [upd_same, List.take_add_one, hz]
        unfold mulL vi
        simp
      · rintro H2 ⟨k1, s2⟩
        rw [show (vi caps).length = caps.length from List.length_map .., List.take_length] at k1
        refine ⟨D, _, rfl, .inl ⟨SqL.of k1, fun cw hcw => ⟨_, rfl, (by show 2 ≤ sizeLine; decide), fun z hz => ?_⟩⟩⟩
        have y1 := same_new (o := .tup (vi (mulL q caps))) hcw
        have y2 := same_new (o := .tup [V.ref cw, V.ref l]) hz
        have y3 := (s2.trans y1).trans y2
        exact hq _ z cw l us upd_same (y2 _ _ upd_same) (y3 _ _ g1) (A2.mono (fun _ _ k => FactAt.same y3 k) A1) (sm.trans y3)
end
end Kp

namespace Kp
open PySem PySem.Spec PyProof.Rows L2 KpR
section
variable {K : PySem.W.Frag} {mg : Str → Option Value}
def spLgreatright (T : Tx K mg) : Sp := fun vs H Q _ => ∃ (u c f a : Addr) (caps st : List Int) (ts : List V) (ds : List D) (p : Int) (n : Nat), vs = [.ref u, .ref c, .ref f, .ref a, .int p] ∧ WellAt n H u ∧ n ≤ 8000 ∧ H c = some (.tup (vi caps)) ∧ 1 ≤ caps.length ∧ caps.length ≤ 3 ∧ (∀ x ∈ caps, 1 ≤ x ∧ x ≤ 6) ∧ H f = some (.lst ts) ∧ A2 (FactAt H) ts ds ∧ ds.length ≤ 20 ∧ (∀ d ∈ ds, d.little caps) ∧ H a = some (.tup (vi st)) ∧ Stand caps p st ∧ 1 ≤ p ∧ p ≤ 10 ∧ f ≠ u ∧
  ∀ H' : Hp, WellAt (n + 4) H' u → Fr u H H' → Q (.bl true) H'
end
section
variable {P : Program} {w : World} {K : PySem.W.Frag} {mg : Str → Option Value} {base : Heap}
theorem neWT {n : Nat} {H : Hp} {a u : Addr} {xs : List V} (ha : H a = some (.tup xs)) (hw : WellAt n H u) : a ≠ u := fun z => by
  obtain ⟨_, _, _, q, _⟩ := hw
  rw [← z, ha] at q
  cases q
theorem A2.wl {n : Nat} {H H' : Hp} {u : Addr} {ts : List V} {ds : List D} (hw : WellAt n H u) (f : Fr u H H') (h : A2 (FactAt H) ts ds) : A2 (FactAt H') ts ds := by
  obtain ⟨o, ho, bo⟩ := hw.ex
  exact KpR.A2.mono (fun _ _ k => k.fr f ho bo) h
theorem okLgreatright (T : Tx K mg) : FnOk P w K mg base CX0 6 T.aLgreatright T.dLgreatright ["_law_well_here", "_law_sizes_here", "_law_deeds_here", "_law_start_here", "_law_shares"] (spLgreatright T) := by
  refine T.fLgreatright.ok scLgreatright (fun vs H Q E h => ?_) (fun cdv A outer s H vs Q E hr h => ?_)
  · obtain ⟨u, c, f, a, caps, st, ts, ds, p, n, rfl, _⟩ := h
    rfl
  · obtain ⟨u, c, f, a, caps, st, ts, ds, p, n, rfl, hw, n9, hc, c1, c3, cb, hf, hA, d20, ok, ha, hst, p1, p10, fu, hq⟩ := h
    obtain ⟨mv, kb_fate_parts⟩ := kbFate T
    refine ⟨_, (C8.pss_cut (ps_set (i := 5) scLgreatright.nd rfl (by first | exact Or.inl rfl | exact Or.inr rfl) (pe_op op_add pe_int (pe_ix (r := rIxL K) ix_list (pe_lst (pa_cons (pe_call (okLdraw T) (hr.mono (by decide)) rfl T.gLdraw T.fLdraw.kp T.bLdraw .nil pass0 (pa_cons (pv 0) (pa_cons pe_int pa_nil))) (pa_cons (pe_op op_fdivW (pe_call (okLgreat T) (hr.mono (by decide)) rfl T.gLgreat T.fLgreat.kp T.bLgreat .nil pass0 (pa_cons (pv 0) pa_nil)) pe_int) pa_nil))) (pe_call (okLdraw T) (hr.mono (by decide)) rfl T.gLdraw T.fLdraw.kp T.bLdraw .nil pass0 (pa_cons (pv 0) (pa_cons pe_int pa_nil))) (fun _ _ => rfl))))
      (pss_cons (ps_set (i := 6) scLgreatright.nd rfl (by first | exact Or.inl rfl | exact Or.inr rfl) (pe_callN (okfate T) (hr.mono (by decide)) rfl T.gfate T.ffate.kp kb_fate_parts pass0 (pa_cons (pe_call (okLrow T) (hr.mono (by decide)) rfl T.gLrow T.fLrow.kp T.bLrow .nil pass0 (pa_cons (pv 1) (pa_cons (pv 2) pa_nil))) (pa_cons (pv 3) pa_nil)) (pk_cons (pv 4) pk_nil)))
      (C8.pss_cut (ps_asg (pe_call (okLtimes T) (hr.mono (by decide)) rfl T.gLtimes T.fLtimes.kp T.bLtimes .nil pass0 (pa_cons (pv 1) (pa_cons (pv 2) (pa_cons (pv 5) pa_nil)))) (pg_tup rfl (pgs_cons (pg_name (i := 7) scLgreatright.nd rfl (by first | exact Or.inl rfl | exact Or.inr rfl)) (pgs_cons (pg_name (i := 8) scLgreatright.nd rfl (by first | exact Or.inl rfl | exact Or.inr rfl)) pgs_nil))))
      (pss_cons (ps_set (i := 9) scLgreatright.nd rfl (by first | exact Or.inl rfl | exact Or.inr rfl) (pe_callTy call_tuple_of rfl T.ntuple (by decide +kernel) (pa_cons (pe_lc (own := [("_law_number", 10)]) rfl scLgreatright.nd (pi_tup (pv 3)) (blkOk_by (own := [("_law_number", 10)]) (N := ["_law_well_here", "_law_sizes_here", "_law_deeds_here", "_law_start_here", "_law_shares", "_law_by", "_law_due", "_law_wide", "_law_wide_deeds", "_law_great_here", "_law_number"]) (sc := defScope sLgreatright) (by decide +kernel)) (fun _ _ _ _ _ => (pg_name (i := 10) scLgreatright.nd rfl (by first | exact Or.inl rfl | exact Or.inr rfl))) (fun _ _ _ _ _ => pts_nil) (fun _ _ _ _ _ => (pe_op op_mul (pv 10) (pv 5)))) pa_nil)))
      (pss_cons (ps_if (pt_cmpR (op_neD hr.units) (pe_callN (okfate T) (hr.mono (by decide)) rfl T.gfate T.ffate.kp kb_fate_parts pass0 (pa_cons (pe_call (okLrow T) (hr.mono (by decide)) rfl T.gLrow T.fLrow.kp T.bLrow .nil pass0 (pa_cons (pv 7) (pa_cons (pv 8) pa_nil))) (pa_cons (pv 9) pa_nil)) (pk_cons (pv 4) pk_nil)) (pv 6) (nomark _)) (pss_one (ps_ret pe_bl)) pss_nil)
      (pss_one (ps_ret (pe_cmpR (op_eqD hr.units) (pe_callN (okfate T) (hr.mono (by decide)) rfl T.gfate T.ffate.kp kb_fate_parts pass0 (pa_cons (pe_call (okLrow T) (hr.mono (by decide)) rfl T.gLrow T.fLrow.kp T.bLrow .nil pass0 (pa_cons (pv 1) (pa_cons (pv 2) pa_nil))) (pa_cons (pv 9) pa_nil)) (pk_cons (pe_op op_mul (pv 4) (pv 5)) pk_nil)) (pv 6) (nomark _))))))))), ?_⟩
    have p62 : p < 2 ^ 62 := by omega
    have cu := neWT hc hw
    have au := neWT ha hw
    have okd : ∀ d ∈ ds, d.ok caps := fun d hd => (ok d hd).1
    have hC : Caps caps := ⟨c1, by omega, fun i hi => (cb _ (at0_mem hi)).1, fun i hi => by have := (cb _ (at0_mem hi)).2; omega⟩
    obtain ⟨t, m, F, few⟩ := small_fate p1 c3 (fun i hi => (cb _ (at0_mem hi)).2) okd hst
    -- by
    refine ⟨fun σ' H' => ∃ q : Int, σ' = [some (V.ref u), some (V.ref c), some (V.ref f), some (V.ref a), some (V.int p), some (V.int q), none, none, none, none, none] ∧ 1 ≤ q ∧ q ≤ 100000000000 ∧ WellAt (n + 4) H' u ∧ Fr u H H', ?_, ?_⟩
    · refine ⟨_, rfl, u, 9, n, rfl, hw, by omega, by decide, by decide, fun H1 d ld w1 f1 => ⟨_, rfl, u, n + 1, rfl, w1, by omega, fun H2 g lg w2 f2 => ⟨_, _, rfl, rfl, ⟨by decide, by decide⟩, (by show 2 ≤ sizeLine; decide), fun l hl => ?_⟩⟩⟩
      have x2 := same_new (o := .lst [V.int d, V.int ((g : Int) / 10)]) hl
      refine ⟨_, rfl, u, 2, n + 3, rfl, (w2.same x2).mono (by omega), by omega, by decide, by decide, fun H3 e le w3 f3 => ?_⟩
      have lu : l ≠ u := w2.ne hl
      refine pickL (xs := [(d : Int), (g : Int) / 10]) (SqL.of (f3 _ _ lu upd_same)) (by simp; omega) ?_
      have mem := at0_mem (l := [(d : Int), (g : Int) / 10]) (i := e) (by simp; omega)
      generalize at0 [(d : Int), (g : Int) / 10] e = y at mem
      have y1 : 0 ≤ y ∧ y ≤ 99999999999 := by
        rcases List.mem_cons.mp mem with h | h
        · omega
        · have := List.mem_singleton.mp h
          omega
      exact ⟨_, _, rfl, rfl, 1 + y, rfl, by omega, by omega, w3.mono (by omega), ((f1.trans f2).trans (Fr.of x2)).trans f3⟩
    rintro σ' H3 ⟨q, rfl, q1, q2, w3, f3⟩
    have c3' := f3 _ _ cu hc
    have a3 := f3 _ _ au ha
    have g3 := f3 _ _ fu hf
    have A3 := A2.wl hw f3 hA
    have q62 : q < 2 ^ 62 := by omega
    -- due
    refine ⟨_, rfl, _, rfl, c, f, caps, ts, ds, rfl, c3', hC, g3, A3, d20, okd, fun H4 r r0 hR s4 => ⟨_, rfl, _, rfl, rfl, rfl, r, a, ds, caps, st, p, t, m, rfl, hR, okd, .inr (s4 _ _ a3), p1, p62, hst, F, few, fun H5 du d0 hdu s5 => ?_⟩⟩
    refine gset (σ' := [some (V.ref u), some (V.ref c), some (V.ref f), some (V.ref a), some (V.int p), some (V.int q), some (V.ref du), none, none, none, none]) rfl ?_
    have s35 := s4.trans s5
    -- wide
    refine ⟨fun σ' H' => ∃ (cw fw : Addr) (us : List V), σ' = [some (V.ref u), some (V.ref c), some (V.ref f), some (V.ref a), some (V.int p), some (V.int q), some (V.ref du), some (V.ref cw), some (V.ref fw), none, none] ∧ H' cw = some (.tup (vi (mulL q caps))) ∧ H' fw = some (.lst us) ∧ A2 (FactAt H') us (ds.map (D.sc q)) ∧ Same H5 H', ?_, ?_⟩
    · exact ⟨_, rfl, _, rfl, _, rfl, c, f, caps, ts, ds, q, rfl, s35 _ _ c3', by omega, s35 _ _ g3, KpR.A2.mono (fun _ _ k => k.same s35) A3, d20, q1, q62, fun H6 z cw fw us hz hcw hfw hus s6 => ⟨z, _, rfl, SqT.of hz, rfl, _, _, rfl, _, _, rfl, rfl, cw, fw, us, rfl, hcw, hfw, hus, s6⟩⟩
    rintro σ' H6 ⟨cw, fw, us, rfl, hcw, hfw, hus, s6⟩
    have s36 := s35.trans s6
    have a6 := s36 _ _ a3
    -- great
    refine ⟨_, rfl, a, rfl, ⟨_, SqT.of a6⟩, fun L7 hL7 => ?_⟩
    refine lc_tup (K := K) (a := a) (xs := vi st) (fun i H2 => H2 L7 = some (.lst (vi (mulL q (st.take i)))) ∧ Same H6 H2) ⟨upd_same, same_new hL7⟩ (fun i H2 _ h => SqT.of (h.2 _ _ a6)) ?_ ?_
    · rintro i y H2 hi ⟨k1, s2⟩
      obtain ⟨z, hz, rfl⟩ := vi_get hi
      have lt : i < st.length := (List.getElem?_eq_some_iff.mp hz).1
      have sl := hst.len
      refine ⟨rfl, ?_⟩
      refine ⟨_, rfl, _, rfl, _, _, rfl, rfl, .inr (mulP q1 q62), _, k1, Nat.lt_of_lt_of_le (by rw [List.length_map]; unfold mulL; rw [List.length_map, List.length_take]; omega : _ < 100) (by decide), ?_, same_mut s2 hL7⟩
      rw [upd_same, List.take_add_one, hz]
      unfold mulL vi
      simp
    rintro H7 ⟨k1, s7⟩
    rw [show (vi st).length = st.length from List.length_map .., List.take_length] at k1
    refine ⟨L7, _, rfl, .inl ⟨SqL.of k1, fun gw hgw => ?_⟩⟩
    refine gset (σ' := [some (V.ref u), some (V.ref c), some (V.ref f), some (V.ref a), some (V.int p), some (V.int q), some (V.ref du), some (V.ref cw), some (V.ref fw), some (V.ref gw), none]) rfl ?_
    have s68 := s7.trans (same_new (o := .tup (vi (mulL q st))) hgw)
    have gw8 : (upd H7 gw (.tup (vi (mulL q st)))) gw = some (.tup (vi (mulL q st))) := upd_same
    generalize upd H7 gw (.tup (vi (mulL q st))) = H8 at s68 gw8 ⊢
    have s38 := s36.trans s68
    have d8 := s68 _ _ (s6 _ _ hdu)
    -- the greater jars
    refine ⟨_, rfl, _, rfl, cw, fw, mulL q caps, us, ds.map (D.sc q), rfl, s68 _ _ hcw, wide_caps c1 (by omega) cb q1 q2, s68 _ _ hfw, KpR.A2.mono (fun _ _ k => k.same s68) hus, by rw [List.length_map]; exact d20, (fun e he => by
      obtain ⟨d, hd, rfl⟩ := List.mem_map.mp he
      exact sc_little (ok d hd) cb q1 q2), fun H9 r2 r20 hR2 s9 => ⟨_, rfl, _, rfl, rfl, rfl, r2, gw, ds.map (D.sc q), mulL q caps, mulL q st, p, t, m, rfl, hR2, (fun e he => by
      obtain ⟨d, hd, rfl⟩ := List.mem_map.mp he
      exact sc_little (ok d hd) cb q1 q2), .inr (s9 _ _ gw8), p1, p62, stand_wide (by omega) hst, F.wide (by omega), few, fun H10 z1 z10 hz1 s10 => ?_⟩⟩
    have s810 := s9.trans s10
    refine ⟨_, rfl, neTI (l := [(t : Int), (m : Int)]) (m := [(t : Int), (m : Int)]) (SqT.of hz1) (SqT.of (s810 _ _ d8)) ⟨_, rfl, ifF ?_ ?_⟩⟩
    · rw [decide_eq_true rfl]
      rfl
    -- finer parts
    have s310 := s38.trans s810
    refine ⟨_, rfl, _, rfl, c, f, caps, ts, ds, rfl, s310 _ _ c3', hC, s310 _ _ g3, KpR.A2.mono (fun _ _ k => k.same s310) A3, d20, okd, fun H11 r3 r30 hR3 s11 => ⟨_, rfl, _, rfl, _, rfl, _, _, rfl, rfl, .inr (mulP q1 q62), rfl, rfl, r3, gw, ds, caps, mulL q st, p * q, t, m, rfl, hR3, okd, .inr ((s810.trans s11) _ _ gw8), ?_, ?_, stand_fine (by omega) hst, F.fine (by omega), few, fun H12 z2 z20 hz2 s12 => ?_⟩⟩
    · have : 1 * 1 ≤ p * q := Int.mul_le_mul p1 q1 (by decide) (by omega)
      omega
    · have : p * q ≤ 10 * 100000000000 := Int.mul_le_mul p10 q2 (by omega) (by decide)
      omega
    have s812 := (s810.trans s11).trans s12
    refine ⟨_, rfl, eqTI (l := [(t : Int), (m : Int)]) (m := [(t : Int), (m : Int)]) (SqT.of hz2) (SqT.of (s812 _ _ d8)) ?_⟩
    rw [decide_eq_true rfl]
    have s312 := s38.trans s812
    exact hq _ (w3.same s312) (f3.trans (Fr.of s312))
end
end Kp

namespace Kp
open PySem PySem.Spec PyProof.Rows L2 KpR
theorem A2.rep {α : Type} {R : V → α → Prop} {us : List V} {l : List α} (h : A2 R us l) : ∀ k : Nat, A2 R (List.replicate k us).flatten (List.replicate k l).flatten
  | 0 => by simp [A2]
  | k + 1 => by
    rw [List.replicate_succ, List.replicate_succ, List.flatten_cons, List.flatten_cons]
    exact KpR.A2.app h (A2.rep h k)
theorem rep_len {α : Type} {l : List α} : ∀ k : Nat, (List.replicate k l).flatten.length = l.length * k
  | 0 => rfl
  | k + 1 => by
    rw [List.replicate_succ, List.flatten_cons, List.length_append, rep_len k, Nat.mul_succ]
    omega
theorem mem_rep {α : Type} {l : List α} {x : α} : ∀ {k : Nat}, x ∈ (List.replicate k l).flatten → x ∈ l
  | 0, h => by cases h
  | k + 1, h => by
    rw [List.replicate_succ, List.flatten_cons] at h
    rcases List.mem_append.mp h with h | h
    · exact h
    · exact mem_rep h
section
variable {K : PySem.W.Frag} {mg : Str → Option Value}
def spLoftenright (T : Tx K mg) : Sp := fun vs H Q _ => ∃ (u c f a : Addr) (caps st : List Int) (ts : List V) (ds : List D) (p : Int) (n : Nat), vs = [.ref u, .ref c, .ref f, .ref a, .int p] ∧ WellAt n H u ∧ n ≤ 8000 ∧ H c = some (.tup (vi caps)) ∧ 1 ≤ caps.length ∧ caps.length ≤ 3 ∧ (∀ x ∈ caps, 1 ≤ x ∧ x ≤ 6) ∧ H f = some (.lst ts) ∧ A2 (FactAt H) ts ds ∧ ds.length ≤ 5 ∧ (∀ d ∈ ds, d.ok caps) ∧ H a = some (.tup (vi st)) ∧ Stand caps p st ∧ 1 ≤ p ∧ p ≤ 10 ∧ f ≠ u ∧
  ∀ H' : Hp, WellAt (n + 1) H' u → Fr u H H' → Q (.bl true) H'
def spLlaterright (T : Tx K mg) : Sp := fun vs H Q _ => ∃ (c f a : Addr) (caps st : List Int) (ts : List V) (ds : List D) (p : Int), vs = [.ref c, .ref f, .ref a, .int p] ∧ H c = some (.tup (vi caps)) ∧ 1 ≤ caps.length ∧ caps.length ≤ 3 ∧ (∀ x ∈ caps, 1 ≤ x ∧ x ≤ 6) ∧ H f = some (.lst ts) ∧ A2 (FactAt H) ts ds ∧ ds.length ≤ 20 ∧ (∀ d ∈ ds, d.ok caps) ∧ H a = some (.tup (vi st)) ∧ Stand caps p st ∧ 1 ≤ p ∧ p ≤ 10 ∧
  ∀ H' : Hp, Same H H' → Q (.bl true) H'
end
section
variable {P : Program} {w : World} {K : PySem.W.Frag} {mg : Str → Option Value} {base : Heap}
theorem okLoftenright (T : Tx K mg) : FnOk P w K mg base CX0 6 T.aLoftenright T.dLoftenright ["_law_well_here", "_law_sizes_here", "_law_deeds_here", "_law_start_here", "_law_shares"] (spLoftenright T) := by
  refine T.fLoftenright.ok scLoftenright (fun vs H Q E h => ?_) (fun cdv A outer s H vs Q E hr h => ?_)
  · obtain ⟨u, c, f, a, caps, st, ts, ds, p, n, rfl, _⟩ := h
    rfl
  · obtain ⟨u, c, f, a, caps, st, ts, ds, p, n, rfl, hw, n9, hc, c1, c3, cb, hf, hA, d5, ok, ha, hst, p1, p10, fu, hq⟩ := h
    obtain ⟨mv, kb_fate_parts⟩ := kbFate T
    refine ⟨_, (C8.pss_cut (ps_asg (pe_callN (okfate T) (hr.mono (by decide)) rfl T.gfate T.ffate.kp kb_fate_parts pass0 (pa_cons (pe_call (okLrow T) (hr.mono (by decide)) rfl T.gLrow T.fLrow.kp T.bLrow .nil pass0 (pa_cons (pv 1) (pa_cons (pv 2) pa_nil))) (pa_cons (pv 3) pa_nil)) (pk_cons (pv 4) pk_nil)) (pg_tup rfl (pgs_cons (pg_name (i := 5) scLoftenright.nd rfl (by first | exact Or.inl rfl | exact Or.inr rfl)) (pgs_cons (pg_name (i := 6) scLoftenright.nd rfl (by first | exact Or.inl rfl | exact Or.inr rfl)) pgs_nil))))
      (pss_cons (ps_set (i := 7) scLoftenright.nd rfl (by first | exact Or.inl rfl | exact Or.inr rfl) (pe_op op_add pe_int (pe_call (okLdraw T) (hr.mono (by decide)) rfl T.gLdraw T.fLdraw.kp T.bLdraw .nil pass0 (pa_cons (pv 0) (pa_cons pe_int pa_nil)))))
      (pss_cons (ps_set (i := 8) scLoftenright.nd rfl (by first | exact Or.inl rfl | exact Or.inr rfl) (pe_tup (pa_cons (pe_op op_fdivW (pe_op op_sub (pe_op op_add (pv 5) (pv 7)) pe_int) (pv 7)) (pa_cons (pe_op op_fdivW (pv 6) (pe_call (okLshared T) (hr.mono (by decide)) rfl T.gLshared T.fLshared.kp T.bLshared .nil pass0 (pa_cons (pv 6) (pa_cons (pv 7) pa_nil)))) pa_nil))))
      (pss_one (ps_ret (pe_cmpR (op_eqD hr.units) (pe_callN (okfate T) (hr.mono (by decide)) rfl T.gfate T.ffate.kp kb_fate_parts pass0 (pa_cons (pe_call (okLrow T) (hr.mono (by decide)) rfl T.gLrow T.fLrow.kp T.bLrow .nil pass0 (pa_cons (pv 1) (pa_cons (pe_op op_rep (pv 2) (pv 7)) pa_nil))) (pa_cons (pv 3) pa_nil)) (pk_cons (pv 4) pk_nil)) (pv 8) (nomark _))))))), ?_⟩
    have p62 : p < 2 ^ 62 := by omega
    have cu := neWT hc hw
    have au := neWT ha hw
    have hC : Caps caps := ⟨c1, by omega, fun i hi => (cb _ (at0_mem hi)).1, fun i hi => by have := (cb _ (at0_mem hi)).2; omega⟩
    obtain ⟨t, m, F, few⟩ := small_fate p1 c3 (fun i hi => (cb _ (at0_mem hi)).2) ok hst
    have m1 := F.pos
    refine ⟨fun σ' H' => σ' = [some (V.ref u), some (V.ref c), some (V.ref f), some (V.ref a), some (V.int p), some (V.int t), some (V.int m), none, none] ∧ Same H H', ?_, ?_⟩
    · exact ⟨_, rfl, _, rfl, c, f, caps, ts, ds, rfl, hc, hC, hf, hA, by omega, ok, fun H4 r r0 hR s4 => ⟨_, rfl, _, rfl, rfl, rfl, r, a, ds, caps, st, p, t, m, rfl, hR, ok, .inr (s4 _ _ ha), p1, p62, hst, F, few, fun H5 du d0 hdu s5 => ⟨du, _, rfl, SqT.of hdu, rfl, _, _, rfl, _, _, rfl, rfl, rfl, s4.trans s5⟩⟩⟩
    rintro σ' H1 ⟨rfl, s1⟩
    have w1 := hw.same s1
    -- often
    refine ⟨_, rfl, u, 3, n, rfl, w1, by omega, by decide, by decide, fun H2 d ld w2 f2 => ⟨_, _, rfl, rfl, ?_⟩⟩
    obtain ⟨k, hk⟩ : ∃ k : Nat, 2 + d = k := ⟨_, rfl⟩
    have ek : 2 + (d : Int) = (k : Int) := by omega
    refine gset (σ' := [some (V.ref u), some (V.ref c), some (V.ref f), some (V.ref a), some (V.int p), some (V.int t), some (V.int m), some (V.int k), none]) (by rw [← ek]; rfl) ?_
    have f02 := (Fr.of s1).trans f2
    -- due
    refine ⟨_, rfl, _, rfl, _, _, rfl, rfl, _, _, rfl, rfl, _, rfl, _, _, rfl, rfl, wide_div (b := 100) (by omega) (by omega) (by decide) (by decide), _, rfl, _, rfl, _, rfl, m, k, rfl, by omega, by omega, _, _, rfl, rfl, wide_div (b := 100) (by have := Nat.gcd_pos_of_pos_left k m1; omega) (by have := Nat.gcd_le_left k m1; omega) (by decide) (by decide), (by show 2 ≤ sizeLine; decide), fun du hdu => ?_⟩
    have e1 : ((t : Int) + (k : Int) - 1) / (k : Int) = (((t + k - 1) / k : Nat) : Int) := by
      rw [Int.natCast_ediv, show ((t + k - 1 : Nat) : Int) = (t : Int) + (k : Int) - 1 by omega]
    have e2 : (m : Int) / ((Nat.gcd m k : Nat) : Int) = ((m / Nat.gcd m k : Nat) : Int) := by rw [Int.natCast_ediv]
    refine gset (σ' := [some (V.ref u), some (V.ref c), some (V.ref f), some (V.ref a), some (V.int p), some (V.int t), some (V.int m), some (V.int k), some (V.ref du)]) rfl ?_
    generalize hH3 : upd H2 du _ = H3
    have s3 : Same H2 H3 := by rw [← hH3]; exact same_new hdu
    have d3 : H3 du = some (.tup (vi [(((t + k - 1) / k : Nat) : Int), ((m / Nat.gcd m k : Nat) : Int)])) := by
      rw [← hH3, ← e1, ← e2]
      exact upd_same
    clear hH3
    have f03 := f02.trans (Fr.of s3)
    have k1 : 1 ≤ k := by omega
    -- deeds * often
    have tl := hA.len
    refine ⟨_, rfl, _, rfl, _, rfl, f, k, ts, rfl, rfl, f03 _ _ fu hf, by omega, by omega, ?_, fun fw hfw => ?_⟩
    · rw [tl, Int.toNat_natCast]
      exact Nat.le_trans (Nat.mul_le_mul d5 (show k ≤ 4 by omega)) (by decide)
    rw [Int.toNat_natCast]
    have x4 := same_new (o := .lst (List.replicate k ts).flatten) hfw
    have f04 := f03.trans (Fr.of x4)
    refine ⟨c, fw, caps, _, (List.replicate k ds).flatten, rfl, f04 _ _ cu hc, hC, upd_same, A2.rep (A2.wl hw f04 hA) k, ?_, fun d hd => ok d (mem_rep hd), fun H5 r r0 hR s5 => ⟨_, rfl, _, rfl, rfl, rfl, r, a, _, caps, st, p, _, _, rfl, hR, fun d hd => ok d (mem_rep hd), .inr (s5 _ _ (f04 _ _ au ha)), p1, p62, hst, F.often k1, ?_, fun H6 z z0 hz s6 => ?_⟩⟩
    · rw [rep_len]
      exact Nat.mul_le_mul d5 (show k ≤ 4 by omega)
    · have h1 : (t + k - 1) / k ≤ t := by
        have : (t + k - 1) / k < t + 1 := (Nat.div_lt_iff_lt_mul (by omega)).mpr (by
          have : (t + 1) * 1 ≤ (t + 1) * k := Nat.mul_le_mul (Nat.le_refl _) k1
          rw [Nat.succ_mul]
          have : t * 1 ≤ t * k := Nat.mul_le_mul (Nat.le_refl _) k1
          omega)
        omega
      have h2 : m / Nat.gcd m k ≤ m := Nat.div_le_self _ _
      omega
    have s36 := (x4.trans s5).trans s6
    refine ⟨_, rfl, eqTI (l := [(((t + k - 1) / k : Nat) : Int), ((m / Nat.gcd m k : Nat) : Int)]) (m := [(((t + k - 1) / k : Nat) : Int), ((m / Nat.gcd m k : Nat) : Int)]) (SqT.of hz) (SqT.of (s36 _ _ d3)) ?_⟩
    rw [decide_eq_true rfl]
    exact hq _ ((w2.same s3).same s36) (f03.trans (Fr.of s36))
theorem okLlaterright (T : Tx K mg) : FnOk P w K mg base CX0 6 T.aLlaterright T.dLlaterright ["_law_sizes_here", "_law_deeds_here", "_law_start_here", "_law_shares"] (spLlaterright T) := by
  refine T.fLlaterright.ok scLlaterright (fun vs H Q E h => ?_) (fun cdv A outer s H vs Q E hr h => ?_)
  · obtain ⟨c, f, a, caps, st, ts, ds, p, rfl, _⟩ := h
    rfl
  · obtain ⟨c, f, a, caps, st, ts, ds, p, rfl, hc, c1, c3, cb, hf, hA, d20, ok, ha, hst, p1, p10, hq⟩ := h
    obtain ⟨mv, kb_fate_parts⟩ := kbFate T
    obtain ⟨mv2, kb_behind_parts⟩ := kbParts T
    obtain ⟨mv3, kb_behind_parts_times⟩ := kbBoth T
    refine ⟨_, (pss_cons (ps_set (i := 4) scLlaterright.nd rfl (by first | exact Or.inl rfl | exact Or.inr rfl) (pe_call (okLrow T) (hr.mono (by decide)) rfl T.gLrow T.fLrow.kp T.bLrow .nil pass0 (pa_cons (pv 0) (pa_cons (pv 1) pa_nil))))
      (C8.pss_cut (ps_asg (pe_callN (okfate T) (hr.mono (by decide)) rfl T.gfate T.ffate.kp kb_fate_parts pass0 (pa_cons (pv 4) (pa_cons (pv 2) pa_nil)) (pk_cons (pv 3) pk_nil)) (pg_tup rfl (pgs_cons (pg_name (i := 5) scLlaterright.nd rfl (by first | exact Or.inl rfl | exact Or.inr rfl)) (pgs_cons (pg_name (i := 6) scLlaterright.nd rfl (by first | exact Or.inl rfl | exact Or.inr rfl)) pgs_nil))))
      (pss_cons (ps_set (i := 7) scLlaterright.nd rfl (by first | exact Or.inl rfl | exact Or.inr rfl) (pe_callN (okbehind T) (hr.mono (by decide)) rfl T.gbehind T.fbehind.kp kb_behind_parts pass0 (pa_cons (pv 4) (pa_cons (pv 2) pa_nil)) (pk_cons (pv 3) pk_nil)))
      (pss_cons (ps_if (PW.pt (pw_or (pt_cmpR (op_neD hr.units) (pe_callN (okfate T) (hr.mono (by decide)) rfl T.gfate T.ffate.kp kb_fate_parts pass0 (pa_cons (pv 4) (pa_cons (pv 7) pa_nil)) (pk_cons (pv 3) pk_nil)) (pe_tup (pa_cons (pe_callB (call_max2 rfl) rfl T.nmax (by decide +kernel) (pa_cons pe_int (pa_cons (pe_op op_sub (pv 5) pe_int) pa_nil))) (pa_cons (pv 6) pa_nil))) (nomark _)) (pw_or1 (pt_cmpR op_gt (pe_op op_add (pv 5) (pv 6)) pe_int (nomark _))))) (pss_one (ps_ret (pe_cmpR op_gt (pe_op op_add (pv 5) (pv 6)) pe_int (nomark _)))) pss_nil)
      (pss_cons (ps_set (i := 8) scLlaterright.nd rfl (by first | exact Or.inl rfl | exact Or.inr rfl) (pe_callN (okbehind T) (hr.mono (by decide)) rfl T.gbehind T.fbehind.kp kb_behind_parts_times pass0 (pa_cons (pv 4) (pa_cons (pv 2) pa_nil)) (pk_cons (pv 3) (pk_cons (pv 5) pk_nil))))
      (pss_cons (ps_if (pt_cmpR (op_neD hr.units) (pe_callN (okbehind T) (hr.mono (by decide)) rfl T.gbehind T.fbehind.kp kb_behind_parts_times pass0 (pa_cons (pv 4) (pa_cons (pv 2) pa_nil)) (pk_cons (pv 3) (pk_cons (pe_op op_add (pv 5) (pv 6)) pk_nil))) (pv 8) (nomark _)) (pss_one (ps_ret pe_bl)) pss_nil)
      (pss_cons (ps_if (pt_cmpR (op_neD hr.units) (pe_callN (okbehind T) (hr.mono (by decide)) rfl T.gbehind T.fbehind.kp kb_behind_parts_times pass0 (pa_cons (pv 4) (pa_cons (pv 2) pa_nil)) (pk_cons (pv 3) (pk_cons pe_int pk_nil))) (pe_callTy call_list_of rfl T.nlist (by decide +kernel) (pa_cons (pv 2) pa_nil)) (nomark _)) (pss_one (ps_ret pe_bl)) pss_nil)
      (pss_cons (ps_if (pt_cmpR op_eq (pv 5) pe_int (nomark _)) (pss_one (ps_ret pe_bl)) pss_nil)
      (pss_cons (ps_set (i := 9) scLlaterright.nd rfl (by first | exact Or.inl rfl | exact Or.inr rfl) (pe_callN (okbehind T) (hr.mono (by decide)) rfl T.gbehind T.fbehind.kp kb_behind_parts_times pass0 (pa_cons (pv 4) (pa_cons (pv 2) pa_nil)) (pk_cons (pv 3) (pk_cons (pe_op op_sub (pv 5) pe_int) pk_nil))))
      (pss_one (ps_ret (pe_cmpR (op_neD hr.units) (pe_callN (okbehind T) (hr.mono (by decide)) rfl T.gbehind T.fbehind.kp kb_behind_parts_times pass0 (pa_cons (pv 4) (pa_cons (pv 9) pa_nil)) (pk_cons (pv 3) (pk_cons (pv 6) pk_nil))) (pv 9) (nomark _))))))))))))), ?_⟩
    have p62 : p < 2 ^ 62 := by omega
    have hC : Caps caps := ⟨c1, by omega, fun i hi => (cb _ (at0_mem hi)).1, fun i hi => by have := (cb _ (at0_mem hi)).2; omega⟩
    obtain ⟨t, m, F, few⟩ := small_fate p1 c3 (fun i hi => (cb _ (at0_mem hi)).2) ok hst
    have m1 := F.pos
    have st1 : Stand caps p (run caps p ds st) := it_stand (n := 1) p1 ok hst
    -- row
    refine ⟨_, rfl, _, rfl, c, f, caps, ts, ds, rfl, hc, hC, hf, hA, d20, ok, fun H1 r r0 hR s1 => ?_⟩
    refine gset (σ' := [some (V.ref c), some (V.ref f), some (V.ref a), some (V.int p), some (V.ref r), none, none, none, none, none]) rfl ?_
    have a1 := s1 _ _ ha
    refine ⟨fun σ' H' => σ' = [some (V.ref c), some (V.ref f), some (V.ref a), some (V.int p), some (V.ref r), some (V.int t), some (V.int m), none, none, none] ∧ Same H1 H', ?_, ?_⟩
    · exact ⟨_, rfl, _, rfl, _, rfl, rfl, rfl, r, a, ds, caps, st, p, t, m, rfl, hR, ok, .inr a1, p1, p62, hst, F, few, fun H5 du d0 hdu s5 => ⟨du, _, rfl, SqT.of hdu, rfl, _, _, rfl, _, _, rfl, rfl, rfl, s5⟩⟩
    rintro σ' H2 ⟨rfl, s2⟩
    have a2 := s2 _ _ a1
    have R2 := hR.same s2
    -- later
    refine ⟨_, rfl, _, rfl, _, rfl, rfl, rfl, r, a, ds, caps, st, p, 1, rfl, R2, ok, .inr (SqT.of a2), p1, p62, by decide, hst, fun H3 b b0 hb s3 => ?_⟩
    refine gset (σ' := [some (V.ref c), some (V.ref f), some (V.ref a), some (V.int p), some (V.ref r), some (V.int t), some (V.int m), some (V.ref b), none, none]) rfl ?_
    have hb : H3 b = some (.lst (vi (run caps p ds st))) := hb
    refine ⟨_, rfl, _, rfl, _, rfl, rfl, rfl, r, b, ds, caps, run caps p ds st, p, t - 1, m, rfl, R2.same s3, ok, .inl (SqL.of hb), p1, p62, st1, F.later, by omega, fun H4 z z0 hz s4 => ?_⟩
    have e1 : (if (t : Int) - 1 > 0 then (t : Int) - 1 else 0) = ((t - 1 : Nat) : Int) := by split <;> omega
    refine ⟨_, rfl, _, _, rfl, rfl, _, _, rfl, _, rfl, (by show 2 ≤ sizeLine; decide), fun t6 ht6 => neTI (l := [((t - 1 : Nat) : Int), (m : Int)]) (m := [(if (t : Int) - 1 > 0 then (t : Int) - 1 else 0), (m : Int)]) (SqT.of ((same_new ht6) _ _ hz)) (SqT.of upd_same) ⟨_, rfl, ifF ?_ ?_⟩⟩
    · rw [e1, decide_eq_true rfl]
      rfl
    have s24 := (s3.trans s4).trans (same_new (o := .tup [V.int (if (t : Int) - 1 > 0 then (t : Int) - 1 else 0), V.int m]) ht6)
    generalize upd H4 t6 _ = H5 at s24 ⊢
    refine ⟨_, rfl, _, rfl, _, _, rfl, rfl, _, _, rfl, rfl, _, rfl, ifD (fun g => ?_) (fun g => ?_)⟩
    · refine ⟨_, rfl, _, rfl, _, _, rfl, rfl, _, _, rfl, rfl, ?_⟩
      show Q (.bl (decide ((t : Int) + (m : Int) > 900))) H5
      rw [decide_eq_true g]
      exact hq _ ((s1.trans s2).trans s24)
    have g9 : t + m ≤ 900 := by omega
    have a5 := s24 _ _ a2
    have R5 := R2.same s24
    have s5 := (s1.trans s2).trans s24
    -- stand
    refine ⟨_, rfl, _, rfl, _, rfl, _, rfl, rfl, rfl, r, a, ds, caps, st, p, t, rfl, R5, ok, .inr (SqT.of a5), p1, p62, by omega, hst, fun H6 x x0 hx s6 => ?_⟩
    refine gset (σ' := [some (V.ref c), some (V.ref f), some (V.ref a), some (V.int p), some (V.ref r), some (V.int t), some (V.int m), some (V.ref b), some (V.ref x), none]) rfl ?_
    refine ⟨_, rfl, _, rfl, _, rfl, _, rfl, _, rfl, _, _, rfl, rfl, rfl, rfl, r, a, ds, caps, st, p, t + m, rfl, R5.same s6, ok, .inr (SqT.of (s6 _ _ a5)), p1, p62, by omega, hst, fun H7 y y0 hy s7 => ?_⟩
    refine ⟨_, rfl, neLI (l := runs caps p ds (t + m) st) (m := runs caps p ds t st) (SqL.of hy) (SqL.of (s7 _ _ hx)) ⟨_, rfl, ifF ?_ ?_⟩⟩
    · rw [runs_it, runs_it, F.ring, decide_eq_true rfl]
      rfl
    have s57 := s6.trans s7
    refine ⟨_, rfl, _, rfl, _, rfl, rfl, rfl, r, a, ds, caps, st, p, 0, rfl, R5.same s57, ok, .inr (SqT.of (s57 _ _ a5)), p1, p62, by decide, hst, fun H8 y2 y20 hy2 s8 => ?_⟩
    have s58 := s57.trans s8
    refine ⟨_, rfl, a, _, rfl, .inr (SqT.of (s58 _ _ a5)), fun l hl => neLI (l := st) (m := st) (SqL.of ((same_new hl) _ _ hy2)) (SqL.of upd_same) ⟨_, rfl, ifF ?_ ?_⟩⟩
    · rw [decide_eq_true rfl]
      rfl
    have s59 := s58.trans (same_new (o := .lst (vi st)) hl)
    generalize upd H8 l (.lst (vi st)) = H9 at s59 ⊢
    refine ⟨_, rfl, rfl, _, rfl, ifD (fun g0 => ?_) (fun g0 => ?_)⟩
    · exact hq _ (s5.trans s59)
    have t1 : 1 ≤ t := by
      rcases Nat.eq_zero_or_pos t with h | h
      · exact absurd (by rw [h]; rfl) g0
      · exact h
    -- ahead
    refine ⟨_, rfl, _, rfl, _, rfl, _, rfl, _, _, rfl, rfl, rfl, rfl, r, a, ds, caps, st, p, t - 1, ?_, R5.same s59, ok, .inr (SqT.of (s59 _ _ a5)), p1, p62, by omega, hst, fun H10 h h0 hh s10 => ?_⟩
    · rw [show ((t - 1 : Nat) : Int) = (t : Int) - 1 by omega]
      rfl
    refine gset (σ' := [some (V.ref c), some (V.ref f), some (V.ref a), some (V.int p), some (V.ref r), some (V.int t), some (V.int m), some (V.ref b), some (V.ref x), some (V.ref h)]) rfl ?_
    have s510 := s59.trans s10
    refine ⟨_, rfl, _, rfl, _, rfl, _, rfl, rfl, rfl, r, h, ds, caps, runs caps p ds (t - 1) st, p, m, rfl, R5.same s510, ok, .inl (SqL.of hh), p1, p62, by omega, runs_stand p1 ok hst, fun H11 w2 w20 hw2 s11 => ?_⟩
    refine ⟨_, rfl, neLI (l := runs caps p ds m (runs caps p ds (t - 1) st)) (m := runs caps p ds (t - 1) st) (SqL.of hw2) (SqL.of (s11 _ _ hh)) ?_⟩
    have ne : ¬ runs caps p ds m (runs caps p ds (t - 1) st) = runs caps p ds (t - 1) st := by
      rw [runs_it, runs_it, ← it_add]
      intro e
      have := (F.same (a := t - 1) (b := t - 1 + m) (by omega)).mp e.symm
      omega
    rw [decide_eq_false ne]
    exact hq _ ((s5.trans s510).trans s11)
end
end Kp

namespace Kp
open PySem PySem.Spec PyProof.Rows L2 KpR
section
variable {P : Program} {w : World} {K : PySem.W.Frag} {mg : Str → Option Value} {base : Heap}
theorem cut_mem {xs : List V} {lo hi : Option Int} {y : V} (h : y ∈ cutV xs lo hi) : y ∈ xs := List.mem_of_mem_drop (List.mem_of_mem_take h)
def spLaw (K : PySem.W.Frag) : Sp := fun vs H Q _ => ∃ (a : Addr) (ns : List Int), vs = [.ref a] ∧ SqL K H a (ns.map V.int) ∧ ns.length ≤ 63 ∧ ∀ H', Q (.bl true) H'
abbrev splaw {K : PySem.W.Frag} {mg : Str → Option Value} (T : Tx K mg) : Sp := spLaw K
theorem oklaw (T : Tx K mg) : FnOk P w K mg base CX0 7 T.alaw T.dlaw ["_law_script"] (splaw T) := by
  refine T.flaw.ok sclaw (fun vs H Q E h => ?_) (fun cdv A outer s H vs Q E hr h => ?_)
  · obtain ⟨a, ns, rfl, _⟩ := h
    rfl
  · obtain ⟨a, ns, rfl, hS, hlen, hq⟩ := h
    refine ⟨_, (pss_cons (ps_for PassesOwn.never rfl (pi_list (pe_op op_catR (pe_lst (pa_cons (pe_call (okLcellat T) (hr.mono (by decide)) rfl T.gLcellat T.fLcellat.kp T.bLcellat .nil pass0 (pa_cons (pv 0) (pa_cons pe_int pa_nil))) pa_nil)) (pe_slice sl_list (pv 0) (po_some pe_int) (po_some pe_int)))) (pg_name (i := 1) sclaw.nd rfl (by first | exact Or.inl rfl | exact Or.inr rfl)) (pss_cons (ps_set (i := 2) sclaw.nd rfl (by first | exact Or.inl rfl | exact Or.inr rfl) (pe_call (okLwell T) (hr.mono (by decide)) rfl T.gLwell T.fLwell.kp T.bLwell .nil pass0 (pa_cons (pv 1) pa_nil)))
      (pss_cons (ps_set (i := 3) sclaw.nd rfl (by first | exact Or.inl rfl | exact Or.inr rfl) (pe_call (okLsizes T) (hr.mono (by decide)) rfl T.gLsizes T.fLsizes.kp T.bLsizes .nil pass0 (pa_cons (pv 2) (pa_cons (pe_op op_add pe_int (pe_call (okLdraw T) (hr.mono (by decide)) rfl T.gLdraw T.fLdraw.kp T.bLdraw .nil pass0 (pa_cons (pv 2) (pa_cons pe_int pa_nil)))) (pa_cons pe_int pa_nil)))))
      (pss_cons (ps_set (i := 4) sclaw.nd rfl (by first | exact Or.inl rfl | exact Or.inr rfl) (pe_call (okLdeeds T) (hr.mono (by decide)) rfl T.gLdeeds T.fLdeeds.kp T.bLdeeds .nil pass0 (pa_cons (pv 2) (pa_cons (pv 3) (pa_cons pe_int pa_nil)))))
      (pss_cons (ps_set (i := 5) sclaw.nd rfl (by first | exact Or.inl rfl | exact Or.inr rfl) (pe_op op_add pe_int (pe_call (okLdraw T) (hr.mono (by decide)) rfl T.gLdraw T.fLdraw.kp T.bLdraw .nil pass0 (pa_cons (pv 2) (pa_cons pe_int pa_nil)))))
      (pss_cons (ps_set (i := 6) sclaw.nd rfl (by first | exact Or.inl rfl | exact Or.inr rfl) (pe_call (okLstart T) (hr.mono (by decide)) rfl T.gLstart T.fLstart.kp T.bLstart .nil pass0 (pa_cons (pv 2) (pa_cons (pv 3) (pa_cons (pv 5) pa_nil)))))
      (pss_cons (ps_if (pt_not (pt_val (pe_call (okLgreatright T) (hr.mono (by decide)) rfl T.gLgreatright T.fLgreatright.kp T.bLgreatright .nil pass0 (pa_cons (pv 2) (pa_cons (pv 3) (pa_cons (pv 4) (pa_cons (pv 6) (pa_cons (pv 5) pa_nil)))))))) (pss_one (ps_ret pe_bl)) pss_nil)
      (pss_cons (ps_if (pt_not (pt_val (pe_call (okLoftenright T) (hr.mono (by decide)) rfl T.gLoftenright T.fLoftenright.kp T.bLoftenright .nil pass0 (pa_cons (pv 2) (pa_cons (pv 3) (pa_cons (pv 4) (pa_cons (pv 6) (pa_cons (pv 5) pa_nil)))))))) (pss_one (ps_ret pe_bl)) pss_nil)
      (pss_one (ps_if (pt_not (pt_val (pe_call (okLlaterright T) (hr.mono (by decide)) rfl T.gLlaterright T.fLlaterright.kp T.bLlaterright .nil pass0 (pa_cons (pv 3) (pa_cons (pv 4) (pa_cons (pv 6) (pa_cons (pv 5) pa_nil))))))) (pss_one (ps_ret pe_bl)) pss_nil))))))))))
      (pss_one (ps_ret pe_bl))), ?_⟩
    refine ⟨_, rfl, a, ns, 0, rfl, hS, fun n0 => ⟨(by show 1 ≤ sizeLine; decide), fun z hz => ?_⟩⟩
    have s1 := same_new (o := .lst [V.int n0]) hz
    refine ⟨_, rfl, _, rfl, _, rfl, a, _, rfl, s1.seq hS, fun q hq0 => ?_⟩
    have s2 := s1.trans (same_new (o := .lst (cutV (ns.map V.int) (some 1) (some 3))) hq0)
    refine ⟨z, q, _, _, rfl, rfl, SqL.of ((same_new hq0) _ _ upd_same), SqL.of upd_same, ?_, fun l hl => ?_⟩
    · have := cutV_length (ns.map V.int) (some 1) (some 3)
      rw [List.length_map] at this
      exact Nat.le_trans (by simp; omega : [V.int n0].length + (cutV (ns.map V.int) (some 1) (some 3)).length ≤ 100) (by decide)
    refine ⟨l, rfl, ⟨_, SqL.of upd_same⟩, ?_⟩
    have allI : ∀ y ∈ [V.int n0] ++ cutV (ns.map V.int) (some 1) (some 3), ∃ n, y = V.int n := fun y hy => by
      rcases List.mem_append.mp hy with k | k
      · exact ⟨n0, by simpa using k⟩
      · obtain ⟨n, _, e⟩ := List.mem_map.mp (cut_mem k)
        exact ⟨n, e.symm⟩
    generalize hxs : [V.int n0] ++ cutV (ns.map V.int) (some 1) (some 3) = xs at *
    generalize hHl : upd _ l (.lst xs) = Hl
    have gl : Hl l = some (.lst xs) := by rw [← hHl]; exact upd_same
    clear s1 s2 hHl hz hq0 hl
    refine for_list (K := K) (a := l) (xs := xs) (fun i σ H' => ∃ v1 v2 v3 v4 v5 v6 : Option V, σ = [some (.ref a), v1, v2, v3, v4, v5, v6] ∧ Same Hl H') ⟨none, none, none, none, none, none, rfl, Same.refl _⟩ (fun i σ H' _ ⟨_, _, _, _, _, _, _, e⟩ => e.seq (SqL.of gl)) ?_ ?_
    · rintro i y σ H0 hi ⟨v1, v2, v3, v4, v5, v6, rfl, sm0⟩
      obtain ⟨n, rfl⟩ := allI y (List.mem_of_getElem? hi)
      refine ⟨_, rfl, n, rfl, fun H1 u s0 w1 s1 => ?_⟩
      have sme : ∀ {G : Hp}, Fr u H0 G → Same H0 G := fun e b o q => e b o (ne_of_none q s0) q
      refine gset (σ' := [some (V.ref a), some (V.int n), some (V.ref u), v3, v4, v5, v6]) rfl ?_
      refine ⟨_, rfl, _, rfl, u, 2, 0, rfl, w1, by decide, by decide, by decide, fun H2 d1 l1 w2 f2 => ⟨_, _, rfl, rfl, ?_⟩⟩
      refine ⟨u, 2 + d1, 6, 1, rfl, w2, by decide, by omega, by omega, by decide, by decide, fun H3 c caps hc cl cb w3 f3 => ?_⟩
      refine gset (σ' := [some (V.ref a), some (V.int n), some (V.ref u), some (V.ref c), v4, v5, v6]) rfl ?_
      have cu := neWT hc w3
      refine ⟨_, rfl, _, rfl, u, c, caps, 5, _, rfl, w3, by omega, by decide, hc, by omega, by omega, (fun x hx => by have := cb x hx; omega), fun H4 f ts ds hf0 hf hA dl ok w4 f4 => ?_⟩
      refine gset (σ' := [some (V.ref a), some (V.int n), some (V.ref u), some (V.ref c), some (V.ref f), v5, v6]) rfl ?_
      have fu : f ≠ u := w3.ne hf0
      have w4 := w4.mono (show 1 + 1 + 2 * (2 + d1) + 1 + 5 * 5 ≤ 100 by omega)
      refine ⟨_, rfl, u, 5, 100, rfl, w4, by omega, by decide, by decide, fun H5 d5 l5 w5 f5 => ⟨_, _, rfl, rfl, ?_⟩⟩
      obtain ⟨p, hp⟩ : ∃ p : Int, 1 + (d5 : Int) = p := ⟨_, rfl⟩
      refine gset (σ' := [some (V.ref a), some (V.int n), some (V.ref u), some (V.ref c), some (V.ref f), some (V.int p), v6]) (by rw [← hp]; rfl) ?_
      have c5 := (f4.trans f5) _ _ cu hc
      refine ⟨_, rfl, _, rfl, _, rfl, u, c, caps, p, 101, rfl, w5, by omega, c5, by omega, (fun x hx => by have := cb x hx; omega), by omega, by omega, fun H6 b st hb hst w6 f6 => ?_⟩
      refine gset (σ' := [some (V.ref a), some (V.int n), some (V.ref u), some (V.ref c), some (V.ref f), some (V.int p), some (V.ref b)]) rfl ?_
      have w6 := w6.mono (show 101 + caps.length ≤ 110 by omega)
      have bu := neWT hb w6
      have c6 := f6 _ _ cu c5
      have g6 := (f5.trans f6) _ _ fu hf
      have A6 := A2.wl w4 (f5.trans f6) hA
      refine ⟨_, rfl, _, rfl, _, rfl, _, rfl, _, rfl, u, c, f, b, caps, st, ts, ds, p, 110, rfl, w6, by omega, c6, by omega, by omega, cb, g6, A6, by omega, ok, hb, hst, by omega, by omega, fu, fun H7 w7 f7 => ⟨_, rfl, ifF rfl ?_⟩⟩
      have A7 := A2.wl w6 f7 A6
      refine ⟨_, rfl, _, rfl, _, rfl, _, rfl, _, rfl, u, c, f, b, caps, st, ts, ds, p, 114, rfl, w7, by omega, f7 _ _ cu c6, by omega, by omega, cb, f7 _ _ fu g6, A7, by omega, (fun d hd => (ok d hd).1), f7 _ _ bu hb, hst, by omega, by omega, fu, fun H8 w8 f8 => ⟨_, rfl, ifF rfl ?_⟩⟩
      have f78 := f7.trans f8
      refine ⟨_, rfl, _, rfl, _, rfl, _, rfl, c, f, b, caps, st, ts, ds, p, rfl, f78 _ _ cu c6, by omega, by omega, cb, f78 _ _ fu g6, A2.wl w7 f8 A7, by omega, (fun d hd => (ok d hd).1), f78 _ _ bu hb, hst, by omega, by omega, fun H9 s9 => ⟨_, rfl, ifF rfl ?_⟩⟩
      exact ⟨_, _, _, _, _, _, rfl, sm0.trans (sme ((Fr.of s1).trans (f2.trans (f3.trans (f4.trans (f5.trans (f6.trans (f78.trans (Fr.of s9)))))))))⟩
    · rintro σ H' ⟨v1, v2, v3, v4, v5, v6, rfl, sm⟩
      exact hq H'
end
end Kp

namespace Kp
open PySem PySem.Spec PyProof.Rows L2 KpR
theorem funD1 {K : PySem.W.Frag} {f D : Addr} {x qual p1 : Str} {n1 : Int} {st : Stmt} {oc doc pm cdv ct : Value} {od an : Option Addr} {osl : Array (Option Value)} {t1 : Tok}
    (l : K.lookup f = some ⟨oc, od, .func (PySem.W.fnOf x qual (defArgs st) (defBody st) (defScope st) .none (.ref D) doc pm an cdv ct), osl⟩) (c : PySem.W.codeIn K cdv qual = true) (k : PySem.W.keepIn K (.ref f) = true)
    (w1 : PySem.W.nsIn K D p1 = some (some (.int n1 t1))) :
    FunD K x qual (defArgs st) (defBody st) (defScope st) [] [(p1, .int n1)] f (PySem.W.fnOf x qual (defArgs st) (defBody st) (defScope st) .none (.ref D) doc pm an cdv ct) := by
  refine ⟨⟨oc, od, .none, .ref D, doc, pm, an, cdv, ct, osl, rfl, l, c, .inl ⟨rfl, rfl⟩, .inr ⟨D, rfl, fun q hq => ?_⟩⟩, k⟩
  rcases List.mem_cons.mp hq with e | hq
  · rw [e]
    exact ⟨_, w1, _, rfl⟩
  · cases hq
theorem funD2 {K : PySem.W.Frag} {f D : Addr} {x qual : Str} {st : Stmt} {oc doc pm cdv ct : Value} {od an : Option Addr} {osl : Array (Option Value)} {t1 t2 : Tok}
    (l : K.lookup f = some ⟨oc, od, .func (PySem.W.fnOf x qual (defArgs st) (defBody st) (defScope st) .none (.ref D) doc pm an cdv ct), osl⟩) (c : PySem.W.codeIn K cdv qual = true) (k : PySem.W.keepIn K (.ref f) = true)
    (w1 : PySem.W.nsIn K D "parts" = some (some (.int 1 t1))) (w2 : PySem.W.nsIn K D "times" = some (some (.int 1 t2))) :
    FunD K x qual (defArgs st) (defBody st) (defScope st) [] [("parts", .int 1), ("times", .int 1)] f (PySem.W.fnOf x qual (defArgs st) (defBody st) (defScope st) .none (.ref D) doc pm an cdv ct) := by
  refine ⟨⟨oc, od, .none, .ref D, doc, pm, an, cdv, ct, osl, rfl, l, c, .inl ⟨rfl, rfl⟩, .inr ⟨D, rfl, fun q hq => ?_⟩⟩, k⟩
  rcases List.mem_cons.mp hq with e | hq
  · rw [e]
    exact ⟨_, w1, _, rfl⟩
  · rcases List.mem_cons.mp hq with e | hq
    · rw [e]
      exact ⟨_, w2, _, rfl⟩
    · cases hq
theorem kit_tyV {K : PySem.W.Frag} {T : String} {A : Addr} {b : Bool} (h : PySem.W.subIn K (.ref A) (.type T) = some b) (m : PySem.W.kitMeta T = true := by decide +kernel) : PySem.W.kitOne K (.ref A) (.type T) = some b := by
  have ne : ¬ (Value.ref A == Value.type T) = true := fun z => nomatch eq_of_beq z
  unfold PySem.W.kitOne
  rw [if_neg ne]
  show (if PySem.W.kitMeta T = true then PySem.W.subIn K (.ref A) (.type T) else none) = some b
  rw [if_pos m]
  exact h
theorem all_mk {l : PySem.W.OpenLaw} {w : World} {K : PySem.W.Frag} {h : Heap} {mg : Str → Option Value} {fa CJars CPour CPut CDraw CChange CRow fcheckmuch fcheckjar fcheckdeed fJarsInit fPourInit fPutInit fDrawInit fChangeInit fRowInit fcheckstart fbehinddeed fbehindround fbehind ffate fLcellat fLwell fLdraw fLsizes fLdeed fLdeeds fLdeedmade fLrow fLstart fLgreat fLshared fLtimes fLgreatright fLoftenright fLlaterright flaw Dbehind Dfate : Addr} (X : K.In h) (G : h.Ns mainGlobals mg) (hfa : mg "law" = some (.ref fa))
    {odcheckmuch ancheckmuch odcheckjar ancheckjar odcheckdeed ancheckdeed odJarsInit anJarsInit odPourInit anPourInit odPutInit anPutInit odDrawInit anDrawInit odChangeInit anChangeInit odRowInit anRowInit odcheckstart ancheckstart odbehinddeed anbehinddeed odbehindround anbehindround odbehind anbehind odfate anfate odLcellat anLcellat odLwell anLwell odLdraw anLdraw odLsizes anLsizes odLdeed anLdeed odLdeeds anLdeeds odLdeedmade anLdeedmade odLrow anLrow odLstart anLstart odLgreat anLgreat odLshared anLshared odLtimes anLtimes odLgreatright anLgreatright odLoftenright anLoftenright odLlaterright anLlaterright odlaw anlaw : Option Addr} {slcheckmuch slcheckjar slcheckdeed slJarsInit slPourInit slPutInit slDrawInit slChangeInit slRowInit slcheckstart slbehinddeed slbehindround slbehind slfate slLcellat slLwell slLdraw slLsizes slLdeed slLdeeds slLdeedmade slLrow slLstart slLgreat slLshared slLtimes slLgreatright slLoftenright slLlaterright sllaw : Array (Option Value)} {occheckmuch dccheckmuch pmcheckmuch cdcheckmuch ctcheckmuch kVcheckmuch occheckjar dccheckjar pmcheckjar cdcheckjar ctcheckjar kVcheckjar occheckdeed dccheckdeed pmcheckdeed cdcheckdeed ctcheckdeed kVcheckdeed ocJarsInit dcJarsInit pmJarsInit cdJarsInit ctJarsInit kVJarsInit ocPourInit dcPourInit pmPourInit cdPourInit ctPourInit kVPourInit ocPutInit dcPutInit pmPutInit cdPutInit ctPutInit kVPutInit ocDrawInit dcDrawInit pmDrawInit cdDrawInit ctDrawInit kVDrawInit ocChangeInit dcChangeInit pmChangeInit cdChangeInit ctChangeInit kVChangeInit ocRowInit dcRowInit pmRowInit cdRowInit ctRowInit kVRowInit occheckstart dccheckstart pmcheckstart cdcheckstart ctcheckstart kVcheckstart ocbehinddeed dcbehinddeed pmbehinddeed cdbehinddeed ctbehinddeed kVbehinddeed ocbehindround dcbehindround pmbehindround cdbehindround ctbehindround kVbehindround ocbehind dcbehind pmbehind cdbehind ctbehind ocfate dcfate pmfate cdfate ctfate ocLcellat dcLcellat pmLcellat cdLcellat ctLcellat kVLcellat ocLwell dcLwell pmLwell cdLwell ctLwell kVLwell ocLdraw dcLdraw pmLdraw cdLdraw ctLdraw kVLdraw ocLsizes dcLsizes pmLsizes cdLsizes ctLsizes kVLsizes ocLdeed dcLdeed pmLdeed cdLdeed ctLdeed kVLdeed ocLdeeds dcLdeeds pmLdeeds cdLdeeds ctLdeeds kVLdeeds ocLdeedmade dcLdeedmade pmLdeedmade cdLdeedmade ctLdeedmade kVLdeedmade ocLrow dcLrow pmLrow cdLrow ctLrow kVLrow ocLstart dcLstart pmLstart cdLstart ctLstart kVLstart ocLgreat dcLgreat pmLgreat cdLgreat ctLgreat kVLgreat ocLshared dcLshared pmLshared cdLshared ctLshared kVLshared ocLtimes dcLtimes pmLtimes cdLtimes ctLtimes kVLtimes ocLgreatright dcLgreatright pmLgreatright cdLgreatright ctLgreatright kVLgreatright ocLoftenright dcLoftenright pmLoftenright cdLoftenright ctLoftenright kVLoftenright ocLlaterright dcLlaterright pmLlaterright cdLlaterright ctLlaterright kVLlaterright oclaw dclaw pmlaw cdlaw ctlaw kVlaw : Value} {tkMOSTJARS tkMOSTDEEDS tkMOSTMUCH tkMOSTTIMES tkMOSTROUNDS tbehind_parts tbehind_times tfate_parts : Tok}
    (xJars : PySem.W.nsIn K mainGlobals "Jars" = some (some (.ref CJars)))
    (xPour : PySem.W.nsIn K mainGlobals "Pour" = some (some (.ref CPour)))
    (xPut : PySem.W.nsIn K mainGlobals "Put" = some (some (.ref CPut)))
    (xDraw : PySem.W.nsIn K mainGlobals "Draw" = some (some (.ref CDraw)))
    (xChange : PySem.W.nsIn K mainGlobals "Change" = some (some (.ref CChange)))
    (xRow : PySem.W.nsIn K mainGlobals "Row" = some (some (.ref CRow)))
    (acheckmuch : PySem.W.nsIn K mainGlobals "check_much" = some (some (.ref fcheckmuch)))
    (lcheckmuch : K.lookup fcheckmuch = some ⟨occheckmuch, odcheckmuch, .func (PySem.W.fnOf "check_much" "check_much" (defArgs scheckmuch) (defBody scheckmuch) (defScope scheckmuch) .none kVcheckmuch dccheckmuch pmcheckmuch ancheckmuch cdcheckmuch ctcheckmuch), slcheckmuch⟩)
    (qcheckmuch : PySem.W.codeIn K cdcheckmuch "check_much" = true)
    (kcheckmuch : PySem.W.keepIn K (.ref fcheckmuch) = true)
    (acheckjar : PySem.W.nsIn K mainGlobals "check_jar" = some (some (.ref fcheckjar)))
    (lcheckjar : K.lookup fcheckjar = some ⟨occheckjar, odcheckjar, .func (PySem.W.fnOf "check_jar" "check_jar" (defArgs scheckjar) (defBody scheckjar) (defScope scheckjar) .none kVcheckjar dccheckjar pmcheckjar ancheckjar cdcheckjar ctcheckjar), slcheckjar⟩)
    (qcheckjar : PySem.W.codeIn K cdcheckjar "check_jar" = true)
    (kcheckjar : PySem.W.keepIn K (.ref fcheckjar) = true)
    (acheckdeed : PySem.W.nsIn K mainGlobals "check_deed" = some (some (.ref fcheckdeed)))
    (lcheckdeed : K.lookup fcheckdeed = some ⟨occheckdeed, odcheckdeed, .func (PySem.W.fnOf "check_deed" "check_deed" (defArgs scheckdeed) (defBody scheckdeed) (defScope scheckdeed) .none kVcheckdeed dccheckdeed pmcheckdeed ancheckdeed cdcheckdeed ctcheckdeed), slcheckdeed⟩)
    (qcheckdeed : PySem.W.codeIn K cdcheckdeed "check_deed" = true)
    (kcheckdeed : PySem.W.keepIn K (.ref fcheckdeed) = true)
    (aJarsInit : PySem.W.findIn K (.ref CJars) "__init__" = some (some (.ref fJarsInit)))
    (iJarsInit : PySem.W.isFn K (.ref fJarsInit) = true)
    (lJarsInit : K.lookup fJarsInit = some ⟨ocJarsInit, odJarsInit, .func (PySem.W.fnOf "__init__" "Jars.__init__" (defArgs sJarsInit) (defBody sJarsInit) (defScope sJarsInit) .none kVJarsInit dcJarsInit pmJarsInit anJarsInit cdJarsInit ctJarsInit), slJarsInit⟩)
    (qJarsInit : PySem.W.codeIn K cdJarsInit "Jars.__init__" = true)
    (kJarsInit : PySem.W.keepIn K (.ref fJarsInit) = true)
    (aPourInit : PySem.W.findIn K (.ref CPour) "__init__" = some (some (.ref fPourInit)))
    (iPourInit : PySem.W.isFn K (.ref fPourInit) = true)
    (lPourInit : K.lookup fPourInit = some ⟨ocPourInit, odPourInit, .func (PySem.W.fnOf "__init__" "Pour.__init__" (defArgs sPourInit) (defBody sPourInit) (defScope sPourInit) .none kVPourInit dcPourInit pmPourInit anPourInit cdPourInit ctPourInit), slPourInit⟩)
    (qPourInit : PySem.W.codeIn K cdPourInit "Pour.__init__" = true)
    (kPourInit : PySem.W.keepIn K (.ref fPourInit) = true)
    (aPutInit : PySem.W.findIn K (.ref CPut) "__init__" = some (some (.ref fPutInit)))
    (iPutInit : PySem.W.isFn K (.ref fPutInit) = true)
    (lPutInit : K.lookup fPutInit = some ⟨ocPutInit, odPutInit, .func (PySem.W.fnOf "__init__" "Put.__init__" (defArgs sPutInit) (defBody sPutInit) (defScope sPutInit) .none kVPutInit dcPutInit pmPutInit anPutInit cdPutInit ctPutInit), slPutInit⟩)
    (qPutInit : PySem.W.codeIn K cdPutInit "Put.__init__" = true)
    (kPutInit : PySem.W.keepIn K (.ref fPutInit) = true)
    (aDrawInit : PySem.W.findIn K (.ref CDraw) "__init__" = some (some (.ref fDrawInit)))
    (iDrawInit : PySem.W.isFn K (.ref fDrawInit) = true)
    (lDrawInit : K.lookup fDrawInit = some ⟨ocDrawInit, odDrawInit, .func (PySem.W.fnOf "__init__" "Draw.__init__" (defArgs sDrawInit) (defBody sDrawInit) (defScope sDrawInit) .none kVDrawInit dcDrawInit pmDrawInit anDrawInit cdDrawInit ctDrawInit), slDrawInit⟩)
    (qDrawInit : PySem.W.codeIn K cdDrawInit "Draw.__init__" = true)
    (kDrawInit : PySem.W.keepIn K (.ref fDrawInit) = true)
    (aChangeInit : PySem.W.findIn K (.ref CChange) "__init__" = some (some (.ref fChangeInit)))
    (iChangeInit : PySem.W.isFn K (.ref fChangeInit) = true)
    (lChangeInit : K.lookup fChangeInit = some ⟨ocChangeInit, odChangeInit, .func (PySem.W.fnOf "__init__" "Change.__init__" (defArgs sChangeInit) (defBody sChangeInit) (defScope sChangeInit) .none kVChangeInit dcChangeInit pmChangeInit anChangeInit cdChangeInit ctChangeInit), slChangeInit⟩)
    (qChangeInit : PySem.W.codeIn K cdChangeInit "Change.__init__" = true)
    (kChangeInit : PySem.W.keepIn K (.ref fChangeInit) = true)
    (aRowInit : PySem.W.findIn K (.ref CRow) "__init__" = some (some (.ref fRowInit)))
    (iRowInit : PySem.W.isFn K (.ref fRowInit) = true)
    (lRowInit : K.lookup fRowInit = some ⟨ocRowInit, odRowInit, .func (PySem.W.fnOf "__init__" "Row.__init__" (defArgs sRowInit) (defBody sRowInit) (defScope sRowInit) .none kVRowInit dcRowInit pmRowInit anRowInit cdRowInit ctRowInit), slRowInit⟩)
    (qRowInit : PySem.W.codeIn K cdRowInit "Row.__init__" = true)
    (kRowInit : PySem.W.keepIn K (.ref fRowInit) = true)
    (acheckstart : PySem.W.nsIn K mainGlobals "check_start" = some (some (.ref fcheckstart)))
    (lcheckstart : K.lookup fcheckstart = some ⟨occheckstart, odcheckstart, .func (PySem.W.fnOf "check_start" "check_start" (defArgs scheckstart) (defBody scheckstart) (defScope scheckstart) .none kVcheckstart dccheckstart pmcheckstart ancheckstart cdcheckstart ctcheckstart), slcheckstart⟩)
    (qcheckstart : PySem.W.codeIn K cdcheckstart "check_start" = true)
    (kcheckstart : PySem.W.keepIn K (.ref fcheckstart) = true)
    (abehinddeed : PySem.W.nsIn K mainGlobals "behind_deed" = some (some (.ref fbehinddeed)))
    (lbehinddeed : K.lookup fbehinddeed = some ⟨ocbehinddeed, odbehinddeed, .func (PySem.W.fnOf "behind_deed" "behind_deed" (defArgs sbehinddeed) (defBody sbehinddeed) (defScope sbehinddeed) .none kVbehinddeed dcbehinddeed pmbehinddeed anbehinddeed cdbehinddeed ctbehinddeed), slbehinddeed⟩)
    (qbehinddeed : PySem.W.codeIn K cdbehinddeed "behind_deed" = true)
    (kbehinddeed : PySem.W.keepIn K (.ref fbehinddeed) = true)
    (abehindround : PySem.W.nsIn K mainGlobals "behind_round" = some (some (.ref fbehindround)))
    (lbehindround : K.lookup fbehindround = some ⟨ocbehindround, odbehindround, .func (PySem.W.fnOf "behind_round" "behind_round" (defArgs sbehindround) (defBody sbehindround) (defScope sbehindround) .none kVbehindround dcbehindround pmbehindround anbehindround cdbehindround ctbehindround), slbehindround⟩)
    (qbehindround : PySem.W.codeIn K cdbehindround "behind_round" = true)
    (kbehindround : PySem.W.keepIn K (.ref fbehindround) = true)
    (abehind : PySem.W.nsIn K mainGlobals "behind" = some (some (.ref fbehind)))
    (lbehind : K.lookup fbehind = some ⟨ocbehind, odbehind, .func (PySem.W.fnOf "behind" "behind" (defArgs sbehind) (defBody sbehind) (defScope sbehind) .none (.ref Dbehind) dcbehind pmbehind anbehind cdbehind ctbehind), slbehind⟩)
    (qbehind : PySem.W.codeIn K cdbehind "behind" = true)
    (kbehind : PySem.W.keepIn K (.ref fbehind) = true)
    (wbehind_parts : PySem.W.nsIn K Dbehind "parts" = some (some (.int 1 tbehind_parts)))
    (wbehind_times : PySem.W.nsIn K Dbehind "times" = some (some (.int 1 tbehind_times)))
    (afate : PySem.W.nsIn K mainGlobals "fate" = some (some (.ref ffate)))
    (lfate : K.lookup ffate = some ⟨ocfate, odfate, .func (PySem.W.fnOf "fate" "fate" (defArgs sfate) (defBody sfate) (defScope sfate) .none (.ref Dfate) dcfate pmfate anfate cdfate ctfate), slfate⟩)
    (qfate : PySem.W.codeIn K cdfate "fate" = true)
    (kfate : PySem.W.keepIn K (.ref ffate) = true)
    (wfate_parts : PySem.W.nsIn K Dfate "parts" = some (some (.int 1 tfate_parts)))
    (aLcellat : PySem.W.nsIn K mainGlobals "_law_cell_at" = some (some (.ref fLcellat)))
    (lLcellat : K.lookup fLcellat = some ⟨ocLcellat, odLcellat, .func (PySem.W.fnOf "_law_cell_at" "_law_cell_at" (defArgs sLcellat) (defBody sLcellat) (defScope sLcellat) .none kVLcellat dcLcellat pmLcellat anLcellat cdLcellat ctLcellat), slLcellat⟩)
    (qLcellat : PySem.W.codeIn K cdLcellat "_law_cell_at" = true)
    (kLcellat : PySem.W.keepIn K (.ref fLcellat) = true)
    (aLwell : PySem.W.nsIn K mainGlobals "_law_well" = some (some (.ref fLwell)))
    (lLwell : K.lookup fLwell = some ⟨ocLwell, odLwell, .func (PySem.W.fnOf "_law_well" "_law_well" (defArgs sLwell) (defBody sLwell) (defScope sLwell) .none kVLwell dcLwell pmLwell anLwell cdLwell ctLwell), slLwell⟩)
    (qLwell : PySem.W.codeIn K cdLwell "_law_well" = true)
    (kLwell : PySem.W.keepIn K (.ref fLwell) = true)
    (aLdraw : PySem.W.nsIn K mainGlobals "_law_draw" = some (some (.ref fLdraw)))
    (lLdraw : K.lookup fLdraw = some ⟨ocLdraw, odLdraw, .func (PySem.W.fnOf "_law_draw" "_law_draw" (defArgs sLdraw) (defBody sLdraw) (defScope sLdraw) .none kVLdraw dcLdraw pmLdraw anLdraw cdLdraw ctLdraw), slLdraw⟩)
    (qLdraw : PySem.W.codeIn K cdLdraw "_law_draw" = true)
    (kLdraw : PySem.W.keepIn K (.ref fLdraw) = true)
    (aLsizes : PySem.W.nsIn K mainGlobals "_law_sizes" = some (some (.ref fLsizes)))
    (lLsizes : K.lookup fLsizes = some ⟨ocLsizes, odLsizes, .func (PySem.W.fnOf "_law_sizes" "_law_sizes" (defArgs sLsizes) (defBody sLsizes) (defScope sLsizes) .none kVLsizes dcLsizes pmLsizes anLsizes cdLsizes ctLsizes), slLsizes⟩)
    (qLsizes : PySem.W.codeIn K cdLsizes "_law_sizes" = true)
    (kLsizes : PySem.W.keepIn K (.ref fLsizes) = true)
    (aLdeed : PySem.W.nsIn K mainGlobals "_law_deed" = some (some (.ref fLdeed)))
    (lLdeed : K.lookup fLdeed = some ⟨ocLdeed, odLdeed, .func (PySem.W.fnOf "_law_deed" "_law_deed" (defArgs sLdeed) (defBody sLdeed) (defScope sLdeed) .none kVLdeed dcLdeed pmLdeed anLdeed cdLdeed ctLdeed), slLdeed⟩)
    (qLdeed : PySem.W.codeIn K cdLdeed "_law_deed" = true)
    (kLdeed : PySem.W.keepIn K (.ref fLdeed) = true)
    (aLdeeds : PySem.W.nsIn K mainGlobals "_law_deeds" = some (some (.ref fLdeeds)))
    (lLdeeds : K.lookup fLdeeds = some ⟨ocLdeeds, odLdeeds, .func (PySem.W.fnOf "_law_deeds" "_law_deeds" (defArgs sLdeeds) (defBody sLdeeds) (defScope sLdeeds) .none kVLdeeds dcLdeeds pmLdeeds anLdeeds cdLdeeds ctLdeeds), slLdeeds⟩)
    (qLdeeds : PySem.W.codeIn K cdLdeeds "_law_deeds" = true)
    (kLdeeds : PySem.W.keepIn K (.ref fLdeeds) = true)
    (aLdeedmade : PySem.W.nsIn K mainGlobals "_law_deed_made" = some (some (.ref fLdeedmade)))
    (lLdeedmade : K.lookup fLdeedmade = some ⟨ocLdeedmade, odLdeedmade, .func (PySem.W.fnOf "_law_deed_made" "_law_deed_made" (defArgs sLdeedmade) (defBody sLdeedmade) (defScope sLdeedmade) .none kVLdeedmade dcLdeedmade pmLdeedmade anLdeedmade cdLdeedmade ctLdeedmade), slLdeedmade⟩)
    (qLdeedmade : PySem.W.codeIn K cdLdeedmade "_law_deed_made" = true)
    (kLdeedmade : PySem.W.keepIn K (.ref fLdeedmade) = true)
    (aLrow : PySem.W.nsIn K mainGlobals "_law_row" = some (some (.ref fLrow)))
    (lLrow : K.lookup fLrow = some ⟨ocLrow, odLrow, .func (PySem.W.fnOf "_law_row" "_law_row" (defArgs sLrow) (defBody sLrow) (defScope sLrow) .none kVLrow dcLrow pmLrow anLrow cdLrow ctLrow), slLrow⟩)
    (qLrow : PySem.W.codeIn K cdLrow "_law_row" = true)
    (kLrow : PySem.W.keepIn K (.ref fLrow) = true)
    (aLstart : PySem.W.nsIn K mainGlobals "_law_start" = some (some (.ref fLstart)))
    (lLstart : K.lookup fLstart = some ⟨ocLstart, odLstart, .func (PySem.W.fnOf "_law_start" "_law_start" (defArgs sLstart) (defBody sLstart) (defScope sLstart) .none kVLstart dcLstart pmLstart anLstart cdLstart ctLstart), slLstart⟩)
    (qLstart : PySem.W.codeIn K cdLstart "_law_start" = true)
    (kLstart : PySem.W.keepIn K (.ref fLstart) = true)
    (aLgreat : PySem.W.nsIn K mainGlobals "_law_great" = some (some (.ref fLgreat)))
    (lLgreat : K.lookup fLgreat = some ⟨ocLgreat, odLgreat, .func (PySem.W.fnOf "_law_great" "_law_great" (defArgs sLgreat) (defBody sLgreat) (defScope sLgreat) .none kVLgreat dcLgreat pmLgreat anLgreat cdLgreat ctLgreat), slLgreat⟩)
    (qLgreat : PySem.W.codeIn K cdLgreat "_law_great" = true)
    (kLgreat : PySem.W.keepIn K (.ref fLgreat) = true)
    (aLshared : PySem.W.nsIn K mainGlobals "_law_shared" = some (some (.ref fLshared)))
    (lLshared : K.lookup fLshared = some ⟨ocLshared, odLshared, .func (PySem.W.fnOf "_law_shared" "_law_shared" (defArgs sLshared) (defBody sLshared) (defScope sLshared) .none kVLshared dcLshared pmLshared anLshared cdLshared ctLshared), slLshared⟩)
    (qLshared : PySem.W.codeIn K cdLshared "_law_shared" = true)
    (kLshared : PySem.W.keepIn K (.ref fLshared) = true)
    (aLtimes : PySem.W.nsIn K mainGlobals "_law_times" = some (some (.ref fLtimes)))
    (lLtimes : K.lookup fLtimes = some ⟨ocLtimes, odLtimes, .func (PySem.W.fnOf "_law_times" "_law_times" (defArgs sLtimes) (defBody sLtimes) (defScope sLtimes) .none kVLtimes dcLtimes pmLtimes anLtimes cdLtimes ctLtimes), slLtimes⟩)
    (qLtimes : PySem.W.codeIn K cdLtimes "_law_times" = true)
    (kLtimes : PySem.W.keepIn K (.ref fLtimes) = true)
    (aLgreatright : PySem.W.nsIn K mainGlobals "_law_great_right" = some (some (.ref fLgreatright)))
    (lLgreatright : K.lookup fLgreatright = some ⟨ocLgreatright, odLgreatright, .func (PySem.W.fnOf "_law_great_right" "_law_great_right" (defArgs sLgreatright) (defBody sLgreatright) (defScope sLgreatright) .none kVLgreatright dcLgreatright pmLgreatright anLgreatright cdLgreatright ctLgreatright), slLgreatright⟩)
    (qLgreatright : PySem.W.codeIn K cdLgreatright "_law_great_right" = true)
    (kLgreatright : PySem.W.keepIn K (.ref fLgreatright) = true)
    (aLoftenright : PySem.W.nsIn K mainGlobals "_law_often_right" = some (some (.ref fLoftenright)))
    (lLoftenright : K.lookup fLoftenright = some ⟨ocLoftenright, odLoftenright, .func (PySem.W.fnOf "_law_often_right" "_law_often_right" (defArgs sLoftenright) (defBody sLoftenright) (defScope sLoftenright) .none kVLoftenright dcLoftenright pmLoftenright anLoftenright cdLoftenright ctLoftenright), slLoftenright⟩)
    (qLoftenright : PySem.W.codeIn K cdLoftenright "_law_often_right" = true)
    (kLoftenright : PySem.W.keepIn K (.ref fLoftenright) = true)
    (aLlaterright : PySem.W.nsIn K mainGlobals "_law_later_right" = some (some (.ref fLlaterright)))
    (lLlaterright : K.lookup fLlaterright = some ⟨ocLlaterright, odLlaterright, .func (PySem.W.fnOf "_law_later_right" "_law_later_right" (defArgs sLlaterright) (defBody sLlaterright) (defScope sLlaterright) .none kVLlaterright dcLlaterright pmLlaterright anLlaterright cdLlaterright ctLlaterright), slLlaterright⟩)
    (qLlaterright : PySem.W.codeIn K cdLlaterright "_law_later_right" = true)
    (kLlaterright : PySem.W.keepIn K (.ref fLlaterright) = true)
    (alaw : PySem.W.nsIn K mainGlobals "law" = some (some (.ref flaw)))
    (llaw : K.lookup flaw = some ⟨oclaw, odlaw, .func (PySem.W.fnOf "law" "law" (defArgs slaw) (defBody slaw) (defScope slaw) .none kVlaw dclaw pmlaw anlaw cdlaw ctlaw), sllaw⟩)
    (qlaw : PySem.W.codeIn K cdlaw "law" = true)
    (klaw : PySem.W.keepIn K (.ref flaw) = true)
    (pgJars : PySem.W.plainGet K CJars Str.empty = true)
    (hdJars : PySem.W.hasDictIn K CJars = true)
    (poJars : PySem.W.plainOver K CJars = true)
    (saJars : PySem.W.findIn K (.ref CJars) "__setattr__" = some (some (.builtin "object.__setattr__")))
    (mkJars : PySem.W.makesIn K CJars = true)
    (kcJars : PySem.W.keepIn K (.ref CJars) = true)
    (nJars_sizes : PySem.W.findIn K (.ref CJars) "sizes" = some none)
    (pgPour : PySem.W.plainGet K CPour Str.empty = true)
    (hdPour : PySem.W.hasDictIn K CPour = true)
    (poPour : PySem.W.plainOver K CPour = true)
    (saPour : PySem.W.findIn K (.ref CPour) "__setattr__" = some (some (.builtin "object.__setattr__")))
    (mkPour : PySem.W.makesIn K CPour = true)
    (kcPour : PySem.W.keepIn K (.ref CPour) = true)
    (nPour_a : PySem.W.findIn K (.ref CPour) "a" = some none)
    (nPour_b : PySem.W.findIn K (.ref CPour) "b" = some none)
    (pgPut : PySem.W.plainGet K CPut Str.empty = true)
    (hdPut : PySem.W.hasDictIn K CPut = true)
    (poPut : PySem.W.plainOver K CPut = true)
    (saPut : PySem.W.findIn K (.ref CPut) "__setattr__" = some (some (.builtin "object.__setattr__")))
    (mkPut : PySem.W.makesIn K CPut = true)
    (kcPut : PySem.W.keepIn K (.ref CPut) = true)
    (nPut_a : PySem.W.findIn K (.ref CPut) "a" = some none)
    (nPut_k : PySem.W.findIn K (.ref CPut) "k" = some none)
    (pgDraw : PySem.W.plainGet K CDraw Str.empty = true)
    (hdDraw : PySem.W.hasDictIn K CDraw = true)
    (poDraw : PySem.W.plainOver K CDraw = true)
    (saDraw : PySem.W.findIn K (.ref CDraw) "__setattr__" = some (some (.builtin "object.__setattr__")))
    (mkDraw : PySem.W.makesIn K CDraw = true)
    (kcDraw : PySem.W.keepIn K (.ref CDraw) = true)
    (nDraw_a : PySem.W.findIn K (.ref CDraw) "a" = some none)
    (nDraw_k : PySem.W.findIn K (.ref CDraw) "k" = some none)
    (pgChange : PySem.W.plainGet K CChange Str.empty = true)
    (hdChange : PySem.W.hasDictIn K CChange = true)
    (poChange : PySem.W.plainOver K CChange = true)
    (saChange : PySem.W.findIn K (.ref CChange) "__setattr__" = some (some (.builtin "object.__setattr__")))
    (mkChange : PySem.W.makesIn K CChange = true)
    (kcChange : PySem.W.keepIn K (.ref CChange) = true)
    (nChange_a : PySem.W.findIn K (.ref CChange) "a" = some none)
    (nChange_b : PySem.W.findIn K (.ref CChange) "b" = some none)
    (pgRow : PySem.W.plainGet K CRow Str.empty = true)
    (hdRow : PySem.W.hasDictIn K CRow = true)
    (poRow : PySem.W.plainOver K CRow = true)
    (saRow : PySem.W.findIn K (.ref CRow) "__setattr__" = some (some (.builtin "object.__setattr__")))
    (mkRow : PySem.W.makesIn K CRow = true)
    (kcRow : PySem.W.keepIn K (.ref CRow) = true)
    (nRow_jars : PySem.W.findIn K (.ref CRow) "jars" = some none)
    (nRow_deeds : PySem.W.findIn K (.ref CRow) "deeds" = some none)
    (yaChange : PySem.W.findIn K (.ref CChange) "__class__" = some (some (.builtin "object.__class__")))
    (ymChange : PySem.W.mroIn K CChange (.type "object") = some true)
    (yaDraw : PySem.W.findIn K (.ref CDraw) "__class__" = some (some (.builtin "object.__class__")))
    (ymDraw : PySem.W.mroIn K CDraw (.type "object") = some true)
    (yaPour : PySem.W.findIn K (.ref CPour) "__class__" = some (some (.builtin "object.__class__")))
    (ymPour : PySem.W.mroIn K CPour (.type "object") = some true)
    (yaPut : PySem.W.findIn K (.ref CPut) "__class__" = some (some (.builtin "object.__class__")))
    (ymPut : PySem.W.mroIn K CPut (.type "object") = some true)
    (yn : PySem.W.specialIn K (.builtin "object.__class__") "__get__" = some (some (.builtin "getset_descriptor.__get__")))
    (yt : PySem.W.takesIn K (.builtin "object.__class__") = some true)
    (isPour_Put : PySem.W.kitOne K (.ref CPour) (.ref CPut) = some false)
    (isPour_Draw : PySem.W.kitOne K (.ref CPour) (.ref CDraw) = some false)
    (isPour_Pour : PySem.W.kitOne K (.ref CPour) (.ref CPour) = some true)
    (isPour_Change : PySem.W.kitOne K (.ref CPour) (.ref CChange) = some false)
    (isPut_Put : PySem.W.kitOne K (.ref CPut) (.ref CPut) = some true)
    (isPut_Draw : PySem.W.kitOne K (.ref CPut) (.ref CDraw) = some false)
    (isPut_Pour : PySem.W.kitOne K (.ref CPut) (.ref CPour) = some false)
    (isPut_Change : PySem.W.kitOne K (.ref CPut) (.ref CChange) = some false)
    (isDraw_Put : PySem.W.kitOne K (.ref CDraw) (.ref CPut) = some false)
    (isDraw_Draw : PySem.W.kitOne K (.ref CDraw) (.ref CDraw) = some true)
    (isDraw_Pour : PySem.W.kitOne K (.ref CDraw) (.ref CPour) = some false)
    (isDraw_Change : PySem.W.kitOne K (.ref CDraw) (.ref CChange) = some false)
    (isChange_Put : PySem.W.kitOne K (.ref CChange) (.ref CPut) = some false)
    (isChange_Draw : PySem.W.kitOne K (.ref CChange) (.ref CDraw) = some false)
    (isChange_Pour : PySem.W.kitOne K (.ref CChange) (.ref CPour) = some false)
    (isChange_Change : PySem.W.kitOne K (.ref CChange) (.ref CChange) = some true)
    (gMOSTJARS : PySem.W.nsIn K mainGlobals "MOST_JARS" = some (some (.int 6 tkMOSTJARS)))
    (gMOSTDEEDS : PySem.W.nsIn K mainGlobals "MOST_DEEDS" = some (some (.int 20 tkMOSTDEEDS)))
    (gMOSTMUCH : PySem.W.nsIn K mainGlobals "MOST_MUCH" = some (some (.int 1000000000000 tkMOSTMUCH)))
    (gMOSTTIMES : PySem.W.nsIn K mainGlobals "MOST_TIMES" = some (some (.int 1000 tkMOSTTIMES)))
    (gMOSTROUNDS : PySem.W.nsIn K mainGlobals "MOST_ROUNDS" = some (some (.int 20000 tkMOSTROUNDS)))
    (zenumerate : PySem.W.nsIn K mainGlobals "enumerate" = some none)
    (zint : PySem.W.nsIn K mainGlobals "int" = some none)
    (zisinstance : PySem.W.nsIn K mainGlobals "isinstance" = some none)
    (zlen : PySem.W.nsIn K mainGlobals "len" = some none)
    (zlist : PySem.W.nsIn K mainGlobals "list" = some none)
    (zmax : PySem.W.nsIn K mainGlobals "max" = some none)
    (zmin : PySem.W.nsIn K mainGlobals "min" = some none)
    (zrange : PySem.W.nsIn K mainGlobals "range" = some none)
    (ztuple : PySem.W.nsIn K mainGlobals "tuple" = some none) :
    ∃ fd : FuncData, (∀ (s : Shared) (v : Value), BindsTo s fd ⟨[v], []⟩ [("_law_script", v)]) ∧ ∀ base : Heap, K.In base → base.Ns mainGlobals mg → FnOk l.prog w K mg base CX0 7 fa fd ["_law_script"] (spLaw K) := by
  have e := hfa.symm.trans (PySem.W.mg_of X G alaw)
  cases e
  exact ⟨PySem.W.fnOf "law" "law" (defArgs slaw) (defBody slaw) (defScope slaw) .none kVlaw dclaw pmlaw anlaw cdlaw ctlaw, fun s v => .of_eq rfl, fun base _ _ => oklaw {
    cJars := CJars
    mJars := PySem.W.mg_of X G xJars
    cPour := CPour
    mPour := PySem.W.mg_of X G xPour
    cPut := CPut
    mPut := PySem.W.mg_of X G xPut
    cDraw := CDraw
    mDraw := PySem.W.mg_of X G xDraw
    cChange := CChange
    mChange := PySem.W.mg_of X G xChange
    cRow := CRow
    mRow := PySem.W.mg_of X G xRow
    gcheckmuch := PySem.W.mg_of X G acheckmuch
    acheckmuch := fcheckmuch
    dcheckmuch := PySem.W.fnOf "check_much" "check_much" (defArgs scheckmuch) (defBody scheckmuch) (defScope scheckmuch) .none kVcheckmuch dccheckmuch pmcheckmuch ancheckmuch cdcheckmuch ctcheckmuch
    fcheckmuch := fun_mk (st := scheckmuch) lcheckmuch qcheckmuch kcheckmuch
    bcheckmuch := (fun_mk (st := scheckmuch) lcheckmuch qcheckmuch kcheckmuch).binds (ps := ["what", "much"]) fun _ _ _ _ _ _ us hl => match us, hl with | [_, _], _ => rfl
    gcheckjar := PySem.W.mg_of X G acheckjar
    acheckjar := fcheckjar
    dcheckjar := PySem.W.fnOf "check_jar" "check_jar" (defArgs scheckjar) (defBody scheckjar) (defScope scheckjar) .none kVcheckjar dccheckjar pmcheckjar ancheckjar cdcheckjar ctcheckjar
    fcheckjar := fun_mk (st := scheckjar) lcheckjar qcheckjar kcheckjar
    bcheckjar := (fun_mk (st := scheckjar) lcheckjar qcheckjar kcheckjar).binds (ps := ["jars", "jar"]) fun _ _ _ _ _ _ us hl => match us, hl with | [_, _], _ => rfl
    gcheckdeed := PySem.W.mg_of X G acheckdeed
    acheckdeed := fcheckdeed
    dcheckdeed := PySem.W.fnOf "check_deed" "check_deed" (defArgs scheckdeed) (defBody scheckdeed) (defScope scheckdeed) .none kVcheckdeed dccheckdeed pmcheckdeed ancheckdeed cdcheckdeed ctcheckdeed
    fcheckdeed := fun_mk (st := scheckdeed) lcheckdeed qcheckdeed kcheckdeed
    bcheckdeed := (fun_mk (st := scheckdeed) lcheckdeed qcheckdeed kcheckdeed).binds (ps := ["jars", "deed"]) fun _ _ _ _ _ _ us hl => match us, hl with | [_, _], _ => rfl
    aJarsInit := fJarsInit
    dJarsInit := PySem.W.fnOf "__init__" "Jars.__init__" (defArgs sJarsInit) (defBody sJarsInit) (defScope sJarsInit) .none kVJarsInit dcJarsInit pmJarsInit anJarsInit cdJarsInit ctJarsInit
    fJarsInit := fun_mk (st := sJarsInit) lJarsInit qJarsInit kJarsInit
    bJarsInit := (fun_mk (st := sJarsInit) lJarsInit qJarsInit kJarsInit).binds (ps := ["self", "sizes"]) fun _ _ _ _ _ _ us hl => match us, hl with | [_, _], _ => rfl
    aPourInit := fPourInit
    dPourInit := PySem.W.fnOf "__init__" "Pour.__init__" (defArgs sPourInit) (defBody sPourInit) (defScope sPourInit) .none kVPourInit dcPourInit pmPourInit anPourInit cdPourInit ctPourInit
    fPourInit := fun_mk (st := sPourInit) lPourInit qPourInit kPourInit
    bPourInit := (fun_mk (st := sPourInit) lPourInit qPourInit kPourInit).binds (ps := ["self", "a", "b"]) fun _ _ _ _ _ _ us hl => match us, hl with | [_, _, _], _ => rfl
    aPutInit := fPutInit
    dPutInit := PySem.W.fnOf "__init__" "Put.__init__" (defArgs sPutInit) (defBody sPutInit) (defScope sPutInit) .none kVPutInit dcPutInit pmPutInit anPutInit cdPutInit ctPutInit
    fPutInit := fun_mk (st := sPutInit) lPutInit qPutInit kPutInit
    bPutInit := (fun_mk (st := sPutInit) lPutInit qPutInit kPutInit).binds (ps := ["self", "a", "k"]) fun _ _ _ _ _ _ us hl => match us, hl with | [_, _, _], _ => rfl
    aDrawInit := fDrawInit
    dDrawInit := PySem.W.fnOf "__init__" "Draw.__init__" (defArgs sDrawInit) (defBody sDrawInit) (defScope sDrawInit) .none kVDrawInit dcDrawInit pmDrawInit anDrawInit cdDrawInit ctDrawInit
    fDrawInit := fun_mk (st := sDrawInit) lDrawInit qDrawInit kDrawInit
    bDrawInit := (fun_mk (st := sDrawInit) lDrawInit qDrawInit kDrawInit).binds (ps := ["self", "a", "k"]) fun _ _ _ _ _ _ us hl => match us, hl with | [_, _, _], _ => rfl
    aChangeInit := fChangeInit
    dChangeInit := PySem.W.fnOf "__init__" "Change.__init__" (defArgs sChangeInit) (defBody sChangeInit) (defScope sChangeInit) .none kVChangeInit dcChangeInit pmChangeInit anChangeInit cdChangeInit ctChangeInit
    fChangeInit := fun_mk (st := sChangeInit) lChangeInit qChangeInit kChangeInit
    bChangeInit := (fun_mk (st := sChangeInit) lChangeInit qChangeInit kChangeInit).binds (ps := ["self", "a", "b"]) fun _ _ _ _ _ _ us hl => match us, hl with | [_, _, _], _ => rfl
    aRowInit := fRowInit
    dRowInit := PySem.W.fnOf "__init__" "Row.__init__" (defArgs sRowInit) (defBody sRowInit) (defScope sRowInit) .none kVRowInit dcRowInit pmRowInit anRowInit cdRowInit ctRowInit
    fRowInit := fun_mk (st := sRowInit) lRowInit qRowInit kRowInit
    bRowInit := (fun_mk (st := sRowInit) lRowInit qRowInit kRowInit).binds (ps := ["self", "jars", "deeds"]) fun _ _ _ _ _ _ us hl => match us, hl with | [_, _, _], _ => rfl
    gcheckstart := PySem.W.mg_of X G acheckstart
    acheckstart := fcheckstart
    dcheckstart := PySem.W.fnOf "check_start" "check_start" (defArgs scheckstart) (defBody scheckstart) (defScope scheckstart) .none kVcheckstart dccheckstart pmcheckstart ancheckstart cdcheckstart ctcheckstart
    fcheckstart := fun_mk (st := scheckstart) lcheckstart qcheckstart kcheckstart
    bcheckstart := (fun_mk (st := scheckstart) lcheckstart qcheckstart kcheckstart).binds (ps := ["jars", "start", "parts"]) fun _ _ _ _ _ _ us hl => match us, hl with | [_, _, _], _ => rfl
    gbehinddeed := PySem.W.mg_of X G abehinddeed
    abehinddeed := fbehinddeed
    dbehinddeed := PySem.W.fnOf "behind_deed" "behind_deed" (defArgs sbehinddeed) (defBody sbehinddeed) (defScope sbehinddeed) .none kVbehinddeed dcbehinddeed pmbehinddeed anbehinddeed cdbehinddeed ctbehinddeed
    fbehinddeed := fun_mk (st := sbehinddeed) lbehinddeed qbehinddeed kbehinddeed
    bbehinddeed := (fun_mk (st := sbehinddeed) lbehinddeed qbehinddeed kbehinddeed).binds (ps := ["jars", "deed", "stand", "parts"]) fun _ _ _ _ _ _ us hl => match us, hl with | [_, _, _, _], _ => rfl
    gbehindround := PySem.W.mg_of X G abehindround
    abehindround := fbehindround
    dbehindround := PySem.W.fnOf "behind_round" "behind_round" (defArgs sbehindround) (defBody sbehindround) (defScope sbehindround) .none kVbehindround dcbehindround pmbehindround anbehindround cdbehindround ctbehindround
    fbehindround := fun_mk (st := sbehindround) lbehindround qbehindround kbehindround
    bbehindround := (fun_mk (st := sbehindround) lbehindround qbehindround kbehindround).binds (ps := ["row", "stand", "parts"]) fun _ _ _ _ _ _ us hl => match us, hl with | [_, _, _], _ => rfl
    gbehind := PySem.W.mg_of X G abehind
    abehind := fbehind
    dbehind := PySem.W.fnOf "behind" "behind" (defArgs sbehind) (defBody sbehind) (defScope sbehind) .none (.ref Dbehind) dcbehind pmbehind anbehind cdbehind ctbehind
    fbehind := funD2 lbehind qbehind kbehind wbehind_parts wbehind_times
    gfate := PySem.W.mg_of X G afate
    afate := ffate
    dfate := PySem.W.fnOf "fate" "fate" (defArgs sfate) (defBody sfate) (defScope sfate) .none (.ref Dfate) dcfate pmfate anfate cdfate ctfate
    ffate := funD1 lfate qfate kfate wfate_parts
    gLcellat := PySem.W.mg_of X G aLcellat
    aLcellat := fLcellat
    dLcellat := PySem.W.fnOf "_law_cell_at" "_law_cell_at" (defArgs sLcellat) (defBody sLcellat) (defScope sLcellat) .none kVLcellat dcLcellat pmLcellat anLcellat cdLcellat ctLcellat
    fLcellat := fun_mk (st := sLcellat) lLcellat qLcellat kLcellat
    bLcellat := (fun_mk (st := sLcellat) lLcellat qLcellat kLcellat).binds (ps := ["_law_script", "_law_k"]) fun _ _ _ _ _ _ us hl => match us, hl with | [_, _], _ => rfl
    gLwell := PySem.W.mg_of X G aLwell
    aLwell := fLwell
    dLwell := PySem.W.fnOf "_law_well" "_law_well" (defArgs sLwell) (defBody sLwell) (defScope sLwell) .none kVLwell dcLwell pmLwell anLwell cdLwell ctLwell
    fLwell := fun_mk (st := sLwell) lLwell qLwell kLwell
    bLwell := (fun_mk (st := sLwell) lLwell qLwell kLwell).binds (ps := ["_law_cell"]) fun _ _ _ _ _ _ us hl => match us, hl with | [_], _ => rfl
    gLdraw := PySem.W.mg_of X G aLdraw
    aLdraw := fLdraw
    dLdraw := PySem.W.fnOf "_law_draw" "_law_draw" (defArgs sLdraw) (defBody sLdraw) (defScope sLdraw) .none kVLdraw dcLdraw pmLdraw anLdraw cdLdraw ctLdraw
    fLdraw := fun_mk (st := sLdraw) lLdraw qLdraw kLdraw
    bLdraw := (fun_mk (st := sLdraw) lLdraw qLdraw kLdraw).binds (ps := ["_law_well_here", "_law_size"]) fun _ _ _ _ _ _ us hl => match us, hl with | [_, _], _ => rfl
    gLsizes := PySem.W.mg_of X G aLsizes
    aLsizes := fLsizes
    dLsizes := PySem.W.fnOf "_law_sizes" "_law_sizes" (defArgs sLsizes) (defBody sLsizes) (defScope sLsizes) .none kVLsizes dcLsizes pmLsizes anLsizes cdLsizes ctLsizes
    fLsizes := fun_mk (st := sLsizes) lLsizes qLsizes kLsizes
    bLsizes := (fun_mk (st := sLsizes) lLsizes qLsizes kLsizes).binds (ps := ["_law_well_here", "_law_jars", "_law_most"]) fun _ _ _ _ _ _ us hl => match us, hl with | [_, _, _], _ => rfl
    gLdeed := PySem.W.mg_of X G aLdeed
    aLdeed := fLdeed
    dLdeed := PySem.W.fnOf "_law_deed" "_law_deed" (defArgs sLdeed) (defBody sLdeed) (defScope sLdeed) .none kVLdeed dcLdeed pmLdeed anLdeed cdLdeed ctLdeed
    fLdeed := fun_mk (st := sLdeed) lLdeed qLdeed kLdeed
    bLdeed := (fun_mk (st := sLdeed) lLdeed qLdeed kLdeed).binds (ps := ["_law_well_here", "_law_sizes_here"]) fun _ _ _ _ _ _ us hl => match us, hl with | [_, _], _ => rfl
    gLdeeds := PySem.W.mg_of X G aLdeeds
    aLdeeds := fLdeeds
    dLdeeds := PySem.W.fnOf "_law_deeds" "_law_deeds" (defArgs sLdeeds) (defBody sLdeeds) (defScope sLdeeds) .none kVLdeeds dcLdeeds pmLdeeds anLdeeds cdLdeeds ctLdeeds
    fLdeeds := fun_mk (st := sLdeeds) lLdeeds qLdeeds kLdeeds
    bLdeeds := (fun_mk (st := sLdeeds) lLdeeds qLdeeds kLdeeds).binds (ps := ["_law_well_here", "_law_sizes_here", "_law_most"]) fun _ _ _ _ _ _ us hl => match us, hl with | [_, _, _], _ => rfl
    gLdeedmade := PySem.W.mg_of X G aLdeedmade
    aLdeedmade := fLdeedmade
    dLdeedmade := PySem.W.fnOf "_law_deed_made" "_law_deed_made" (defArgs sLdeedmade) (defBody sLdeedmade) (defScope sLdeedmade) .none kVLdeedmade dcLdeedmade pmLdeedmade anLdeedmade cdLdeedmade ctLdeedmade
    fLdeedmade := fun_mk (st := sLdeedmade) lLdeedmade qLdeedmade kLdeedmade
    bLdeedmade := (fun_mk (st := sLdeedmade) lLdeedmade qLdeedmade kLdeedmade).binds (ps := ["_law_word", "_law_a", "_law_last"]) fun _ _ _ _ _ _ us hl => match us, hl with | [_, _, _], _ => rfl
    gLrow := PySem.W.mg_of X G aLrow
    aLrow := fLrow
    dLrow := PySem.W.fnOf "_law_row" "_law_row" (defArgs sLrow) (defBody sLrow) (defScope sLrow) .none kVLrow dcLrow pmLrow anLrow cdLrow ctLrow
    fLrow := fun_mk (st := sLrow) lLrow qLrow kLrow
    bLrow := (fun_mk (st := sLrow) lLrow qLrow kLrow).binds (ps := ["_law_sizes_here", "_law_deeds_here"]) fun _ _ _ _ _ _ us hl => match us, hl with | [_, _], _ => rfl
    gLstart := PySem.W.mg_of X G aLstart
    aLstart := fLstart
    dLstart := PySem.W.fnOf "_law_start" "_law_start" (defArgs sLstart) (defBody sLstart) (defScope sLstart) .none kVLstart dcLstart pmLstart anLstart cdLstart ctLstart
    fLstart := fun_mk (st := sLstart) lLstart qLstart kLstart
    bLstart := (fun_mk (st := sLstart) lLstart qLstart kLstart).binds (ps := ["_law_well_here", "_law_sizes_here", "_law_shares"]) fun _ _ _ _ _ _ us hl => match us, hl with | [_, _, _], _ => rfl
    gLgreat := PySem.W.mg_of X G aLgreat
    aLgreat := fLgreat
    dLgreat := PySem.W.fnOf "_law_great" "_law_great" (defArgs sLgreat) (defBody sLgreat) (defScope sLgreat) .none kVLgreat dcLgreat pmLgreat anLgreat cdLgreat ctLgreat
    fLgreat := fun_mk (st := sLgreat) lLgreat qLgreat kLgreat
    bLgreat := (fun_mk (st := sLgreat) lLgreat qLgreat kLgreat).binds (ps := ["_law_well_here"]) fun _ _ _ _ _ _ us hl => match us, hl with | [_], _ => rfl
    gLshared := PySem.W.mg_of X G aLshared
    aLshared := fLshared
    dLshared := PySem.W.fnOf "_law_shared" "_law_shared" (defArgs sLshared) (defBody sLshared) (defScope sLshared) .none kVLshared dcLshared pmLshared anLshared cdLshared ctLshared
    fLshared := fun_mk (st := sLshared) lLshared qLshared kLshared
    bLshared := (fun_mk (st := sLshared) lLshared qLshared kLshared).binds (ps := ["_law_one", "_law_other"]) fun _ _ _ _ _ _ us hl => match us, hl with | [_, _], _ => rfl
    gLtimes := PySem.W.mg_of X G aLtimes
    aLtimes := fLtimes
    dLtimes := PySem.W.fnOf "_law_times" "_law_times" (defArgs sLtimes) (defBody sLtimes) (defScope sLtimes) .none kVLtimes dcLtimes pmLtimes anLtimes cdLtimes ctLtimes
    fLtimes := fun_mk (st := sLtimes) lLtimes qLtimes kLtimes
    bLtimes := (fun_mk (st := sLtimes) lLtimes qLtimes kLtimes).binds (ps := ["_law_sizes_here", "_law_deeds_here", "_law_by"]) fun _ _ _ _ _ _ us hl => match us, hl with | [_, _, _], _ => rfl
    gLgreatright := PySem.W.mg_of X G aLgreatright
    aLgreatright := fLgreatright
    dLgreatright := PySem.W.fnOf "_law_great_right" "_law_great_right" (defArgs sLgreatright) (defBody sLgreatright) (defScope sLgreatright) .none kVLgreatright dcLgreatright pmLgreatright anLgreatright cdLgreatright ctLgreatright
    fLgreatright := fun_mk (st := sLgreatright) lLgreatright qLgreatright kLgreatright
    bLgreatright := (fun_mk (st := sLgreatright) lLgreatright qLgreatright kLgreatright).binds (ps := ["_law_well_here", "_law_sizes_here", "_law_deeds_here", "_law_start_here", "_law_shares"]) fun _ _ _ _ _ _ us hl => match us, hl with | [_, _, _, _, _], _ => rfl
    gLoftenright := PySem.W.mg_of X G aLoftenright
    aLoftenright := fLoftenright
    dLoftenright := PySem.W.fnOf "_law_often_right" "_law_often_right" (defArgs sLoftenright) (defBody sLoftenright) (defScope sLoftenright) .none kVLoftenright dcLoftenright pmLoftenright anLoftenright cdLoftenright ctLoftenright
    fLoftenright := fun_mk (st := sLoftenright) lLoftenright qLoftenright kLoftenright
    bLoftenright := (fun_mk (st := sLoftenright) lLoftenright qLoftenright kLoftenright).binds (ps := ["_law_well_here", "_law_sizes_here", "_law_deeds_here", "_law_start_here", "_law_shares"]) fun _ _ _ _ _ _ us hl => match us, hl with | [_, _, _, _, _], _ => rfl
    gLlaterright := PySem.W.mg_of X G aLlaterright
    aLlaterright := fLlaterright
    dLlaterright := PySem.W.fnOf "_law_later_right" "_law_later_right" (defArgs sLlaterright) (defBody sLlaterright) (defScope sLlaterright) .none kVLlaterright dcLlaterright pmLlaterright anLlaterright cdLlaterright ctLlaterright
    fLlaterright := fun_mk (st := sLlaterright) lLlaterright qLlaterright kLlaterright
    bLlaterright := (fun_mk (st := sLlaterright) lLlaterright qLlaterright kLlaterright).binds (ps := ["_law_sizes_here", "_law_deeds_here", "_law_start_here", "_law_shares"]) fun _ _ _ _ _ _ us hl => match us, hl with | [_, _, _, _], _ => rfl
    glaw := PySem.W.mg_of X G alaw
    alaw := fa
    dlaw := PySem.W.fnOf "law" "law" (defArgs slaw) (defBody slaw) (defScope slaw) .none kVlaw dclaw pmlaw anlaw cdlaw ctlaw
    flaw := fun_mk (st := slaw) llaw qlaw klaw
    blaw := (fun_mk (st := slaw) llaw qlaw klaw).binds (ps := ["_law_script"]) fun _ _ _ _ _ _ us hl => match us, hl with | [_], _ => rfl
    lJars := ⟨pgJars, hdJars, poJars, saJars⟩
    kJars := ⟨mkJars, aJarsInit, iJarsInit, kcJars⟩
    nJars_sizes := nJars_sizes
    lPour := ⟨pgPour, hdPour, poPour, saPour⟩
    kPour := ⟨mkPour, aPourInit, iPourInit, kcPour⟩
    nPour_a := nPour_a
    nPour_b := nPour_b
    lPut := ⟨pgPut, hdPut, poPut, saPut⟩
    kPut := ⟨mkPut, aPutInit, iPutInit, kcPut⟩
    nPut_a := nPut_a
    nPut_k := nPut_k
    lDraw := ⟨pgDraw, hdDraw, poDraw, saDraw⟩
    kDraw := ⟨mkDraw, aDrawInit, iDrawInit, kcDraw⟩
    nDraw_a := nDraw_a
    nDraw_k := nDraw_k
    lChange := ⟨pgChange, hdChange, poChange, saChange⟩
    kChange := ⟨mkChange, aChangeInit, iChangeInit, kcChange⟩
    nChange_a := nChange_a
    nChange_b := nChange_b
    lRow := ⟨pgRow, hdRow, poRow, saRow⟩
    kRow := ⟨mkRow, aRowInit, iRowInit, kcRow⟩
    nRow_jars := nRow_jars
    nRow_deeds := nRow_deeds
    yChange := ⟨yaChange, yn, yt, ymChange⟩
    yDraw := ⟨yaDraw, yn, yt, ymDraw⟩
    yPour := ⟨yaPour, yn, yt, ymPour⟩
    yPut := ⟨yaPut, yn, yt, ymPut⟩
    iPour_Put := isPour_Put
    iPour_Draw := isPour_Draw
    iPour_Pour := isPour_Pour
    iPour_Change := isPour_Change
    iPut_Put := isPut_Put
    iPut_Draw := isPut_Draw
    iPut_Pour := isPut_Pour
    iPut_Change := isPut_Change
    iDraw_Put := isDraw_Put
    iDraw_Draw := isDraw_Draw
    iDraw_Pour := isDraw_Pour
    iDraw_Change := isDraw_Change
    iChange_Put := isChange_Put
    iChange_Draw := isChange_Draw
    iChange_Pour := isChange_Pour
    iChange_Change := isChange_Change
    tMOSTJARS := tkMOSTJARS
    cMOSTJARS := PySem.W.mg_of X G gMOSTJARS
    tMOSTDEEDS := tkMOSTDEEDS
    cMOSTDEEDS := PySem.W.mg_of X G gMOSTDEEDS
    tMOSTMUCH := tkMOSTMUCH
    cMOSTMUCH := PySem.W.mg_of X G gMOSTMUCH
    tMOSTTIMES := tkMOSTTIMES
    cMOSTTIMES := PySem.W.mg_of X G gMOSTTIMES
    tMOSTROUNDS := tkMOSTROUNDS
    cMOSTROUNDS := PySem.W.mg_of X G gMOSTROUNDS
    nenumerate := PySem.W.mg_none_of X G zenumerate
    nint := PySem.W.mg_none_of X G zint
    nisinstance := PySem.W.mg_none_of X G zisinstance
    nlen := PySem.W.mg_none_of X G zlen
    nlist := PySem.W.mg_none_of X G zlist
    nmax := PySem.W.mg_none_of X G zmax
    nmin := PySem.W.mg_none_of X G zmin
    nrange := PySem.W.mg_none_of X G zrange
    ntuple := PySem.W.mg_none_of X G ztuple }⟩
theorem walk {l : PySem.W.OpenLaw} {q : Program} {loose : List Str} {XP : (Str → Option Value) → Heap → Prop} {YP : World → Heap → Prop} {d : DefRec} {K : Params → PySem.W.Frag} (hn : l.most = some 63) (hdf : d.params.defaults = [])
    (hY : ∀ (w : World) (h : Heap), YP w h → (K w.params).In h)
    (F : ∀ (w : World) (mg : Str → Option Value) (fa : Addr) (h : Heap), (K w.params).In h → h.Ns mainGlobals mg → mg d.name = some (.ref fa) →
      ∃ fd : FuncData, (∀ (s : Shared) (u : Value), BindsTo s fd ⟨[u], []⟩ [("_law_script", u)]) ∧ ∀ base : Heap, (K w.params).In base → base.Ns mainGlobals mg → FnOk l.prog w (K w.params) mg base CX0 7 fa fd ["_law_script"] (spLaw (K w.params))) :
    PySem.W.WalkO q loose XP YP l.row.toRowW d [] (fun f vs => PySem.call f vs) :=
  L2.walk_of (n := 63) (k := 7) (x := "_law_script") (CX := fun _ => CX0) (sp := fun w => spLaw (K w.params)) hn (by decide) hdf ⟨rfl, by decide, by decide⟩ hY F (fun _ _ a ns hl _ hS => ⟨a, ns, rfl, hS, hl, fun _ => rfl⟩) fun _ _ _ _ _ z => z
end Kp


open PySem PySem.W PyProof.Rows
set_option maxRecDepth 100000 in
set_option maxHeartbeats 0 in
theorem PySem.Challenge.cw_wholedrops_k57_whole_rounds_led_on_and_d_holds : PySem.Challenge.rw_wholedrops_k57_whole_rounds_led_on_and_d.Holds := by
  w_on; o_law; k_head; (case hw => w_witness2)
  k_fill
  refine Kp.walk (l := PySem.Challenge.rw_wholedrops_k57_whole_rounds_led_on_and_d) rfl rfl (fun w h Y => PySem.W.kIn_of Y) ?F
  case F =>
    intro w mg fa h KX G hmg
    refine' Kp.all_mk KX G hmg ?xJars ?xPour ?xPut ?xDraw ?xChange ?xRow ?acheckmuch ?lcheckmuch ?qcheckmuch ?kcheckmuch ?acheckjar ?lcheckjar ?qcheckjar ?kcheckjar ?acheckdeed ?lcheckdeed ?qcheckdeed ?kcheckdeed ?aJarsInit ?iJarsInit ?lJarsInit ?qJarsInit ?kJarsInit ?aPourInit ?iPourInit ?lPourInit ?qPourInit ?kPourInit ?aPutInit ?iPutInit ?lPutInit ?qPutInit ?kPutInit ?aDrawInit ?iDrawInit ?lDrawInit ?qDrawInit ?kDrawInit ?aChangeInit ?iChangeInit ?lChangeInit ?qChangeInit ?kChangeInit ?aRowInit ?iRowInit ?lRowInit ?qRowInit ?kRowInit ?acheckstart ?lcheckstart ?qcheckstart ?kcheckstart ?abehinddeed ?lbehinddeed ?qbehinddeed ?kbehinddeed ?abehindround ?lbehindround ?qbehindround ?kbehindround ?abehind ?lbehind ?qbehind ?kbehind ?wbehind_parts ?wbehind_times ?afate ?lfate ?qfate ?kfate ?wfate_parts ?aLcellat ?lLcellat ?qLcellat ?kLcellat ?aLwell ?lLwell ?qLwell ?kLwell ?aLdraw ?lLdraw ?qLdraw ?kLdraw ?aLsizes ?lLsizes ?qLsizes ?kLsizes ?aLdeed ?lLdeed ?qLdeed ?kLdeed ?aLdeeds ?lLdeeds ?qLdeeds ?kLdeeds ?aLdeedmade ?lLdeedmade ?qLdeedmade ?kLdeedmade ?aLrow ?lLrow ?qLrow ?kLrow ?aLstart ?lLstart ?qLstart ?kLstart ?aLgreat ?lLgreat ?qLgreat ?kLgreat ?aLshared ?lLshared ?qLshared ?kLshared ?aLtimes ?lLtimes ?qLtimes ?kLtimes ?aLgreatright ?lLgreatright ?qLgreatright ?kLgreatright ?aLoftenright ?lLoftenright ?qLoftenright ?kLoftenright ?aLlaterright ?lLlaterright ?qLlaterright ?kLlaterright ?alaw ?llaw ?qlaw ?klaw ?pgJars ?hdJars ?poJars ?saJars ?mkJars ?kcJars ?nJars_sizes ?pgPour ?hdPour ?poPour ?saPour ?mkPour ?kcPour ?nPour_a ?nPour_b ?pgPut ?hdPut ?poPut ?saPut ?mkPut ?kcPut ?nPut_a ?nPut_k ?pgDraw ?hdDraw ?poDraw ?saDraw ?mkDraw ?kcDraw ?nDraw_a ?nDraw_k ?pgChange ?hdChange ?poChange ?saChange ?mkChange ?kcChange ?nChange_a ?nChange_b ?pgRow ?hdRow ?poRow ?saRow ?mkRow ?kcRow ?nRow_jars ?nRow_deeds ?yaChange ?ymChange ?yaDraw ?ymDraw ?yaPour ?ymPour ?yaPut ?ymPut ?yn ?yt ?isPour_Put ?isPour_Draw ?isPour_Pour ?isPour_Change ?isPut_Put ?isPut_Draw ?isPut_Pour ?isPut_Change ?isDraw_Put ?isDraw_Draw ?isDraw_Pour ?isDraw_Change ?isChange_Put ?isChange_Draw ?isChange_Pour ?isChange_Change ?gMOSTJARS ?gMOSTDEEDS ?gMOSTMUCH ?gMOSTTIMES ?gMOSTROUNDS ?zenumerate ?zint ?zisinstance ?zlen ?zlist ?zmax ?zmin ?zrange ?ztuple
    (case xJars => k_is)
    (case xPour => k_is)
    (case xPut => k_is)
    (case xDraw => k_is)
    (case xChange => k_is)
    (case xRow => k_is)
    (case acheckmuch => k_is)
    (case lcheckmuch => k_is)
    (case qcheckmuch => k_is)
    (case kcheckmuch => k_is)
    (case acheckjar => k_is)
    (case lcheckjar => k_is)
    (case qcheckjar => k_is)
    (case kcheckjar => k_is)
    (case acheckdeed => k_is)
    (case lcheckdeed => k_is)
    (case qcheckdeed => k_is)
    (case kcheckdeed => k_is)
    (case aJarsInit => k_is)
    (case iJarsInit => k_is)
    (case lJarsInit => k_is)
    (case qJarsInit => k_is)
    (case kJarsInit => k_is)
    (case aPourInit => k_is)
    (case iPourInit => k_is)
    (case lPourInit => k_is)
    (case qPourInit => k_is)
    (case kPourInit => k_is)
    (case aPutInit => k_is)
    (case iPutInit => k_is)
    (case lPutInit => k_is)
    (case qPutInit => k_is)
    (case kPutInit => k_is)
    (case aDrawInit => k_is)
    (case iDrawInit => k_is)
    (case lDrawInit => k_is)
    (case qDrawInit => k_is)
    (case kDrawInit => k_is)
    (case aChangeInit => k_is)
    (case iChangeInit => k_is)
    (case lChangeInit => k_is)
    (case qChangeInit => k_is)
    (case kChangeInit => k_is)
    (case aRowInit => k_is)
    (case iRowInit => k_is)
    (case lRowInit => k_is)
    (case qRowInit => k_is)
    (case kRowInit => k_is)
    (case acheckstart => k_is)
    (case lcheckstart => k_is)
    (case qcheckstart => k_is)
    (case kcheckstart => k_is)
    (case abehinddeed => k_is)
    (case lbehinddeed => k_is)
    (case qbehinddeed => k_is)
    (case kbehinddeed => k_is)
    (case abehindround => k_is)
    (case lbehindround => k_is)
    (case qbehindround => k_is)
    (case kbehindround => k_is)
    (case abehind => k_is)
    (case lbehind => k_is)
    (case qbehind => k_is)
    (case kbehind => k_is)
    (case wbehind_parts => k_is)
    (case wbehind_times => k_is)
    (case afate => k_is)
    (case lfate => k_is)
    (case qfate => k_is)
    (case kfate => k_is)
    (case wfate_parts => k_is)
    (case aLcellat => k_is)
    (case lLcellat => k_is)
    (case qLcellat => k_is)
    (case kLcellat => k_is)
    (case aLwell => k_is)
    (case lLwell => k_is)
    (case qLwell => k_is)
    (case kLwell => k_is)
    (case aLdraw => k_is)
    (case lLdraw => k_is)
    (case qLdraw => k_is)
    (case kLdraw => k_is)
    (case aLsizes => k_is)
    (case lLsizes => k_is)
    (case qLsizes => k_is)
    (case kLsizes => k_is)
    (case aLdeed => k_is)
    (case lLdeed => k_is)
    (case qLdeed => k_is)
    (case kLdeed => k_is)
    (case aLdeeds => k_is)
    (case lLdeeds => k_is)
    (case qLdeeds => k_is)
    (case kLdeeds => k_is)
    (case aLdeedmade => k_is)
    (case lLdeedmade => k_is)
    (case qLdeedmade => k_is)
    (case kLdeedmade => k_is)
    (case aLrow => k_is)
    (case lLrow => k_is)
    (case qLrow => k_is)
    (case kLrow => k_is)
    (case aLstart => k_is)
    (case lLstart => k_is)
    (case qLstart => k_is)
    (case kLstart => k_is)
    (case aLgreat => k_is)
    (case lLgreat => k_is)
    (case qLgreat => k_is)
    (case kLgreat => k_is)
    (case aLshared => k_is)
    (case lLshared => k_is)
    (case qLshared => k_is)
    (case kLshared => k_is)
    (case aLtimes => k_is)
    (case lLtimes => k_is)
    (case qLtimes => k_is)
    (case kLtimes => k_is)
    (case aLgreatright => k_is)
    (case lLgreatright => k_is)
    (case qLgreatright => k_is)
    (case kLgreatright => k_is)
    (case aLoftenright => k_is)
    (case lLoftenright => k_is)
    (case qLoftenright => k_is)
    (case kLoftenright => k_is)
    (case aLlaterright => k_is)
    (case lLlaterright => k_is)
    (case qLlaterright => k_is)
    (case kLlaterright => k_is)
    (case alaw => k_is)
    (case llaw => k_is)
    (case qlaw => k_is)
    (case klaw => k_is)
    (case pgJars => k_is)
    (case hdJars => k_is)
    (case poJars => k_is)
    (case saJars => k_is)
    (case mkJars => k_is)
    (case kcJars => k_is)
    (case nJars_sizes => k_is)
    (case pgPour => k_is)
    (case hdPour => k_is)
    (case poPour => k_is)
    (case saPour => k_is)
    (case mkPour => k_is)
    (case kcPour => k_is)
    (case nPour_a => k_is)
    (case nPour_b => k_is)
    (case pgPut => k_is)
    (case hdPut => k_is)
    (case poPut => k_is)
    (case saPut => k_is)
    (case mkPut => k_is)
    (case kcPut => k_is)
    (case nPut_a => k_is)
    (case nPut_k => k_is)
    (case pgDraw => k_is)
    (case hdDraw => k_is)
    (case poDraw => k_is)
    (case saDraw => k_is)
    (case mkDraw => k_is)
    (case kcDraw => k_is)
    (case nDraw_a => k_is)
    (case nDraw_k => k_is)
    (case pgChange => k_is)
    (case hdChange => k_is)
    (case poChange => k_is)
    (case saChange => k_is)
    (case mkChange => k_is)
    (case kcChange => k_is)
    (case nChange_a => k_is)
    (case nChange_b => k_is)
    (case pgRow => k_is)
    (case hdRow => k_is)
    (case poRow => k_is)
    (case saRow => k_is)
    (case mkRow => k_is)
    (case kcRow => k_is)
    (case nRow_jars => k_is)
    (case nRow_deeds => k_is)
    (case yaChange => k_is)
    (case ymChange => k_is)
    (case yaDraw => k_is)
    (case ymDraw => k_is)
    (case yaPour => k_is)
    (case ymPour => k_is)
    (case yaPut => k_is)
    (case ymPut => k_is)
    (case yn => k_is)
    (case yt => k_is)
    (case isPour_Put => (exact KpR.kit_cls (by k_is) (by k_is) (by k_is) (by decide)))
    (case isPour_Draw => (exact KpR.kit_cls (by k_is) (by k_is) (by k_is) (by decide)))
    (case isPour_Pour => exact KpR.kit_self (by simp))
    (case isPour_Change => (exact KpR.kit_cls (by k_is) (by k_is) (by k_is) (by decide)))
    (case isPut_Put => exact KpR.kit_self (by simp))
    (case isPut_Draw => (exact KpR.kit_cls (by k_is) (by k_is) (by k_is) (by decide)))
    (case isPut_Pour => (exact KpR.kit_cls (by k_is) (by k_is) (by k_is) (by decide)))
    (case isPut_Change => (exact KpR.kit_cls (by k_is) (by k_is) (by k_is) (by decide)))
    (case isDraw_Put => (exact KpR.kit_cls (by k_is) (by k_is) (by k_is) (by decide)))
    (case isDraw_Draw => exact KpR.kit_self (by simp))
    (case isDraw_Pour => (exact KpR.kit_cls (by k_is) (by k_is) (by k_is) (by decide)))
    (case isDraw_Change => (exact KpR.kit_cls (by k_is) (by k_is) (by k_is) (by decide)))
    (case isChange_Put => (exact KpR.kit_cls (by k_is) (by k_is) (by k_is) (by decide)))
    (case isChange_Draw => (exact KpR.kit_cls (by k_is) (by k_is) (by k_is) (by decide)))
    (case isChange_Pour => (exact KpR.kit_cls (by k_is) (by k_is) (by k_is) (by decide)))
    (case isChange_Change => exact KpR.kit_self (by simp))
    (case gMOSTJARS => k_is)
    (case gMOSTDEEDS => k_is)
    (case gMOSTMUCH => k_is)
    (case gMOSTTIMES => k_is)
    (case gMOSTROUNDS => k_is)
    (case zenumerate => k_is)
    (case zint => k_is)
    (case zisinstance => k_is)
    (case zlen => k_is)
    (case zlist => k_is)
    (case zmax => k_is)
    (case zmin => k_is)
    (case zrange => k_is)
    (case ztuple => k_is)


