import PyProof.Rows.All
import Wide.All
import OpenK.AllK
import Wide.FinOn
import HandS.ForMost
import HandS.Defaults
import HandS.MakeKwOnly
import HandS.IsInst
import HandS.Wide
import HandS.Style
import HandS.Zip
import HandS.Codes
import HandS.OwnEq
import HandS.TupAny
import HandS.TupMul
import HandS.More
import HandS.Exc
import HandS.TryMany
import HandS.ExcInit
import HandS.ExcField
import HandS.ExcIs
import HandS.WordsExc
import HandS.Dict
import HandS.Deep
import KE.KDictDisplayH
import PyProof.InstNe
import PyProof.NeKinds
import HandS.DictComp
import HandS.Property
import HandS.Gcd
import KE.KDictWalk
import HandS.Lambda
import HandS.EndTab
import HandS.EndOwn
import KE.KNestM
import PySem.Challenge.RW_wholedrops_k60_what_is_no_round
set_option Elab.async false
set_option linter.all false
set_option maxRecDepth 100000
set_option maxHeartbeats 4000000
namespace Kp
/-! ### an if whose test is a Bool -/
theorem ifT {c : Bool} {A B : Prop} (hc : c = true) (h : A) : if c = true then A else B := by
  rw [if_pos hc]
  exact h
theorem ifF {c : Bool} {A B : Prop} (hc : c = false) (h : B) : if c = true then A else B := by
  rw [hc, if_neg Bool.false_ne_true]
  exact h
theorem ifD {P A B : Prop} [Decidable P] (h1 : P → A) (h2 : ¬ P → B) : if decide P = true then A else B := by
  by_cases h : P
  · exact ifT (decide_eq_true h) (h1 h)
  · exact ifF (decide_eq_false h) (h2 h)
theorem ifN {P A B : Prop} [Decidable P] (h1 : P → B) (h2 : ¬ P → A) : if (!decide P) = true then A else B := by
  by_cases h : P
  · exact ifF (by rw [decide_eq_true h]; rfl) (h1 h)
  · exact ifT (by rw [decide_eq_false h]; rfl) (h2 h)
/-! ### lists of ints -/
def at0 (l : List Int) (i : Nat) : Int := l.getD i 0
theorem at0_get {l : List Int} {i : Nat} (h : i < l.length) : l[i]? = some (at0 l i) := by
  unfold at0
  rw [List.getD_eq_getElem?_getD, List.getElem?_eq_getElem h]
  rfl
theorem at0_of {l : List Int} {i : Nat} {v : Int} (h : l[i]? = some v) : at0 l i = v := by
  unfold at0
  rw [List.getD_eq_getElem?_getD, h]
  rfl
theorem at0_set {l : List Int} {i j : Nat} {v : Int} (h : i < l.length) : at0 (l.set i v) j = if i = j then v else at0 l j := by
  unfold at0
  rw [List.getD_eq_getElem?_getD, List.getD_eq_getElem?_getD, List.getElem?_set]
  by_cases e : i = j
  · subst e
    simp [h]
  · simp [e]
theorem at0_map {l : List Int} {f : Int → Int} {i : Nat} (h : i < l.length) : at0 (l.map f) i = f (at0 l i) := by
  have := at0_get h
  exact at0_of (by rw [List.getElem?_map, this]; rfl)
theorem ext0 {l m : List Int} (h : l.length = m.length) (e : ∀ i, i < l.length → at0 l i = at0 m i) : l = m := by
  apply List.ext_getElem? 
  intro i
  by_cases hi : i < l.length
  · rw [at0_get hi, at0_get (h ▸ hi), e i hi]
  · rw [List.getElem?_eq_none (by omega), List.getElem?_eq_none (by omega)]
/-! ### the deeds -/
inductive D where
  | pour (a b : Nat) | put (a : Nat) (k : Int) | draw (a : Nat) (k : Int) | change (a b : Nat)
  deriving DecidableEq
/-- what a deed must be for jars of these sizes -/
def D.ok (caps : List Int) : D → Prop
  | .pour a b => a < caps.length ∧ b < caps.length ∧ a ≠ b
  | .put a k => a < caps.length ∧ 1 ≤ k ∧ k ≤ 1000000000000
  | .draw a k => a < caps.length ∧ 1 ≤ k ∧ k ≤ 1000000000000
  | .change a b => a < caps.length ∧ b < caps.length ∧ a ≠ b ∧ at0 caps a = at0 caps b
/-- one deed, as behind_deed reckons it -/
def D.act (caps : List Int) (p : Int) (st : List Int) : D → List Int
  | .pour a b =>
    let m := if at0 caps b * p - at0 st b < at0 st a then at0 caps b * p - at0 st b else at0 st a
    (st.set a (at0 st a - m)).set b (at0 st b + m)
  | .put a k => st.set a (if at0 caps a * p < at0 st a + k * p then at0 caps a * p else at0 st a + k * p)
  | .draw a k => st.set a (if 0 > at0 st a - k * p then 0 else at0 st a - k * p)
  | .change a b => (st.set a (at0 st b)).set b (at0 st a)
def run (caps : List Int) (p : Int) (ds : List D) (st : List Int) : List Int := ds.foldl (D.act caps p) st
def runs (caps : List Int) (p : Int) (ds : List D) : Nat → List Int → List Int
  | 0, st => st
  | n + 1, st => run caps p ds (runs caps p ds n st)
/-- a start that can be -/
structure Stand (caps : List Int) (p : Int) (st : List Int) : Prop where
  len : st.length = caps.length
  lo : ∀ i, i < caps.length → 0 ≤ at0 st i
  hi : ∀ i, i < caps.length → at0 st i ≤ at0 caps i * p
structure Caps (caps : List Int) : Prop where
  l1 : 1 ≤ caps.length
  l6 : caps.length ≤ 6
  lo : ∀ i, i < caps.length → 1 ≤ at0 caps i
  hi : ∀ i, i < caps.length → at0 caps i ≤ 1000000000000
theorem act_len {caps st : List Int} {p : Int} {d : D} : (d.act caps p st).length = st.length := by
  cases d <;> simp [D.act]
theorem act_stand {caps st : List Int} {p : Int} {d : D} (hp : 1 ≤ p) (h : Stand caps p st) (hd : d.ok caps) : Stand caps p (d.act caps p st) := by
  have hl := h.len
  refine ⟨by rw [act_len, hl], ?_, ?_⟩
  all_goals
    intro i hi
    have z0 := h.lo i hi
    have z1 := h.hi i hi
    cases d with
    | pour a b =>
      obtain ⟨ha, hb, hab⟩ := hd
      have a0 := h.lo a ha
      have a1 := h.hi a ha
      have b0 := h.lo b hb
      have b1 := h.hi b hb
      simp only [D.act]
      rw [at0_set (by rw [List.length_set]; omega), at0_set (by omega)]
      by_cases e1 : b = i
      · subst e1
        rw [if_pos rfl]
        split <;> omega
      · rw [if_neg e1]
        by_cases e2 : a = i
        · subst e2
          rw [if_pos rfl]
          split <;> omega
        · rw [if_neg e2]
          omega
    | put a k =>
      obtain ⟨ha, hk, _⟩ := hd
      have a0 := h.lo a ha
      have a1 := h.hi a ha
      have kp : 0 ≤ k * p := Int.mul_nonneg (by omega) (by omega)
      simp only [D.act]
      rw [at0_set (by omega)]
      by_cases e1 : a = i
      · subst e1
        rw [if_pos rfl]
        split <;> omega
      · rw [if_neg e1]
        omega
    | draw a k =>
      obtain ⟨ha, hk, _⟩ := hd
      have a0 := h.lo a ha
      have a1 := h.hi a ha
      have kp : 0 ≤ k * p := Int.mul_nonneg (by omega) (by omega)
      simp only [D.act]
      rw [at0_set (by omega)]
      by_cases e1 : a = i
      · subst e1
        rw [if_pos rfl]
        split <;> omega
      · rw [if_neg e1]
        omega
    | change a b =>
      obtain ⟨ha, hb, hab, hs⟩ := hd
      have a0 := h.lo a ha
      have a1 := h.hi a ha
      have b0 := h.lo b hb
      have b1 := h.hi b hb
      simp only [D.act]
      rw [at0_set (by rw [List.length_set]; omega), at0_set (by omega)]
      by_cases e1 : b = i
      · subst e1
        rw [if_pos rfl]
        rw [hs] at a1
        omega
      · rw [if_neg e1]
        by_cases e2 : a = i
        · subst e2
          rw [if_pos rfl]
          rw [← hs] at b1
          omega
        · rw [if_neg e2]
          omega
theorem run_len {caps : List Int} {p : Int} : ∀ {ds : List D} {st : List Int}, (run caps p ds st).length = st.length
  | [], _ => rfl
  | d :: ds, st => (run_len (ds := ds) (st := d.act caps p st)).trans act_len
theorem run_stand {caps : List Int} {p : Int} (hp : 1 ≤ p) : ∀ {ds : List D} {st : List Int}, Stand caps p st → (∀ d ∈ ds, d.ok caps) → Stand caps p (run caps p ds st)
  | [], _, h, _ => h
  | d :: ds, st, h, hd => run_stand (ds := ds) hp (act_stand hp h (hd d (List.mem_cons_self ..))) fun e he => hd e (List.mem_cons_of_mem _ he)
theorem runs_stand {caps : List Int} {p : Int} (hp : 1 ≤ p) {ds : List D} (hd : ∀ d ∈ ds, d.ok caps) : ∀ {n : Nat} {st : List Int}, Stand caps p st → Stand caps p (runs caps p ds n st)
  | 0, _, h => h
  | n + 1, _, h => run_stand hp (runs_stand hp hd (n := n) h) hd
theorem run_app {caps : List Int} {p : Int} {ds es : List D} {st : List Int} : run caps p (ds ++ es) st = run caps p es (run caps p ds st) := List.foldl_append ..
theorem runs_add {caps : List Int} {p : Int} {ds : List D} : ∀ (m n : Nat) (st : List Int), runs caps p ds m (runs caps p ds n st) = runs caps p ds (n + m) st
  | 0, _, _ => rfl
  | m + 1, n, st => congrArg (run caps p ds) (runs_add m n st)
theorem runs_nil {caps : List Int} {p : Int} : ∀ (n : Nat) (st : List Int), runs caps p [] n st = st
  | 0, _ => rfl
  | n + 1, st => runs_nil n st
theorem run_snoc {caps : List Int} {p : Int} {ds : List D} {d : D} {i : Nat} {st : List Int} (h : ds[i]? = some d) : run caps p (ds.take (i + 1)) st = d.act caps p (run caps p (ds.take i) st) := by
  rw [List.take_add_one, h, run_app]
  rfl
end Kp

namespace Kp
theorem at0_app {l : List Int} {z : Int} {i : Nat} : at0 (l ++ [z]) i = if i < l.length then at0 l i else if i = l.length then z else 0 := by
  unfold at0
  rw [List.getD_eq_getElem?_getD, List.getD_eq_getElem?_getD]
  by_cases h : i < l.length
  · rw [if_pos h, List.getElem?_append_left h]
  · rw [if_neg h, List.getElem?_append_right (by omega)]
    by_cases e : i = l.length
    · subst e
      simp
    · rw [if_neg e, List.getElem?_eq_none (by simp; omega)]
      rfl
/-- sizes that are none too small, none too big -/
def Mid (caps : List Int) : Prop := ∀ c ∈ caps, 1 ≤ c ∧ c ≤ 1000000000000
theorem Mid.nil : Mid [] := fun c h => by cases h
theorem Mid.app {caps : List Int} {z : Int} (h : Mid caps) (h1 : 1 ≤ z) (h2 : z ≤ 1000000000000) : Mid (caps ++ [z]) := fun c hc => by
  rcases List.mem_append.mp hc with q | q
  · exact h c q
  · have : c = z := by simpa using q
    subst this
    exact ⟨h1, h2⟩
theorem at0_mem {l : List Int} {i : Nat} (h : i < l.length) : at0 l i ∈ l := List.mem_of_getElem? (at0_get h)
theorem Mid.set {caps : List Int} {i j : Nat} (h : Mid caps) (hj : j < caps.length) : Mid (caps.set i (at0 caps j)) := fun c hc => by
  rcases List.mem_or_eq_of_mem_set hc with q | q
  · exact h c q
  · rw [q]
    exact h _ (at0_mem hj)
theorem Mid.caps {caps : List Int} (h : Mid caps) (h1 : 1 ≤ caps.length) (h6 : caps.length ≤ 6) : Caps caps :=
  ⟨h1, h6, fun i hi => (h _ (at0_mem hi)).1, fun i hi => (h _ (at0_mem hi)).2⟩
/-- starts as far as they are made -/
structure Part (caps : List Int) (p : Int) (st : List Int) : Prop where
  lo : ∀ i, i < st.length → 0 ≤ at0 st i
  hi : ∀ i, i < st.length → at0 st i ≤ at0 caps i * p
theorem Part.nil {caps : List Int} {p : Int} : Part caps p [] := ⟨fun i h => absurd h (Nat.not_lt_zero _), fun i h => absurd h (Nat.not_lt_zero _)⟩
theorem Part.app {caps st : List Int} {p z : Int} (h : Part caps p st) (h0 : 0 ≤ z) (h1 : z ≤ at0 caps st.length * p) : Part caps p (st ++ [z]) := by
  refine ⟨fun i hi => ?_, fun i hi => ?_⟩
  all_goals
    rw [List.length_append] at hi
    rw [at0_app]
    by_cases q : i < st.length
    · rw [if_pos q]
      first | exact h.lo i q | exact h.hi i q
    · have e : i = st.length := by simp at hi; omega
      subst e
      rw [if_neg q, if_pos rfl]
      first | exact h0 | exact h1
theorem Part.stand {caps st : List Int} {p : Int} (h : Part caps p st) (hl : st.length = caps.length) : Stand caps p st :=
  ⟨hl, fun i hi => h.lo i (by omega), fun i hi => h.hi i (by omega)⟩
/-- the words of the deeds -/
inductive Wd where
  | pour | put | draw | change
  deriving DecidableEq
def sixW : List Wd := [.pour, .pour, .pour, .put, .draw, .change]
theorem unit_ok {n : Nat} (h : n < 6) : 1 ≤ at0 [1, 1, 1, 7, 1000000, 100000000000] n ∧ at0 [1, 1, 1, 7, 1000000, 100000000000] n ≤ 100000000000 := by
  have : ∀ n : Fin 6, 1 ≤ at0 [1, 1, 1, 7, 1000000, 100000000000] n.1 ∧ at0 [1, 1, 1, 7, 1000000, 100000000000] n.1 ≤ 100000000000 := by decide
  exact this ⟨n, h⟩
theorem pick4 {a b c d lo hi : Int} {n : Nat} (h : n < 4) (ha : lo ≤ a ∧ a ≤ hi) (hb : lo ≤ b ∧ b ≤ hi) (hc : lo ≤ c ∧ c ≤ hi) (hd : lo ≤ d ∧ d ≤ hi) : lo ≤ at0 [a, b, c, d] n ∧ at0 [a, b, c, d] n ≤ hi := by
  match n, h with
  | 0, _ => exact ha
  | 1, _ => exact hb
  | 2, _ => exact hc
  | 3, _ => exact hd
theorem pick5 {a b c d e lo hi : Int} {n : Nat} (h : n < 5) (ha : lo ≤ a ∧ a ≤ hi) (hb : lo ≤ b ∧ b ≤ hi) (hc : lo ≤ c ∧ c ≤ hi) (hd : lo ≤ d ∧ d ≤ hi) (he : lo ≤ e ∧ e ≤ hi) : lo ≤ at0 [a, b, c, d, e] n ∧ at0 [a, b, c, d, e] n ≤ hi := by
  match n, h with
  | 0, _ => exact ha
  | 1, _ => exact hb
  | 2, _ => exact hc
  | 3, _ => exact hd
  | 4, _ => exact he
end Kp

namespace Kp
def MidN (b : Int) (caps : List Int) : Prop := ∀ c ∈ caps, 1 ≤ c ∧ c ≤ b
theorem MidN.nil {b : Int} : MidN b [] := fun c h => by cases h
theorem MidN.app {b : Int} {caps : List Int} {z : Int} (h : MidN b caps) (h1 : 1 ≤ z) (h2 : z ≤ b) : MidN b (caps ++ [z]) := fun c hc => by
  rcases List.mem_append.mp hc with q | q
  · exact h c q
  · have : c = z := by simpa using q
    subst this
    exact ⟨h1, h2⟩
theorem MidN.set {b : Int} {caps : List Int} {i j : Nat} (h : MidN b caps) (hj : j < caps.length) : MidN b (caps.set i (at0 caps j)) := fun c hc => by
  rcases List.mem_or_eq_of_mem_set hc with q | q
  · exact h c q
  · rw [q]
    exact h _ (at0_mem hj)
theorem MidN.caps {b : Int} {caps : List Int} (h : MidN b caps) (hb : b ≤ 1000000000000) (h1 : 1 ≤ caps.length) (h6 : caps.length ≤ 6) : Caps caps :=
  ⟨h1, h6, fun i hi => (h _ (at0_mem hi)).1, fun i hi => Int.le_trans (h _ (at0_mem hi)).2 hb⟩
/-- the pour as the law's own walk reckons it -/
def stepL (caps : List Int) (p : Int) (st : List Int) : D → List Int
  | .pour a b =>
    let x := if at0 caps b * p < at0 st a + at0 st b then at0 caps b * p else at0 st a + at0 st b
    (st.set b x).set a (at0 st a + at0 st b - x)
  | .put a k => st.set a (if at0 caps a * p < at0 st a + k * p then at0 caps a * p else at0 st a + k * p)
  | .draw a k => st.set a (if 0 > at0 st a - k * p then 0 else at0 st a - k * p)
  | .change a b => (st.set a (at0 st b)).set b (at0 st a)
theorem stepL_act {caps st : List Int} {p : Int} {d : D} (hl : st.length = caps.length) (ok : d.ok caps) : stepL caps p st d = d.act caps p st := by
  cases d with
  | pour a b =>
    obtain ⟨ha, hb, hab⟩ := ok
    simp only [stepL, D.act]
    apply ext0
    · simp
    · intro i hi
      rw [at0_set (by rw [List.length_set]; omega), at0_set (by omega), at0_set (by rw [List.length_set]; omega), at0_set (by omega)]
      by_cases e1 : a = i
      · by_cases e2 : b = i
        · exact absurd (e1.trans e2.symm) hab
        · rw [if_pos e1, if_neg e2, if_pos e1]
          split <;> split <;> omega
      · by_cases e2 : b = i
        · rw [if_neg e1, if_pos e2, if_pos e2]
          split <;> split <;> omega
        · rw [if_neg e1, if_neg e2, if_neg e2, if_neg e1]
  | put a k => rfl
  | draw a k => rfl
  | change a b => rfl
theorem runs_len {caps : List Int} {p : Int} {ds : List D} : ∀ {n : Nat} {st : List Int}, (runs caps p ds n st).length = st.length
  | 0, _ => rfl
  | n + 1, st => run_len.trans (runs_len (n := n))
end Kp

namespace Kp
/-! ### amounts in finer parts, greater houses -/
def mulL (m : Int) (l : List Int) : List Int := l.map (· * m)
theorem at0_mul {m : Int} {l : List Int} {i : Nat} : at0 (mulL m l) i = at0 l i * m := by
  by_cases h : i < l.length
  · exact at0_map h
  · unfold at0 mulL
    rw [List.getD_eq_getElem?_getD, List.getD_eq_getElem?_getD, List.getElem?_eq_none (by simp; omega), List.getElem?_eq_none (by omega)]
    simp
def D.sc (m : Int) : D → D
  | .pour a b => .pour a b
  | .put a k => .put a (k * m)
  | .draw a k => .draw a (k * m)
  | .change a b => .change a b
theorem lt_mul {x y q : Int} (hq : 0 < q) : x * q < y * q ↔ x < y := ⟨fun h => Int.lt_of_mul_lt_mul_right h (Int.le_of_lt hq), fun h => Int.mul_lt_mul_of_pos_right h hq⟩
theorem min_mul {x y q : Int} (hq : 0 < q) : (if x * q < y * q then x * q else y * q) = (if x < y then x else y) * q := by
  by_cases h : x < y
  · rw [if_pos h, if_pos ((lt_mul hq).mpr h)]
  · rw [if_neg h, if_neg (fun z => h ((lt_mul hq).mp z))]
theorem max_mul {x q : Int} (hq : 0 < q) : (if 0 > x * q then 0 else x * q) = (if 0 > x then 0 else x) * q := by
  have e : x * q < 0 ↔ x < 0 := by
    have := @lt_mul x 0 q hq
    rwa [Int.zero_mul] at this
  by_cases h : 0 > x
  · rw [if_pos h, if_pos (e.mpr h), Int.zero_mul]
  · rw [if_neg h, if_neg (fun z => h (e.mp z))]
theorem act_sc {m p p' q : Int} (e : m * p' = p * q) (hq : 0 < q) {caps st : List Int} {d : D} : (d.sc m).act (mulL m caps) p' (mulL q st) = mulL q (d.act caps p st) := by
  have ec : ∀ x : Int, x * m * p' = x * p * q := fun x => by rw [Int.mul_assoc, e, Int.mul_assoc]
  cases d with
  | pour a b =>
    simp only [D.sc, D.act, at0_mul, ec]
    rw [← Int.sub_mul, min_mul hq]
    unfold mulL
    rw [List.map_set, List.map_set, Int.sub_mul, Int.add_mul]
  | put a k =>
    simp only [D.sc, D.act, at0_mul, ec]
    rw [← Int.add_mul, min_mul hq]
    unfold mulL
    rw [List.map_set]
  | draw a k =>
    simp only [D.sc, D.act, at0_mul, ec]
    rw [← Int.sub_mul, max_mul hq]
    unfold mulL
    rw [List.map_set]
  | change a b =>
    simp only [D.sc, D.act, at0_mul]
    unfold mulL
    rw [List.map_set, List.map_set]
theorem run_sc {m p p' q : Int} (e : m * p' = p * q) (hq : 0 < q) {caps : List Int} : ∀ {ds : List D} {st : List Int}, run (mulL m caps) p' (ds.map (D.sc m)) (mulL q st) = mulL q (run caps p ds st)
  | [], _ => rfl
  | d :: ds, st => by
    show run (mulL m caps) p' (ds.map (D.sc m)) ((d.sc m).act (mulL m caps) p' (mulL q st)) = mulL q (run caps p ds (d.act caps p st))
    rw [act_sc e hq]
    exact run_sc e hq
theorem runs_sc {m p p' q : Int} (e : m * p' = p * q) (hq : 0 < q) {caps : List Int} {ds : List D} : ∀ {n : Nat} {st : List Int}, runs (mulL m caps) p' (ds.map (D.sc m)) n (mulL q st) = mulL q (runs caps p ds n st)
  | 0, _ => rfl
  | n + 1, st => by
    show run (mulL m caps) p' (ds.map (D.sc m)) (runs (mulL m caps) p' (ds.map (D.sc m)) n (mulL q st)) = mulL q (run caps p ds (runs caps p ds n st))
    rw [runs_sc e hq, run_sc e hq]
theorem mulL_one (l : List Int) : mulL 1 l = l := by
  unfold mulL
  simp
theorem sc_one (ds : List D) : ds.map (D.sc 1) = ds := by
  have : D.sc 1 = id := by
    funext d
    cases d <;> simp [D.sc]
  rw [this, List.map_id]
theorem runs_fine {p q : Int} (hq : 0 < q) {caps st : List Int} {ds : List D} {n : Nat} : runs caps (p * q) ds n (mulL q st) = mulL q (runs caps p ds n st) := by
  have := @runs_sc 1 p (p * q) q (by rw [Int.one_mul]) hq caps ds n st
  rw [mulL_one, sc_one] at this
  exact this
theorem runs_wide {p q : Int} (hq : 0 < q) {caps st : List Int} {ds : List D} {n : Nat} : runs (mulL q caps) p (ds.map (D.sc q)) n (mulL q st) = mulL q (runs caps p ds n st) :=
  runs_sc (Int.mul_comm q p) hq
theorem runs_grain {p : Int} {caps st : List Int} {ds : List D} {n : Nat} : runs (mulL p caps) 1 (ds.map (D.sc p)) n st = runs caps p ds n st := by
  have := @runs_sc p p 1 1 rfl (by decide) caps ds n st
  rw [mulL_one, mulL_one] at this
  exact this
theorem stand_fine {caps st : List Int} {p q : Int} (hq : 0 < q) (h : Stand caps p st) : Stand caps (p * q) (mulL q st) := by
  refine ⟨by unfold mulL; rw [List.length_map, h.len], fun i hi => ?_, fun i hi => ?_⟩
  · rw [at0_mul]
    exact Int.mul_nonneg (h.lo i hi) (Int.le_of_lt hq)
  · rw [at0_mul, ← Int.mul_assoc]
    exact Int.mul_le_mul_of_nonneg_right (h.hi i hi) (Int.le_of_lt hq)
theorem stand_wide {caps st : List Int} {p q : Int} (hq : 0 < q) (h : Stand caps p st) : Stand (mulL q caps) p (mulL q st) := by
  have ll : (mulL q caps).length = caps.length := by unfold mulL; rw [List.length_map]
  refine ⟨by rw [ll]; unfold mulL; rw [List.length_map, h.len], fun i hi => ?_, fun i hi => ?_⟩
  · rw [at0_mul]
    exact Int.mul_nonneg (h.lo i (by omega)) (Int.le_of_lt hq)
  · rw [at0_mul, at0_mul, Int.mul_assoc, Int.mul_comm q p, ← Int.mul_assoc]
    exact Int.mul_le_mul_of_nonneg_right (h.hi i (by omega)) (Int.le_of_lt hq)
theorem stand_grain {caps st : List Int} {p : Int} (h : Stand caps p st) : Stand (mulL p caps) 1 st := by
  have ll : (mulL p caps).length = caps.length := by unfold mulL; rw [List.length_map]
  refine ⟨by rw [ll, h.len], fun i hi => h.lo i (by omega), fun i hi => ?_⟩
  rw [at0_mul, Int.mul_one]
  exact h.hi i (by omega)
theorem caps_mul {caps : List Int} {q : Int} (h : Caps caps) (h12 : ∀ i, i < caps.length → at0 caps i ≤ 12) (q1 : 1 ≤ q) (q2 : q ≤ 70000000000) : Caps (mulL q caps) := by
  have ll : (mulL q caps).length = caps.length := by unfold mulL; rw [List.length_map]
  refine ⟨by rw [ll]; exact h.l1, by rw [ll]; exact h.l6, fun i hi => ?_, fun i hi => ?_⟩
  · rw [at0_mul]
    have := Int.mul_le_mul (h.lo i (by omega)) q1 (by decide) (by have := h.lo i (by omega); omega)
    simpa using this
  · rw [at0_mul]
    have := Int.mul_le_mul (h12 i (by omega)) q2 (by omega) (by decide)
    omega
end Kp

namespace Kp
theorem sum_set : ∀ {l : List Int} {i : Nat} {v : Int}, i < l.length → (l.set i v).sum = l.sum - at0 l i + v
  | [], i, v, h => absurd h (Nat.not_lt_zero _)
  | x :: l, 0, v, _ => by
    show v + l.sum = x + l.sum - x + v
    omega
  | x :: l, i + 1, v, h => by
    have ih := sum_set (l := l) (i := i) (v := v) (by simpa using h)
    show x + (l.set i v).sum = x + l.sum - at0 l i + v
    rw [ih]
    omega
def D.isPC : D → Bool
  | .pour _ _ => true
  | .change _ _ => true
  | _ => false
def D.putK : D → Option Int
  | .put _ k => some k
  | _ => none
def D.drawK : D → Option Int
  | .draw _ k => some k
  | _ => none
def D.up (p : Int) : D → Int
  | .put _ k => k * p
  | _ => 0
def D.dn (p : Int) : D → Int
  | .draw _ k => k * p
  | _ => 0
theorem act_sum {caps st : List Int} {p : Int} {d : D} (hp : 1 ≤ p) (h : Stand caps p st) (ok : d.ok caps) : st.sum - d.dn p ≤ (d.act caps p st).sum ∧ (d.act caps p st).sum ≤ st.sum + d.up p := by
  have hl := h.len
  cases d with
  | pour a b =>
    obtain ⟨ha, hb, hab⟩ := ok
    simp only [D.act, D.dn, D.up]
    rw [sum_set (by rw [List.length_set]; omega), sum_set (by omega), at0_set (by omega), if_neg hab]
    omega
  | put a k =>
    obtain ⟨ha, hk, _⟩ := ok
    have a0 := h.lo a ha
    have a1 := h.hi a ha
    have kp : 0 ≤ k * p := Int.mul_nonneg (by omega) (by omega)
    simp only [D.act, D.dn, D.up]
    rw [sum_set (by omega)]
    split <;> omega
  | draw a k =>
    obtain ⟨ha, hk, _⟩ := ok
    have a0 := h.lo a ha
    have kp : 0 ≤ k * p := Int.mul_nonneg (by omega) (by omega)
    simp only [D.act, D.dn, D.up]
    rw [sum_set (by omega)]
    split <;> omega
  | change a b =>
    obtain ⟨ha, hb, hab, _⟩ := ok
    simp only [D.act, D.dn, D.up]
    rw [sum_set (by rw [List.length_set]; omega), sum_set (by omega), at0_set (by omega), if_neg hab]
    omega
theorem run_sum {caps : List Int} {p : Int} (hp : 1 ≤ p) : ∀ {ds : List D} {st : List Int}, Stand caps p st → (∀ d ∈ ds, d.ok caps) →
    st.sum - (ds.map (D.dn p)).sum ≤ (run caps p ds st).sum ∧ (run caps p ds st).sum ≤ st.sum + (ds.map (D.up p)).sum
  | [], st, _, _ => by
    show st.sum - 0 ≤ st.sum ∧ st.sum ≤ st.sum + 0
    omega
  | d :: ds, st, h, ok => by
    have o1 := ok d (List.mem_cons_self ..)
    have a := act_sum hp h o1
    have b := run_sum (ds := ds) hp (act_stand hp h o1) fun e he => ok e (List.mem_cons_of_mem _ he)
    show st.sum - (d.dn p + (ds.map (D.dn p)).sum) ≤ (run caps p ds (d.act caps p st)).sum ∧ (run caps p ds (d.act caps p st)).sum ≤ st.sum + (d.up p + (ds.map (D.up p)).sum)
    omega
def putsL (ds : List D) : List Int := ds.filterMap D.putK
def drawsL (ds : List D) : List Int := ds.filterMap D.drawK
theorem ups {p : Int} : ∀ ds : List D, (ds.map (D.up p)).sum = p * (putsL ds).sum
  | [] => (Int.mul_zero p).symm
  | d :: ds => by
    have ih := ups (p := p) ds
    show d.up p + (ds.map (D.up p)).sum = p * (putsL (d :: ds)).sum
    rw [ih]
    cases d with
    | put a k =>
      show k * p + p * (putsL ds).sum = p * (k + (putsL ds).sum)
      rw [Int.mul_add, Int.mul_comm k p]
    | pour a b => exact Int.zero_add _
    | draw a k => exact Int.zero_add _
    | change a b => exact Int.zero_add _
theorem dns {p : Int} : ∀ ds : List D, (ds.map (D.dn p)).sum = p * (drawsL ds).sum
  | [] => (Int.mul_zero p).symm
  | d :: ds => by
    have ih := dns (p := p) ds
    show d.dn p + (ds.map (D.dn p)).sum = p * (drawsL (d :: ds)).sum
    rw [ih]
    cases d with
    | draw a k =>
      show k * p + p * (drawsL ds).sum = p * (k + (drawsL ds).sum)
      rw [Int.mul_add, Int.mul_comm k p]
    | pour a b => exact Int.zero_add _
    | put a k => exact Int.zero_add _
    | change a b => exact Int.zero_add _
theorem pc_sums {p : Int} {ds : List D} : ((ds.filter D.isPC).map (D.dn p)).sum = 0 ∧ ((ds.filter D.isPC).map (D.up p)).sum = 0 := by
  induction ds with
  | nil => exact ⟨rfl, rfl⟩
  | cons d ds ih =>
    cases d with
    | pour a b => exact ⟨(Int.zero_add _).trans ih.1, (Int.zero_add _).trans ih.2⟩
    | change a b => exact ⟨(Int.zero_add _).trans ih.1, (Int.zero_add _).trans ih.2⟩
    | put a k => exact ih
    | draw a k => exact ih
theorem runs_pc {caps : List Int} {p : Int} (hp : 1 ≤ p) {ds : List D} (ok : ∀ d ∈ ds, d.ok caps) : ∀ {n : Nat} {st : List Int}, Stand caps p st → (runs caps p (ds.filter D.isPC) n st).sum = st.sum
  | 0, _, _ => rfl
  | n + 1, st, h => by
    have ok' : ∀ d ∈ ds.filter D.isPC, d.ok caps := fun d hd => ok d (List.mem_filter.mp hd).1
    have ih := runs_pc hp ok (n := n) h
    have b := run_sum hp (runs_stand (n := n) hp ok' h) ok'
    have e := pc_sums (p := p) (ds := ds)
    show (run caps p (ds.filter D.isPC) (runs caps p (ds.filter D.isPC) n st)).sum = st.sum
    omega
/-- the jars that a deed names -/
def D.names : D → List Int
  | .pour a b => [(a : Int), (b : Int)]
  | .put a _ => [(a : Int)]
  | .draw a _ => [(a : Int)]
  | .change a b => [(a : Int), (b : Int)]
theorem act_else {caps st : List Int} {p : Int} {d : D} {i : Nat} (hl : st.length = caps.length) (ok : d.ok caps) (h : (i : Int) ∉ d.names) : at0 (d.act caps p st) i = at0 st i := by
  cases d with
  | pour a b =>
    obtain ⟨ha, hb, _⟩ := ok
    simp only [D.names, List.mem_cons, List.not_mem_nil, or_false, not_or] at h
    simp only [D.act]
    rw [at0_set (by rw [List.length_set]; omega), at0_set (by omega), if_neg (by omega), if_neg (by omega)]
  | put a k =>
    obtain ⟨ha, _⟩ := ok
    simp only [D.names, List.mem_cons, List.not_mem_nil, or_false] at h
    simp only [D.act]
    rw [at0_set (by omega), if_neg (by omega)]
  | draw a k =>
    obtain ⟨ha, _⟩ := ok
    simp only [D.names, List.mem_cons, List.not_mem_nil, or_false] at h
    simp only [D.act]
    rw [at0_set (by omega), if_neg (by omega)]
  | change a b =>
    obtain ⟨ha, hb, _⟩ := ok
    simp only [D.names, List.mem_cons, List.not_mem_nil, or_false, not_or] at h
    simp only [D.act]
    rw [at0_set (by rw [List.length_set]; omega), at0_set (by omega), if_neg (by omega), if_neg (by omega)]
theorem run_else {caps : List Int} {p : Int} {i : Nat} : ∀ {ds : List D} {st : List Int}, st.length = caps.length → (∀ d ∈ ds, d.ok caps) → (i : Int) ∉ ds.flatMap D.names → at0 (run caps p ds st) i = at0 st i
  | [], _, _, _, _ => rfl
  | d :: ds, st, hl, ok, h => by
    rw [List.flatMap_cons, List.mem_append, not_or] at h
    have e := run_else (p := p) (ds := ds) (st := d.act caps p st) (i := i) (act_len.trans hl) (fun e he => ok e (List.mem_cons_of_mem _ he)) h.2
    show at0 (run caps p ds (d.act caps p st)) i = at0 st i
    rw [e, act_else hl (ok d (List.mem_cons_self ..)) h.1]
theorem runs_else {caps : List Int} {p : Int} {i : Nat} {ds : List D} (ok : ∀ d ∈ ds, d.ok caps) (h : (i : Int) ∉ ds.flatMap D.names) : ∀ {n : Nat} {st : List Int}, st.length = caps.length → at0 (runs caps p ds n st) i = at0 st i
  | 0, _, _ => rfl
  | n + 1, st, hl => by
    show at0 (run caps p ds (runs caps p ds n st)) i = at0 st i
    rw [run_else (runs_len.trans hl) ok h, runs_else ok h hl]
end Kp

namespace Kp
/-- nowhere more -/
def Below (x y : List Int) : Prop := x.length = y.length ∧ ∀ i, i < x.length → at0 x i ≤ at0 y i
theorem act_below {caps x y : List Int} {p : Int} {d : D} (hp : 1 ≤ p) (hx : Stand caps p x) (hy : Stand caps p y) (ok : d.ok caps) (h : Below x y) : Below (d.act caps p x) (d.act caps p y) := by
  have lx := hx.len
  have ly := hy.len
  refine ⟨by rw [act_len, act_len, lx, ly], fun i hi => ?_⟩
  rw [act_len] at hi
  have hi0 := h.2 i hi
  cases d with
  | pour a b =>
    obtain ⟨ha, hb, hab⟩ := ok
    have a0 := h.2 a (by omega)
    have b0 := h.2 b (by omega)
    have xa := hx.hi b hb
    have ya := hy.hi b hb
    simp only [D.act]
    rw [at0_set (by rw [List.length_set]; omega), at0_set (by omega), at0_set (by rw [List.length_set]; omega), at0_set (by omega)]
    by_cases e1 : b = i
    · subst e1
      rw [if_pos rfl, if_pos rfl]
      split <;> split <;> omega
    · rw [if_neg e1, if_neg e1]
      by_cases e2 : a = i
      · subst e2
        rw [if_pos rfl, if_pos rfl]
        split <;> split <;> omega
      · rw [if_neg e2, if_neg e2]
        exact hi0
  | put a k =>
    obtain ⟨ha, hk, _⟩ := ok
    have a0 := h.2 a (by omega)
    simp only [D.act]
    rw [at0_set (by omega), at0_set (by omega)]
    by_cases e1 : a = i
    · subst e1
      rw [if_pos rfl, if_pos rfl]
      split <;> split <;> omega
    · rw [if_neg e1, if_neg e1]
      exact hi0
  | draw a k =>
    obtain ⟨ha, hk, _⟩ := ok
    have a0 := h.2 a (by omega)
    simp only [D.act]
    rw [at0_set (by omega), at0_set (by omega)]
    by_cases e1 : a = i
    · subst e1
      rw [if_pos rfl, if_pos rfl]
      split <;> split <;> omega
    · rw [if_neg e1, if_neg e1]
      exact hi0
  | change a b =>
    obtain ⟨ha, hb, hab, _⟩ := ok
    have a0 := h.2 a (by omega)
    have b0 := h.2 b (by omega)
    simp only [D.act]
    rw [at0_set (by rw [List.length_set]; omega), at0_set (by omega), at0_set (by rw [List.length_set]; omega), at0_set (by omega)]
    by_cases e1 : b = i
    · rw [if_pos e1, if_pos e1]
      exact a0
    · rw [if_neg e1, if_neg e1]
      by_cases e2 : a = i
      · rw [if_pos e2, if_pos e2]
        exact b0
      · rw [if_neg e2, if_neg e2]
        exact hi0
theorem run_below {caps : List Int} {p : Int} (hp : 1 ≤ p) : ∀ {ds : List D} {x y : List Int}, Stand caps p x → Stand caps p y → (∀ d ∈ ds, d.ok caps) → Below x y → Below (run caps p ds x) (run caps p ds y)
  | [], _, _, _, _, _, h => h
  | d :: ds, x, y, hx, hy, ok, h => by
    have od := ok d (List.mem_cons_self ..)
    exact run_below (ds := ds) (x := d.act caps p x) (y := d.act caps p y) hp (act_stand hp hx od) (act_stand hp hy od) (fun e he => ok e (List.mem_cons_of_mem _ he)) (act_below hp hx hy od h)
/-- the differences, by place -/
def difs (x y : List Int) : List Int := List.zipWith (fun a b => ((b - a).natAbs : Int)) x y
theorem difs_len {x y : List Int} (h : x.length = y.length) : (difs x y).length = x.length := by
  unfold difs
  rw [List.length_zipWith]
  omega
theorem difs_set : ∀ {x y : List Int} {i : Nat} {u v : Int}, difs (x.set i u) (y.set i v) = (difs x y).set i ((v - u).natAbs : Int)
  | [], [], _, _, _ => by simp [difs]
  | [], _ :: _, _, _, _ => by simp [difs]
  | _ :: _, [], _, _, _ => by simp [difs]
  | a :: x, b :: y, 0, u, v => by simp [difs]
  | a :: x, b :: y, i + 1, u, v => by
    have := difs_set (x := x) (y := y) (i := i) (u := u) (v := v)
    simp only [difs] at this
    simp [difs, this]
theorem difs_at {x y : List Int} {i : Nat} (hx : i < x.length) (hy : i < y.length) : at0 (difs x y) i = ((at0 y i - at0 x i).natAbs : Int) := by
  refine at0_of ?_
  unfold difs
  rw [List.getElem?_zipWith, at0_get hx, at0_get hy]
def apart (x y : List Int) : Int := (difs x y).sum
theorem apart_set {x y : List Int} {i : Nat} {u v : Int} (e : x.length = y.length) (h : i < x.length) : apart (x.set i u) (y.set i v) = apart x y - ((at0 y i - at0 x i).natAbs : Int) + ((v - u).natAbs : Int) := by
  unfold apart
  rw [difs_set, sum_set (by rw [difs_len e]; exact h), difs_at h (by omega)]
theorem act_apart {caps x y : List Int} {p : Int} {d : D} (hx : Stand caps p x) (hy : Stand caps p y) (ok : d.ok caps) : apart (d.act caps p x) (d.act caps p y) ≤ apart x y := by
  have lx := hx.len
  have ly := hy.len
  have e : x.length = y.length := by omega
  cases d with
  | pour a b =>
    obtain ⟨ha, hb, hab⟩ := ok
    have xa := hx.hi b hb
    have ya := hy.hi b hb
    have xl := hx.lo a ha
    have yl := hy.lo a ha
    simp only [D.act]
    rw [apart_set (by rw [List.length_set, List.length_set]; exact e) (by rw [List.length_set]; omega), apart_set e (by omega), at0_set (by omega), at0_set (by omega), if_neg hab, if_neg hab]
    split <;> split <;> omega
  | put a k =>
    obtain ⟨ha, hk, _⟩ := ok
    have xh := hx.hi a ha
    have yh := hy.hi a ha
    simp only [D.act]
    rw [apart_set e (by omega)]
    split <;> split <;> omega
  | draw a k =>
    obtain ⟨ha, hk, _⟩ := ok
    have xh := hx.lo a ha
    have yh := hy.lo a ha
    simp only [D.act]
    rw [apart_set e (by omega)]
    split <;> split <;> omega
  | change a b =>
    obtain ⟨ha, hb, hab, _⟩ := ok
    simp only [D.act]
    rw [apart_set (by rw [List.length_set, List.length_set]; exact e) (by rw [List.length_set]; omega), apart_set e (by omega), at0_set (by omega), at0_set (by omega), if_neg hab, if_neg hab]
    omega
theorem run_apart {caps : List Int} {p : Int} (hp : 1 ≤ p) : ∀ {ds : List D} {x y : List Int}, Stand caps p x → Stand caps p y → (∀ d ∈ ds, d.ok caps) → apart (run caps p ds x) (run caps p ds y) ≤ apart x y
  | [], _, _, _, _, _ => Int.le_refl _
  | d :: ds, x, y, hx, hy, ok => by
    have od := ok d (List.mem_cons_self ..)
    exact Int.le_trans (run_apart (ds := ds) (x := d.act caps p x) (y := d.act caps p y) hp (act_stand hp hx od) (act_stand hp hy od) (fun e he => ok e (List.mem_cons_of_mem _ he))) (act_apart hx hy od)
/-- the law's own step -/
def stepW (caps : List Int) (p : Int) (st : List Int) : D → List Int
  | .change a b => (st.set a (at0 st b)).set b (at0 st a)
  | .pour a b =>
    let m := if at0 caps b * p < at0 st a + at0 st b then at0 caps b * p else at0 st a + at0 st b
    (st.set b m).set a (at0 st a + at0 st b - at0 (st.set b m) b)
  | .put a k => st.set a (if at0 st a + k * p < at0 caps a * p then at0 st a + k * p else at0 caps a * p)
  | .draw a k => st.set a (if at0 st a - k * p > 0 then at0 st a - k * p else 0)
theorem stepW_act {caps st : List Int} {p : Int} {d : D} (hl : st.length = caps.length) (ok : d.ok caps) : stepW caps p st d = d.act caps p st := by
  cases d with
  | pour a b =>
    obtain ⟨ha, hb, hab⟩ := ok
    simp only [stepW, D.act]
    refine ext0 (by simp) fun i hi => ?_
    have q : at0 (st.set b (if at0 caps b * p < at0 st a + at0 st b then at0 caps b * p else at0 st a + at0 st b)) b = (if at0 caps b * p < at0 st a + at0 st b then at0 caps b * p else at0 st a + at0 st b) := by
      rw [at0_set (by omega), if_pos rfl]
    rw [q, at0_set (by rw [List.length_set]; omega), at0_set (by omega), at0_set (by rw [List.length_set]; omega), at0_set (by omega)]
    by_cases e1 : b = i
    · subst e1
      rw [if_neg hab, if_pos rfl, if_pos rfl]
      split <;> split <;> omega
    · rw [if_neg e1, if_neg e1]
      by_cases e2 : a = i
      · rw [if_pos e2, if_pos e2]
        split <;> split <;> omega
      · rw [if_neg e2, if_neg e2]
  | put a k =>
    simp only [stepW, D.act]
    congr 1
    split <;> split <;> omega
  | draw a k =>
    simp only [stepW, D.act]
    congr 1
    split <;> split <;> omega
  | change a b => rfl
end Kp

/-! Kp: rows done again and again: tails and rings. No Python here. -/
namespace Kp
def it {α : Type} (f : α → α) : Nat → α → α
  | 0, x => x
  | n + 1, x => f (it f n x)
theorem it_add {α : Type} {f : α → α} {x : α} {m : Nat} : ∀ n, it f (m + n) x = it f n (it f m x)
  | 0 => rfl
  | n + 1 => congrArg f (it_add n)
/-- the tail t and the ring n of x, all stands before the first that comes again being different -/
structure Fate {α : Type} (f : α → α) (x : α) (t n : Nat) : Prop where
  pos : 1 ≤ n
  ring : it f (t + n) x = it f t x
  dist : ∀ i j, i < j → j < t + n → it f i x ≠ it f j x
theorem Fate.of_fix {α : Type} {f : α → α} {x : α} {t : Nat} (δ : α → Int) (h1 : f (it f t x) = it f t x) (h2 : ∀ i j, i < j → j ≤ t → δ (it f i x) ≠ δ (it f j x)) : Fate f x t 1 :=
  ⟨Nat.le_refl _, h1, fun i j h k e => h2 i j h (by omega) (congrArg δ e)⟩
/-- so many times a goes into d, rounded up -/
def over (a d : Int) : Int := 0 - (0 - a) / d
theorem over_lo {a d : Int} (hd : 0 < d) : a ≤ over a d * d := by
  have h1 := Int.emod_add_mul_ediv (0 - a) d
  have h2 := Int.emod_nonneg (0 - a) (show d ≠ 0 by omega)
  have h3 := Int.mul_comm ((0 - a) / d) d
  have h4 : over a d * d = 0 - ((0 - a) / d) * d := by unfold over; rw [Int.sub_mul, Int.zero_mul]
  omega
theorem over_hi {a d : Int} (hd : 0 < d) : over a d * d < a + d := by
  have h1 := Int.emod_add_mul_ediv (0 - a) d
  have h2 := Int.emod_lt_of_pos (0 - a) hd
  have h3 := Int.mul_comm ((0 - a) / d) d
  have h4 : over a d * d = 0 - ((0 - a) / d) * d := by unfold over; rw [Int.sub_mul, Int.zero_mul]
  omega
theorem over_pos {a d : Int} (hd : 0 < d) (ha : 0 ≤ a) : 0 ≤ over a d := by
  have h1 := over_lo (a := a) hd
  rcases Int.lt_or_le (over a d) 0 with h | h
  · have := Int.mul_neg_of_neg_of_pos h hd
    omega
  · exact h
/-- what falls by d each time, to nought: how much is left behind k times -/
theorem fall {α : Type} {f : α → α} {x : α} {d : Int} (δ : α → Int) (P : α → Prop) (hd : 0 < d) (p0 : P x) (ps : ∀ y, P y → P (f y)) (hs : ∀ y, P y → δ (f y) = if d < δ y then δ y - d else 0) (h0 : 0 ≤ δ x) : ∀ k : Nat, P (it f k x) ∧ δ (it f k x) = if (k : Int) * d < δ x then δ x - (k : Int) * d else 0
  | 0 => ⟨p0, by
    show δ x = if ((0 : Nat) : Int) * d < δ x then δ x - ((0 : Nat) : Int) * d else 0
    rw [show ((0 : Nat) : Int) * d = 0 from by simp]
    split <;> omega⟩
  | k + 1 => by
    obtain ⟨h1, h2⟩ := fall δ P hd p0 ps hs h0 k
    refine ⟨ps _ h1, ?_⟩
    show δ (f (it f k x)) = _
    rw [hs _ h1, h2]
    have e : ((k + 1 : Nat) : Int) * d = (k : Int) * d + d := by rw [Int.natCast_add, Int.add_mul]; simp
    rw [e]
    by_cases c : (k : Int) * d < δ x
    · rw [if_pos c]
      by_cases c2 : d < δ x - (k : Int) * d
      · rw [if_pos c2, if_pos (by omega)]
        omega
      · rw [if_neg c2, if_neg (by omega)]
    · rw [if_neg c, if_neg (by omega), if_neg (by omega)]
/-- its fate -/
theorem fall_fate {α : Type} {f : α → α} {x : α} {d : Int} (δ : α → Int) (P : α → Prop) (hd : 0 < d) (p0 : P x) (ps : ∀ y, P y → P (f y)) (hs : ∀ y, P y → δ (f y) = if d < δ y then δ y - d else 0) (h0 : 0 ≤ δ x)
    (fix : ∀ y, P y → δ y = 0 → f y = y) : Fate f x (over (δ x) d).toNat 1 := by
  have F := fall δ P hd p0 ps hs h0
  have o0 := over_pos hd h0
  have o1 := over_lo (a := δ x) hd
  have o2 := over_hi (a := δ x) hd
  have oe : (((over (δ x) d).toNat : Nat) : Int) = over (δ x) d := by omega
  refine Fate.of_fix δ (fix _ (F _).1 ?_) ?_
  · rw [(F _).2, oe, if_neg (by omega)]
  · intro i j hij hj e
    rw [(F i).2, (F j).2] at e
    have ij : (i : Int) * d + d ≤ (j : Int) * d := by
      have : ((i + 1 : Nat) : Int) * d ≤ (j : Int) * d := Int.mul_le_mul_of_nonneg_right (by omega) (by omega)
      rw [Int.natCast_add, Int.add_mul] at this
      simpa using this
    have jt : (j : Int) * d ≤ over (δ x) d * d := Int.mul_le_mul_of_nonneg_right (by omega) (by omega)
    rw [if_pos (by omega)] at e
    split at e <;> omega
/-! ### pigeons -/
theorem pigeon : ∀ (m : Nat) (l : List Nat), (∀ x ∈ l, x < m) → l.Nodup → l.length ≤ m
  | 0, [], _, _ => Nat.le_refl _
  | 0, x :: _, h, _ => absurd (h x (List.mem_cons_self ..)) (Nat.not_lt_zero _)
  | m + 1, l, h, nd => by
    have h1 : ∀ x ∈ l.erase m, x < m := fun x hx => by
      have a := h x (List.mem_of_mem_erase hx)
      have b : x ≠ m := fun z => by
        subst z
        exact (List.Nodup.not_mem_erase nd) hx
      omega
    have h2 := pigeon m (l.erase m) h1 (nd.erase _)
    by_cases c : m ∈ l
    · rw [List.length_erase_of_mem c] at h2
      omega
    · rw [List.erase_of_not_mem c] at h2
      omega
theorem it_inj {f : Nat → Nat} {m : Nat} (lt : ∀ i, i < m → f i < m) (inj : ∀ i j, i < m → j < m → f i = f j → i = j) : ∀ (k i j : Nat), i < m → j < m → it f k i = it f k j → i = j
  | 0, _, _, _, _, h => h
  | k + 1, i, j, hi, hj, h => by
    have lk : ∀ (k i : Nat), i < m → it f k i < m := fun k i hi => by
      induction k with
      | zero => exact hi
      | succ k ih => exact lt _ ih
    exact it_inj lt inj k i j hi hj (inj _ _ (lk k i hi) (lk k j hj) h)
theorem it_mul {α : Type} {f : α → α} {x : α} {p : Nat} (h : it f p x = x) : ∀ q, it f (p * q) x = x
  | 0 => rfl
  | q + 1 => by
    rw [Nat.mul_succ, it_add, it_mul h q, h]
/-- a turn of at most six places is over after sixty times -/
theorem sixty {f : Nat → Nat} {m i : Nat} (m6 : m ≤ 6) (lt : ∀ i, i < m → f i < m) (inj : ∀ i j, i < m → j < m → f i = f j → i = j) (hi : i < m) : it f 60 i = i := by
  have lk : ∀ (k : Nat), it f k i < m := fun k => by
    induction k with
    | zero => exact hi
    | succ k ih => exact lt _ ih
  have ex : ∃ a b, a < b ∧ b ≤ 6 ∧ it f a i = it f b i := by
    refine Classical.byContradiction fun no => ?_
    have nd : ((List.range 7).map fun k => it f k i).Nodup := by
      rw [List.nodup_iff_pairwise_ne, List.pairwise_map]
      refine List.Pairwise.imp_of_mem ?_ (List.pairwise_lt_range (n := 7))
      intro a b ha hb hab e
      exact no ⟨a, b, hab, by have := List.mem_range.mp hb; omega, e⟩
    have := pigeon m _ (fun x hx => by obtain ⟨k, _, rfl⟩ := List.mem_map.mp hx; exact lk k) nd
    rw [List.length_map, List.length_range] at this
    omega
  obtain ⟨a, b, hab, b6, e⟩ := ex
  have e1 : it f (b - a) i = i := by
    have : it f b i = it f a (it f (b - a) i) := by rw [← it_add, show b - a + a = b by omega]
    rw [this] at e
    exact (it_inj lt inj a i (it f (b - a) i) hi (lk _) e).symm
  have : b - a = 1 ∨ b - a = 2 ∨ b - a = 3 ∨ b - a = 4 ∨ b - a = 5 ∨ b - a = 6 := by omega
  rcases this with h | h | h | h | h | h <;> rw [h] at e1
  · exact it_mul e1 60
  · exact it_mul e1 30
  · exact it_mul e1 20
  · exact it_mul e1 15
  · exact it_mul e1 12
  · exact it_mul e1 10
end Kp

/-! Kp: the fates of three kinds of rows. No Python here. -/
namespace Kp
theorem runs_it {caps : List Int} {p : Int} {ds : List D} {st : List Int} : ∀ n, runs caps p ds n st = it (run caps p ds) n st
  | 0 => rfl
  | n + 1 => congrArg (run caps p ds) (runs_it n)
theorem over_few {a d : Int} {n : Int} (hd : 0 < d) (h : a ≤ n * d) : over a d ≤ n := by
  have h1 := over_hi (a := a) hd
  rcases Int.lt_or_le n (over a d) with c | c
  · have : (n + 1) * d ≤ over a d * d := Int.mul_le_mul_of_nonneg_right (by omega) (by omega)
    rw [Int.add_mul] at this
    omega
  · exact c
theorem over_three {a d : Int} : over (a * 3) (d * 3) = over a d := by
  unfold over
  have : (0 - a * 3) / (d * 3) = (0 - a) / d := by
    rw [show 0 - a * 3 = (0 - a) * 3 by omega, Int.mul_ediv_mul_of_pos_left _ _ (by decide)]
  rw [this]
/-- how often, at a distance -/
def tailAt (away d : Int) : Int := if away > 0 then over away d else if away ≠ 0 then 1 else 0
/-- one jar, more put in than drawn out -/
theorem up_run {S l s p x : Int} (hp : 1 ≤ p) (l0 : 0 ≤ l) (lS : l ≤ S) (s1 : 1 ≤ s) (x0 : 0 ≤ x) : run [S] p [.put 0 (l + s), .draw 0 l] [x] = [if (S - l) * p < x + s * p then (S - l) * p else x + s * p] := by
  have e1 : (l + s) * p = l * p + s * p := Int.add_mul ..
  have e2 : (S - l) * p = S * p - l * p := Int.sub_mul ..
  have h1 : 0 ≤ l * p := Int.mul_nonneg l0 (by omega)
  have h2 : l * p ≤ S * p := Int.mul_le_mul_of_nonneg_right lS (by omega)
  have h3 : 0 ≤ s * p := Int.mul_nonneg (by omega) (by omega)
  show [if 0 > (if S * p < x + (l + s) * p then S * p else x + (l + s) * p) - l * p then 0 else (if S * p < x + (l + s) * p then S * p else x + (l + s) * p) - l * p] = _
  rw [e1, e2]
  congr 1
  by_cases c : S * p < x + (l * p + s * p)
  · rw [if_pos c, if_neg (by omega), if_pos (by omega)]
  · rw [if_neg c, if_neg (by omega), if_neg (by omega)]
    omega
theorem down_run {S l s p x : Int} (hp : 1 ≤ p) (l0 : 0 ≤ l) (lS : l ≤ S) (s1 : 1 ≤ s) (x0 : 0 ≤ x) (xS : x ≤ S * p) : run [S] p [.draw 0 (l + s), .put 0 l] [x] = [if x - s * p < l * p then l * p else x - s * p] := by
  have e1 : (l + s) * p = l * p + s * p := Int.add_mul ..
  have h1 : 0 ≤ l * p := Int.mul_nonneg l0 (by omega)
  have h2 : l * p ≤ S * p := Int.mul_le_mul_of_nonneg_right lS (by omega)
  have h3 : 0 ≤ s * p := Int.mul_nonneg (by omega) (by omega)
  show [if S * p < (if 0 > x - (l + s) * p then 0 else x - (l + s) * p) + l * p then S * p else (if 0 > x - (l + s) * p then 0 else x - (l + s) * p) + l * p] = _
  rw [e1]
  congr 1
  by_cases c : 0 > x - (l * p + s * p)
  · rw [if_pos c, if_neg (by omega), if_pos (by omega)]
    omega
  · rw [if_neg c, if_neg (by omega), if_neg (by omega)]
    omega
theorem up_fate {S l s p x : Int} (hp : 1 ≤ p) (l0 : 0 ≤ l) (lS : l ≤ S) (s1 : 1 ≤ s) (x0 : 0 ≤ x) : Fate (run [S] p [.put 0 (l + s), .draw 0 l]) [x] (tailAt ((S - l) * p - x) (s * p)).toNat 1 := by
  have d0 : 0 < s * p := Int.mul_pos (by omega) (by omega)
  have G0 : 0 ≤ (S - l) * p := Int.mul_nonneg (by omega) (by omega)
  have R : ∀ x, 0 ≤ x → run [S] p [.put 0 (l + s), .draw 0 l] [x] = [if (S - l) * p < x + s * p then (S - l) * p else x + s * p] := fun x h => up_run hp l0 lS s1 h
  generalize (S - l) * p = G at R G0 ⊢
  generalize s * p = d at R d0 ⊢
  unfold tailAt
  by_cases c : G - x > 0
  · rw [if_pos c]
    exact fall_fate (fun st => G - at0 st 0) (fun st => ∃ v, st = [v] ∧ 0 ≤ v ∧ v ≤ G) d0 ⟨x, rfl, x0, by omega⟩ (by
      rintro y ⟨v, rfl, v0, vG⟩
      rw [R v v0]
      exact ⟨_, rfl, by split <;> omega, by split <;> omega⟩) (by
      rintro y ⟨v, rfl, v0, vG⟩
      rw [R v v0]
      show G - (if G < v + d then G else v + d) = if d < G - v then G - v - d else 0
      split <;> split <;> omega) (by show 0 ≤ G - x; omega) (by
      rintro y ⟨v, rfl, v0, vG⟩ e
      have e : G - v = 0 := e
      rw [R v v0]
      congr 1
      split <;> omega)
  · rw [if_neg c]
    by_cases c2 : G - x ≠ 0
    · rw [if_pos c2]
      have e1 : run [S] p [.put 0 (l + s), .draw 0 l] [x] = [G] := by
        rw [R x x0, if_pos (by omega)]
      have e2 : run [S] p [.put 0 (l + s), .draw 0 l] [G] = [G] := by
        rw [R G G0, if_pos (by omega)]
      refine Fate.of_fix (t := 1) (fun st => at0 st 0) ?_ ?_
      · show run _ _ _ (run _ _ _ [x]) = run _ _ _ [x]
        rw [e1, e2]
      · intro i j hi hj
        have h1 : i = 0 := by omega
        have h2 : j = 1 := by omega
        subst h1 h2
        show x ≠ at0 (run [S] p [.put 0 (l + s), .draw 0 l] [x]) 0
        rw [e1]
        show x ≠ G
        omega
    · rw [if_neg c2]
      have e : x = G := by omega
      subst e
      refine Fate.of_fix (t := 0) (fun st => at0 st 0) ?_ (fun i j hi hj => absurd hj (by omega))
      show run _ _ _ [x] = [x]
      rw [R x x0, if_pos (by omega)]
theorem down_fate {S l s p x : Int} (hp : 1 ≤ p) (l0 : 0 ≤ l) (lS : l ≤ S) (s1 : 1 ≤ s) (x0 : 0 ≤ x) (xS : x ≤ S * p) : Fate (run [S] p [.draw 0 (l + s), .put 0 l]) [x] (tailAt (x - l * p) (s * p)).toNat 1 := by
  have d0 : 0 < s * p := Int.mul_pos (by omega) (by omega)
  have G0 : 0 ≤ l * p := Int.mul_nonneg l0 (by omega)
  have GS : l * p ≤ S * p := Int.mul_le_mul_of_nonneg_right lS (by omega)
  have R : ∀ x, 0 ≤ x → x ≤ S * p → run [S] p [.draw 0 (l + s), .put 0 l] [x] = [if x - s * p < l * p then l * p else x - s * p] := fun x h h2 => down_run hp l0 lS s1 h h2
  generalize l * p = G at R G0 GS ⊢
  generalize s * p = d at R d0 ⊢
  generalize S * p = U at R GS xS
  unfold tailAt
  by_cases c : x - G > 0
  · rw [if_pos c]
    exact fall_fate (fun st => at0 st 0 - G) (fun st => ∃ v, st = [v] ∧ G ≤ v ∧ v ≤ U) d0 ⟨x, rfl, by omega, xS⟩ (by
      rintro y ⟨v, rfl, v0, vG⟩
      rw [R v (by omega) vG]
      exact ⟨_, rfl, by split <;> omega, by split <;> omega⟩) (by
      rintro y ⟨v, rfl, v0, vG⟩
      rw [R v (by omega) vG]
      show (if v - d < G then G else v - d) - G = if d < v - G then v - G - d else 0
      split <;> split <;> omega) (by show 0 ≤ x - G; omega) (by
      rintro y ⟨v, rfl, v0, vG⟩ e
      have e : v - G = 0 := e
      rw [R v (by omega) vG]
      congr 1
      split <;> omega)
  · rw [if_neg c]
    by_cases c2 : x - G ≠ 0
    · rw [if_pos c2]
      have e1 : run [S] p [.draw 0 (l + s), .put 0 l] [x] = [G] := by
        rw [R x x0 xS, if_pos (by omega)]
      have e2 : run [S] p [.draw 0 (l + s), .put 0 l] [G] = [G] := by
        rw [R G G0 GS, if_pos (by omega)]
      refine Fate.of_fix (t := 1) (fun st => at0 st 0) ?_ ?_
      · show run _ _ _ (run _ _ _ [x]) = run _ _ _ [x]
        rw [e1, e2]
      · intro i j hi hj
        have h1 : i = 0 := by omega
        have h2 : j = 1 := by omega
        subst h1 h2
        show x ≠ at0 (run [S] p [.draw 0 (l + s), .put 0 l] [x]) 0
        rw [e1]
        show x ≠ G
        omega
    · rw [if_neg c2]
      have e : x = G := by omega
      subst e
      refine Fate.of_fix (t := 0) (fun st => at0 st 0) ?_ (fun i j hi hj => absurd hj (by omega))
      show run _ _ _ [x] = [x]
      rw [R x x0 xS, if_pos (by omega)]
/-- two jars, the one drawn out by little and filled up from the other one -/
theorem pour_fate {W S l p x : Int} (hp : 1 ≤ p) (l1 : 1 ≤ l) (lS : l ≤ S) (x0 : 0 ≤ x) : Fate (run [W, S] p [.draw 1 l, .pour 0 1]) [x, S * p] (over (x + S * p) (l * p)).toNat 1 := by
  have d0 : 0 < l * p := Int.mul_pos (by omega) (by omega)
  have dS : l * p ≤ S * p := Int.mul_le_mul_of_nonneg_right lS (by omega)
  have R : ∀ x y, run [W, S] p [.draw 1 l, .pour 0 1] [x, y] = (let y1 := if 0 > y - l * p then 0 else y - l * p; let m := if S * p - y1 < x then S * p - y1 else x; [x - m, y1 + m]) := fun x y => rfl
  generalize l * p = d at R d0 dS ⊢
  generalize S * p = U at R dS ⊢
  refine fall_fate (fun st => at0 st 0 + at0 st 1) (fun st => ∃ x y, st = [x, y] ∧ 0 ≤ x ∧ 0 ≤ y ∧ y ≤ U ∧ (y = U ∨ x = 0)) d0 ⟨x, U, rfl, x0, by omega, Int.le_refl _, .inl rfl⟩ ?_ ?_ (by show 0 ≤ x + U; omega) ?_
  · rintro y ⟨a, b, rfl, a0, b0, bU, h⟩
    rw [R a b]
    refine ⟨_, _, rfl, ?_, ?_, ?_, ?_⟩ <;> split <;> split <;> omega
  · rintro y ⟨a, b, rfl, a0, b0, bU, h⟩
    rw [R a b]
    show (a - _) + (_ + _) = if d < a + b then a + b - d else 0
    split <;> split <;> split <;> omega
  · rintro y ⟨a, b, rfl, a0, b0, bU, h⟩ e
    have e : a + b = 0 := e
    have ea : a = 0 := by omega
    have eb : b = 0 := by omega
    subst ea eb
    have e1 : (if 0 > (0 : Int) - d then (0 : Int) else 0 - d) = 0 := if_pos (by omega)
    rw [R 0 0]
    dsimp only
    rw [e1]
    have e2 : (if U - 0 < 0 then U - 0 else (0 : Int)) = 0 := if_neg (by omega)
    rw [e2]
    rfl
/-! ### jars that are changed about -/
def swp (a b i : Nat) : Nat := if i = a then b else if i = b then a else i
def turnOf : List D → Nat → Nat
  | [], i => i
  | .change a b :: ds, i => swp a b (turnOf ds i)
  | _ :: ds, i => turnOf ds i
def D.chg (m : Nat) (d : D) : Prop := ∃ a b, d = .change a b ∧ a < m ∧ b < m
theorem swp_lt {a b i m : Nat} (ha : a < m) (hb : b < m) (hi : i < m) : swp a b i < m := by
  unfold swp
  split
  · exact hb
  · split
    · exact ha
    · exact hi
theorem swp_inj {a b i j : Nat} (h : swp a b i = swp a b j) : i = j := by
  unfold swp at h
  split at h <;> split at h <;> (try split at h) <;> (try split at h) <;> omega
theorem turn_lt {m : Nat} : ∀ {ds : List D} {i : Nat}, (∀ d ∈ ds, d.chg m) → i < m → turnOf ds i < m
  | [], i, _, hi => hi
  | d :: ds, i, h, hi => by
    obtain ⟨a, b, rfl, ha, hb⟩ := h d (List.mem_cons_self ..)
    exact swp_lt ha hb (turn_lt (fun e he => h e (List.mem_cons_of_mem _ he)) hi)
theorem turn_inj {m : Nat} : ∀ {ds : List D} {i j : Nat}, (∀ d ∈ ds, d.chg m) → turnOf ds i = turnOf ds j → i = j
  | [], i, j, _, h => h
  | d :: ds, i, j, hc, h => by
    obtain ⟨a, b, rfl, ha, hb⟩ := hc d (List.mem_cons_self ..)
    exact turn_inj (fun e he => hc e (List.mem_cons_of_mem _ he)) (swp_inj h)
theorem turn_at {caps : List Int} {p : Int} : ∀ {ds : List D} {st : List Int} {i : Nat}, (∀ d ∈ ds, d.chg st.length) → i < st.length → at0 (run caps p ds st) i = at0 st (turnOf ds i)
  | [], st, i, _, _ => rfl
  | d :: ds, st, i, h, hi => by
    obtain ⟨a, b, rfl, ha, hb⟩ := h d (List.mem_cons_self ..)
    have l1 : ((D.change a b).act caps p st).length = st.length := act_len
    have hr : ∀ d ∈ ds, d.chg st.length := fun e he => h e (List.mem_cons_of_mem _ he)
    show at0 (run caps p ds ((D.change a b).act caps p st)) i = at0 st (swp a b (turnOf ds i))
    rw [turn_at (by rw [l1]; exact hr) (by omega)]
    have ht := turn_lt hr hi
    generalize turnOf ds i = k at ht
    simp only [D.act, swp]
    rw [at0_set (by rw [List.length_set]; omega), at0_set (by omega)]
    by_cases e1 : k = a
    · by_cases e2 : k = b
      · subst e1
        subst e2
        simp
      · rw [if_pos e1, if_neg (by omega), if_pos (by omega)]
    · by_cases e2 : k = b
      · rw [if_neg e1, if_pos e2, if_pos (by omega)]
      · rw [if_neg e1, if_neg e2, if_neg (by omega), if_neg (by omega)]
theorem it_comm {α : Type} {f : α → α} {x : α} : ∀ n, it f n (f x) = f (it f n x)
  | 0 => rfl
  | n + 1 => congrArg f (it_comm n)
theorem turns_at {caps : List Int} {p : Int} {ds : List D} {st : List Int} (h : ∀ d ∈ ds, d.chg st.length) : ∀ (n : Nat) {i : Nat}, i < st.length → at0 (it (run caps p ds) n st) i = at0 st (it (turnOf ds) n i)
  | 0, i, _ => rfl
  | n + 1, i, hi => by
    have l : (it (run caps p ds) n st).length = st.length := by rw [← runs_it, runs_len]
    show at0 (run caps p ds (it (run caps p ds) n st)) i = at0 st (turnOf ds (it (turnOf ds) n i))
    rw [turn_at (by rw [l]; exact h) (by omega), turns_at h n (turn_lt h hi), it_comm]
theorem turns_back {caps : List Int} {p : Int} {ds : List D} {st : List Int} (h : ∀ d ∈ ds, d.chg st.length) (m6 : st.length ≤ 6) : it (run caps p ds) 60 st = st := by
  have l : (it (run caps p ds) 60 st).length = st.length := by rw [← runs_it, runs_len]
  refine ext0 l fun i hi => ?_
  rw [turns_at h 60 (by omega), sixty m6 (fun i hi => turn_lt h hi) (fun i j _ _ e => turn_inj h e) (by omega)]
theorem least {P : Nat → Prop} : ∀ n, P n → ∃ m, m ≤ n ∧ P m ∧ ∀ k, k < m → ¬ P k := fun n => by
  induction n using Nat.strongRecOn with
  | ind n ih =>
    intro h
    by_cases c : ∃ k, k < n ∧ P k
    · obtain ⟨k, hk, pk⟩ := c
      obtain ⟨m, h1, h2, h3⟩ := ih k hk pk
      exact ⟨m, by omega, h2, h3⟩
    · exact ⟨n, Nat.le_refl _, h, fun k hk pk => c ⟨k, hk, pk⟩⟩
theorem turn_fate {caps : List Int} {p : Int} {ds : List D} {st : List Int} (h : ∀ d ∈ ds, d.chg st.length) (m6 : st.length ≤ 6) : ∃ n, n ≤ 60 ∧ Fate (run caps p ds) st 0 n ∧ ∀ k, 1 ≤ k → k < n → it (run caps p ds) k st ≠ st := by
  have b := turns_back (caps := caps) (p := p) h m6
  obtain ⟨n, h1, ⟨h2, h3⟩, h4⟩ := least (P := fun n => 1 ≤ n ∧ it (run caps p ds) n st = st) 60 ⟨by decide, b⟩
  refine ⟨n, h1, ⟨h2, by rw [Nat.zero_add]; exact h3, fun i j hij hj e => ?_⟩, fun k k1 k2 e => h4 k k2 ⟨k1, e⟩⟩
  have e2 : it (run caps p ds) (i + (60 - i)) st = it (run caps p ds) (j + (60 - i)) st := by rw [it_add, it_add, e]
  rw [show i + (60 - i) = 60 by omega, show j + (60 - i) = 60 + (j - i) by omega, it_add, b] at e2
  exact h4 (j - i) (by omega) ⟨by omega, e2.symm⟩
end Kp

/-! Kp: small jars: how many stands there are at most, that each start has a fate, and what a fate tells. No Python here. -/
namespace Kp
theorem nodup_le {α : Type} [DecidableEq α] : ∀ (l m : List α), l.Nodup → (∀ a ∈ l, a ∈ m) → l.length ≤ m.length
  | [], m, _, _ => Nat.zero_le _
  | a :: l, m, nd, h => by
    have ha := h a (List.mem_cons_self ..)
    have nd' := List.nodup_cons.mp nd
    have := nodup_le l (m.erase a) nd'.2 (fun b hb => by
      refine (List.mem_erase_of_ne (fun z => ?_)).mpr (h b (List.mem_cons_of_mem _ hb))
      subst z
      exact nd'.1 hb)
    rw [List.length_erase_of_mem ha] at this
    have := List.length_pos_of_mem ha
    simp only [List.length_cons]
    omega
theorem fate_ex {α : Type} [DecidableEq α] {f : α → α} {x : α} (L : List α) (h : ∀ k, it f k x ∈ L) : ∃ t n, Fate f x t n ∧ t + n ≤ L.length := by
  have ex : ∃ n, n ≤ L.length ∧ ∃ i, i < n ∧ it f i x = it f n x := by
    refine Classical.byContradiction fun no => ?_
    have nd : ((List.range (L.length + 1)).map fun k => it f k x).Nodup := by
      rw [List.nodup_iff_pairwise_ne, List.pairwise_map]
      refine List.Pairwise.imp_of_mem ?_ (List.pairwise_lt_range (n := L.length + 1))
      intro a b ha hb hab e
      exact no ⟨b, by have := List.mem_range.mp hb; omega, a, hab, e⟩
    have := nodup_le _ L nd (fun a ha => by obtain ⟨k, _, rfl⟩ := List.mem_map.mp ha; exact h k)
    rw [List.length_map, List.length_range] at this
    omega
  obtain ⟨m, mL, hm⟩ := ex
  obtain ⟨c, cm, ⟨t, tc, e⟩, mn⟩ := least (P := fun n => ∃ i, i < n ∧ it f i x = it f n x) m hm
  refine ⟨t, c - t, ⟨by omega, ?_, fun i j hij hj e2 => mn j (by omega) ⟨i, hij, e2⟩⟩, by omega⟩
  rw [show t + (c - t) = c by omega]
  exact e.symm
theorem Fate.red {α : Type} {f : α → α} {x : α} {t n : Nat} (F : Fate f x t n) : ∀ k : Nat, it f (t + k) x = it f (t + k % n) x := fun k => by
  have n1 := F.pos
  induction k using Nat.strongRecOn with
  | ind k ih =>
    by_cases c : k < n
    · rw [Nat.mod_eq_of_lt c]
    · have e : it f (t + k) x = it f (t + (k - n)) x := by
        rw [show t + k = (t + n) + (k - n) by omega, it_add, F.ring, ← it_add]
      rw [e, ih (k - n) (by omega), ← Nat.mod_eq_sub_mod (by omega)]
/-- two rounds have the same stand just where they are one, or a number of rings apart behind the tail -/
theorem Fate.same {α : Type} {f : α → α} {x : α} {t n : Nat} (F : Fate f x t n) {a b : Nat} (hab : a < b) : it f a x = it f b x ↔ t ≤ a ∧ n ∣ b - a := by
  have n1 := F.pos
  constructor
  · intro e
    by_cases ta : t ≤ a
    · refine ⟨ta, ?_⟩
      have ea := F.red (a - t)
      have eb := F.red (b - t)
      rw [show t + (a - t) = a by omega] at ea
      rw [show t + (b - t) = b by omega] at eb
      have la := Nat.mod_lt (a - t) n1
      have lb := Nat.mod_lt (b - t) n1
      have m : (a - t) % n = (b - t) % n := by
        rcases Nat.lt_trichotomy ((a - t) % n) ((b - t) % n) with h | h | h
        · exact absurd (ea.symm.trans (e.trans eb)) (F.dist _ _ (by omega) (by omega))
        · exact h
        · exact absurd (eb.symm.trans (e.symm.trans ea)) (F.dist _ _ (by omega) (by omega))
      have h1 := Nat.div_add_mod (a - t) n
      have h2 := Nat.div_add_mod (b - t) n
      refine ⟨(b - t) / n - (a - t) / n, ?_⟩
      rw [Nat.mul_sub]
      omega
    · exfalso
      by_cases tb : b < t + n
      · exact F.dist a b hab tb e
      · have eb := F.red (b - t)
        rw [show t + (b - t) = b by omega] at eb
        have lb := Nat.mod_lt (b - t) n1
        exact F.dist a _ (by omega) (by omega) (e.trans eb)
  · rintro ⟨ta, q, hq⟩
    have ea := F.red (a - t)
    have eb := F.red (b - t)
    rw [show t + (a - t) = a by omega] at ea
    rw [show t + (b - t) = b by omega] at eb
    rw [ea, eb]
    have : b - t = (a - t) + n * q := by omega
    rw [this, Nat.add_mul_mod_self_left]
theorem Fate.uniq {α : Type} {f : α → α} {x : α} {t n t2 n2 : Nat} (F : Fate f x t n) (G : Fate f x t2 n2) : t = t2 ∧ n = n2 := by
  have n1 := F.pos
  have n21 := G.pos
  have a := (F.same (a := t2) (b := t2 + n2) (by omega)).mp G.ring.symm
  have b := (G.same (a := t) (b := t + n) (by omega)).mp F.ring.symm
  refine ⟨by omega, Nat.dvd_antisymm ?_ ?_⟩
  · have := a.2
    rwa [Nat.add_sub_cancel_left] at this
  · have := b.2
    rwa [Nat.add_sub_cancel_left] at this
/-! ### the stands of a few small jars -/
/-- what of x the jars that f tells i of hold -/
def gs (φ : List Nat) (x : List Int) (i : Nat) : Int := (List.zipWith (fun f v => if f = i then v else 0) φ x).sum
theorem gs0 {τ : Nat → Nat} {i : Nat} (h : ∀ f, τ f ≠ i) : ∀ {φ : List Nat} {x : List Int}, gs (φ.map τ) x i = 0
  | [], x => by simp [gs]
  | f :: φ, [] => by simp [gs]
  | f :: φ, v :: x => by
    have := gs0 (φ := φ) (x := x) h
    simp only [gs, List.map_cons, List.zipWith_cons_cons, List.sum_cons] at this ⊢
    rw [this, if_neg (h f)]
    rfl
theorem gs1 {τ : Nat → Nat} {i a : Nat} (h : ∀ f, τ f = i ↔ f = a) : ∀ {φ : List Nat} {x : List Int}, gs (φ.map τ) x i = gs φ x a
  | [], x => by simp [gs]
  | f :: φ, [] => by simp [gs]
  | f :: φ, v :: x => by
    have := gs1 (φ := φ) (x := x) h
    simp only [gs, List.map_cons, List.zipWith_cons_cons, List.sum_cons] at this ⊢
    rw [this]
    by_cases c : f = a
    · rw [if_pos c, if_pos ((h f).mpr c)]
    · rw [if_neg c, if_neg (fun z => c ((h f).mp z))]
theorem gs2 {τ : Nat → Nat} {i a b : Nat} (ab : a ≠ b) (h : ∀ f, τ f = i ↔ f = a ∨ f = b) : ∀ {φ : List Nat} {x : List Int}, gs (φ.map τ) x i = gs φ x a + gs φ x b
  | [], x => by simp [gs]
  | f :: φ, [] => by simp [gs]
  | f :: φ, v :: x => by
    have := gs2 (φ := φ) (x := x) ab h
    simp only [gs, List.map_cons, List.zipWith_cons_cons, List.sum_cons] at this ⊢
    rw [this]
    by_cases c : f = a
    · rw [if_pos ((h f).mpr (.inl c)), if_pos c, if_neg (by omega)]
      omega
    · by_cases c2 : f = b
      · rw [if_pos ((h f).mpr (.inr c2)), if_neg c, if_pos c2]
        omega
      · rw [if_neg (fun z => ((h f).mp z).elim c c2), if_neg c, if_neg c2]
        omega
/-- each jar holds what some of the start's jars held, whole jars more or less -/
structure Rep (p : Int) (m : Nat) (x st : List Int) (φ : List Nat) : Prop where
  len : st.length = m
  fl : φ.length = m
  dom : ∀ f ∈ φ, f < m ∨ f = 9
  eq : ∀ i, i < m → ∃ q, at0 st i = gs φ x i + q * p
theorem gs_id : ∀ {x : List Int} {k i : Nat}, gs ((List.range' k x.length)) x (k + i) = at0 x i
  | [], k, i => by simp [gs, at0]
  | v :: x, k, i => by
    have := fun i => gs_id (x := x) (k := k + 1) (i := i)
    simp only [gs, List.length_cons, List.range'_succ, List.zipWith_cons_cons, List.sum_cons] at this ⊢
    cases i with
    | zero =>
      simp only [Nat.add_zero]
      rw [if_pos trivial]
      have z : ∀ (x : List Int) (k j : Nat), k < j → (List.zipWith (fun f v => if f = k then v else 0) (List.range' j x.length) x).sum = 0 := by
        intro x
        induction x with
        | nil => intro k j _; simp
        | cons w x ih =>
          intro k j h
          simp only [List.length_cons, List.range'_succ, List.zipWith_cons_cons, List.sum_cons]
          rw [if_neg (by omega), ih k (j + 1) (by omega)]
          rfl
      rw [z x k (k + 1) (by omega)]
      simp [at0]
    | succ i =>
      have e := this i
      rw [show k + 1 + i = k + (i + 1) by omega] at e
      rw [e, if_neg (by omega)]
      simp [at0]
theorem Rep.start {p : Int} {x : List Int} : Rep p x.length x x (List.range' 0 x.length) :=
  ⟨rfl, List.length_range', fun f hf => by have := List.mem_range'_1.mp hf; omega, fun i hi => ⟨0, by
    have := gs_id (x := x) (k := 0) (i := i)
    rw [Nat.zero_add] at this
    rw [this]
    omega⟩⟩
theorem Rep.act {caps : List Int} {p : Int} {m : Nat} {x st : List Int} {φ : List Nat} {d : D} (m9 : m ≤ 9) (cm : caps.length = m) (ok : d.ok caps) (h : Rep p m x st φ) : ∃ φ', Rep p m x (d.act caps p st) φ' := by
  have hl := h.len
  -- one jar emptied of its group
  have drop : ∀ (a : Nat) (z q : Int), a < m → z = q * p → Rep p m x (st.set a z) (φ.map fun f => if f = a then 9 else f) := fun a z q ha hz =>
    ⟨by rw [List.length_set, hl], by rw [List.length_map, h.fl], fun f hf => by
      obtain ⟨g, hg, rfl⟩ := List.mem_map.mp hf
      by_cases c : g = a
      · rw [if_pos c]; exact .inr rfl
      · rw [if_neg c]; exact h.dom g hg, fun i hi => by
      rw [at0_set (by omega)]
      by_cases c : a = i
      · subst c
        rw [if_pos rfl, gs0 (fun f => by by_cases c : f = a <;> simp [c]; omega)]
        exact ⟨q, by omega⟩
      · rw [if_neg c, gs1 (a := i) (fun f => by by_cases c2 : f = a <;> simp [c2] <;> omega)]
        exact h.eq i hi⟩
  have keep : ∀ (a : Nat) (z q : Int), a < m → z = at0 st a + q * p → Rep p m x (st.set a z) φ := fun a z q ha hz =>
    ⟨by rw [List.length_set, hl], h.fl, h.dom, fun i hi => by
      rw [at0_set (by omega)]
      obtain ⟨r, hr⟩ := h.eq i hi
      by_cases c : a = i
      · subst c
        rw [if_pos rfl]
        exact ⟨r + q, by rw [Int.add_mul]; omega⟩
      · rw [if_neg c]
        exact ⟨r, hr⟩⟩
  have move : ∀ (a b : Nat) (za zb qa qb : Int), a < m → b < m → a ≠ b → za = qa * p → zb = at0 st a + at0 st b + qb * p → ∃ φ', Rep p m x ((st.set a za).set b zb) φ' ∧ Rep p m x ((st.set b zb).set a za) φ' := fun a b za zb qa qb ha hb hab hza hzb => by
    have dom : ∀ f ∈ (φ.map fun f => if f = a then b else f), f < m ∨ f = 9 := fun f hf => by
      obtain ⟨g, hg, rfl⟩ := List.mem_map.mp hf
      by_cases c : g = a
      · rw [if_pos c]; exact .inl hb
      · rw [if_neg c]; exact h.dom g hg
    have eq : ∀ i, i < m → ∃ q, (if b = i then zb else if a = i then za else at0 st i) = gs (φ.map fun f => if f = a then b else f) x i + q * p := fun i hi => by
      by_cases cb : b = i
      · subst cb
        rw [if_pos rfl, gs2 (a := a) (b := b) hab (fun f => by by_cases c : f = a <;> simp [c])]
        obtain ⟨r, hr⟩ := h.eq a ha
        obtain ⟨t, ht⟩ := h.eq b hb
        exact ⟨r + t + qb, by rw [Int.add_mul, Int.add_mul]; omega⟩
      · rw [if_neg cb]
        by_cases ca : a = i
        · subst ca
          rw [if_pos rfl, gs0 (fun f => by by_cases c : f = a <;> simp [c]; omega)]
          exact ⟨qa, by omega⟩
        · rw [if_neg ca, gs1 (a := i) (fun f => by by_cases c2 : f = a <;> simp [c2] <;> omega)]
          exact h.eq i hi
    refine ⟨_, ⟨by simp [hl], by simp [h.fl], dom, fun i hi => ?_⟩, ⟨by simp [hl], by simp [h.fl], dom, fun i hi => ?_⟩⟩
    · rw [at0_set (by rw [List.length_set]; omega), at0_set (by omega)]
      exact eq i hi
    · rw [at0_set (by rw [List.length_set]; omega), at0_set (by omega)]
      have := eq i hi
      by_cases ca : a = i
      · rw [if_pos ca]
        rw [if_neg (by omega), if_pos ca] at this
        exact this
      · rw [if_neg ca]
        rw [if_neg ca] at this
        exact this
  cases d with
  | put a k =>
    simp only [D.act]
    by_cases c : at0 caps a * p < at0 st a + k * p
    · rw [if_pos c]
      exact ⟨_, drop a _ (at0 caps a) (by have := ok.1; omega) rfl⟩
    · rw [if_neg c]
      exact ⟨_, keep a _ k (by have := ok.1; omega) rfl⟩
  | draw a k =>
    simp only [D.act]
    by_cases c : 0 > at0 st a - k * p
    · rw [if_pos c]
      exact ⟨_, drop a _ 0 (by have := ok.1; omega) (by omega)⟩
    · rw [if_neg c]
      exact ⟨_, keep a _ (-k) (by have := ok.1; omega) (by rw [Int.neg_mul]; omega)⟩
  | pour a b =>
    obtain ⟨ha, hb, hab⟩ := ok
    simp only [D.act]
    by_cases c : at0 caps b * p - at0 st b < at0 st a
    · rw [if_pos c]
      obtain ⟨φ', _, r⟩ := move b a (at0 st b + (at0 caps b * p - at0 st b)) (at0 st a - (at0 caps b * p - at0 st b)) (at0 caps b) (- at0 caps b) (by omega) (by omega) (Ne.symm hab) (by omega) (by rw [Int.neg_mul]; omega)
      exact ⟨φ', r⟩
    · rw [if_neg c]
      obtain ⟨φ', r, _⟩ := move a b (at0 st a - at0 st a) (at0 st b + at0 st a) 0 0 (by omega) (by omega) hab (by omega) (by omega)
      exact ⟨φ', r⟩
  | change a b =>
    obtain ⟨ha, hb, hab, _⟩ := ok
    refine ⟨φ.map (swp a b), by simp [D.act, hl], by simp [h.fl], fun f hf => ?_, fun i hi => ?_⟩
    · obtain ⟨g, hg, rfl⟩ := List.mem_map.mp hf
      unfold swp
      split
      · exact .inl (by omega)
      · split
        · exact .inl (by omega)
        · exact h.dom g hg
    · simp only [D.act]
      rw [at0_set (by rw [List.length_set]; omega), at0_set (by omega)]
      by_cases c : b = i
      · subst c
        rw [if_pos rfl, gs1 (a := a) (fun f => by unfold swp; constructor <;> (intro z; first | (split at z <;> (try split at z) <;> omega) | (subst z; simp)))]
        exact h.eq a (by omega)
      · rw [if_neg c]
        by_cases c2 : a = i
        · subst c2
          rw [if_pos rfl, gs1 (a := b) (fun f => by unfold swp; constructor <;> (intro z; first | (split at z <;> (try split at z) <;> omega) | (subst z; simp)))]
          · exact h.eq b (by omega)
        · rw [if_neg c2, gs1 (a := i) (fun f => by unfold swp; constructor <;> (intro z; first | (split at z <;> (try split at z) <;> omega) | (subst z; rw [if_neg (by omega), if_neg (by omega)])))]
          exact h.eq i hi
theorem Rep.run {caps : List Int} {p : Int} {m : Nat} {x : List Int} (m9 : m ≤ 9) (cm : caps.length = m) : ∀ {ds : List D} {st : List Int} {φ : List Nat}, (∀ d ∈ ds, d.ok caps) → Rep p m x st φ → ∃ φ', Rep p m x (run caps p ds st) φ'
  | [], st, φ, _, h => ⟨φ, h⟩
  | d :: ds, st, φ, ok, h => by
    obtain ⟨φ1, h1⟩ := h.act m9 cm (ok d (List.mem_cons_self ..))
    exact Rep.run (ds := ds) m9 cm (fun e he => ok e (List.mem_cons_of_mem _ he)) h1
/-- those that hold whole jars alone are told of no jar -/
theorem Rep.norm {p : Int} {m : Nat} {x st : List Int} {φ : List Nat} (m9 : m ≤ 9) (h : Rep p m x st φ) : ∃ φ', Rep p m x st φ' ∧ ∀ i, i < m → i ∈ φ' → gs φ' x i % p ≠ 0 := by
  have g1 : ∀ i, i < m → gs φ x i % p ≠ 0 → gs (φ.map fun f => if gs φ x f % p = 0 then 9 else f) x i = gs φ x i := fun i hi hz => by
    refine gs1 (fun f => ?_)
    by_cases c : gs φ x f % p = 0
    · rw [if_pos c]
      constructor
      · intro z; omega
      · rintro rfl; exact absurd c hz
    · rw [if_neg c]
  have g0 : ∀ i, i < m → gs φ x i % p = 0 → gs (φ.map fun f => if gs φ x f % p = 0 then 9 else f) x i = 0 := fun i hi hz => by
    refine gs0 (fun f => ?_)
    by_cases c : gs φ x f % p = 0
    · rw [if_pos c]; omega
    · rw [if_neg c]
      rintro rfl
      exact c hz
  refine ⟨φ.map fun f => if gs φ x f % p = 0 then 9 else f, ⟨h.len, by rw [List.length_map, h.fl], fun f hf => ?_, fun i hi => ?_⟩, fun i hi hm => ?_⟩
  · obtain ⟨g, hg, rfl⟩ := List.mem_map.mp hf
    by_cases c : gs φ x g % p = 0
    · rw [if_pos c]; exact .inr rfl
    · rw [if_neg c]; exact h.dom g hg
  · obtain ⟨q, hq⟩ := h.eq i hi
    by_cases c : gs φ x i % p = 0
    · rw [g0 i hi c]
      refine ⟨gs φ x i / p + q, ?_⟩
      have := Int.emod_add_mul_ediv (gs φ x i) p
      rw [Int.add_mul, Int.mul_comm (gs φ x i / p) p]
      omega
    · rw [g1 i hi c]
      exact ⟨q, hq⟩
  · obtain ⟨g, hg, e⟩ := List.mem_map.mp hm
    by_cases c : gs φ x g % p = 0
    · rw [if_pos c] at e
      omega
    · rw [if_neg c] at e
      subst e
      rw [g1 g hi c]
      exact c
/-- all lists of n of these -/
def words (A : List Nat) : Nat → List (List Nat)
  | 0 => [[]]
  | n + 1 => A.flatMap fun a => (words A n).map (a :: ·)
theorem mem_words {A : List Nat} : ∀ {n : Nat} {l : List Nat}, l.length = n → (∀ a ∈ l, a ∈ A) → l ∈ words A n
  | 0, l, h, _ => by
    obtain rfl := List.eq_nil_of_length_eq_zero h
    exact List.mem_singleton.mpr rfl
  | n + 1, [], h, _ => by cases h
  | n + 1, a :: l, h, k => List.mem_flatMap.mpr ⟨a, k a (List.mem_cons_self ..), List.mem_map.mpr ⟨l, mem_words (by simpa using h) (fun b hb => k b (List.mem_cons_of_mem _ hb)), rfl⟩⟩
/-- all lists of numbers below these -/
def prods : List Nat → List (List Nat)
  | [] => [[]]
  | b :: bs => (List.range b).flatMap fun a => (prods bs).map (a :: ·)
theorem mem_prods : ∀ {bs l : List Nat}, l.length = bs.length → (∀ (i a b : Nat), l[i]? = some a → bs[i]? = some b → a < b) → l ∈ prods bs
  | [], l, h, _ => by
    obtain rfl := List.eq_nil_of_length_eq_zero h
    exact List.mem_singleton.mpr rfl
  | b :: bs, [], h, _ => by cases h
  | b :: bs, a :: l, h, k => List.mem_flatMap.mpr ⟨a, List.mem_range.mpr (k 0 a b rfl rfl), List.mem_map.mpr ⟨l, mem_prods (by simpa using h) (fun i c d hc hd => k (i + 1) c d (by simpa using hc) (by simpa using hd)), rfl⟩⟩
def codes (m : Nat) : List (List Nat × List Nat) := (words (List.range m ++ [9]) m).flatMap fun φ => (prods ((List.range m).map fun i => if φ.contains i then 6 else 7)).map fun q => (φ, q)
def cand (p : Int) (m : Nat) (x : List Int) (c : List Nat × List Nat) : List Int := (List.range m).map fun i => ((c.2.getD i 0 : Nat) : Int) * p + gs c.1 x i % p
theorem Rep.mem {caps : List Int} {p : Int} {m : Nat} {x st : List Int} {φ : List Nat} (p1 : 1 ≤ p) (m9 : m ≤ 9) (cm : caps.length = m) (c6 : ∀ i, i < m → at0 caps i ≤ 6) (hs : Stand caps p st) (h : Rep p m x st φ) : st ∈ (codes m).map (cand p m x) := by
  obtain ⟨ψ, r, nz⟩ := h.norm m9
  have re : ∀ i, i < m → at0 st i = at0 st i / p * p + gs ψ x i % p := fun i hi => by
    obtain ⟨q, hq⟩ := r.eq i hi
    have e : at0 st i % p = gs ψ x i % p := by rw [hq, Int.add_mul_emod_self_right]
    have := Int.emod_add_mul_ediv (at0 st i) p
    rw [Int.mul_comm (at0 st i / p) p]
    omega
  have q0 : ∀ i, i < m → 0 ≤ at0 st i / p := fun i hi => Int.ediv_nonneg (hs.lo i (by omega)) (by omega)
  have q6 : ∀ i, i < m → at0 st i / p * p ≤ 6 * p - gs ψ x i % p := fun i hi => by
    have h1 := hs.hi i (by omega)
    have h2 : at0 caps i * p ≤ 6 * p := Int.mul_le_mul_of_nonneg_right (c6 i hi) (by omega)
    have := re i hi
    omega
  refine List.mem_map.mpr ⟨(ψ, (List.range m).map fun i => (at0 st i / p).toNat), List.mem_flatMap.mpr ⟨ψ, mem_words r.fl (fun f hf => ?_), List.mem_map.mpr ⟨_, mem_prods (by simp) (fun i a b ha hb => ?_), rfl⟩⟩, ?_⟩
  · rcases r.dom f hf with h | h
    · exact List.mem_append_left _ (List.mem_range.mpr h)
    · exact List.mem_append_right _ (List.mem_singleton.mpr h)
  · rw [List.getElem?_map] at ha hb
    obtain ⟨j, hj, rfl⟩ := Option.map_eq_some_iff.mp ha
    obtain ⟨k, hk, rfl⟩ := Option.map_eq_some_iff.mp hb
    obtain ⟨hi, ej⟩ := List.getElem?_eq_some_iff.mp hj
    obtain ⟨_, ek⟩ := List.getElem?_eq_some_iff.mp hk
    rw [List.getElem_range] at ej ek
    subst ej ek
    rw [List.length_range] at hi
    have a0 := q0 i hi
    have a6 := q6 i hi
    by_cases c : i ∈ ψ
    · have := nz i hi c
      have g0 := Int.emod_nonneg (gs ψ x i) (show p ≠ 0 by omega)
      rw [List.contains_iff_mem.mpr c, if_pos rfl]
      have lt : at0 st i / p < 6 := Int.lt_of_mul_lt_mul_right (a := p) (by omega) (by omega)
      omega
    · have g0 := Int.emod_nonneg (gs ψ x i) (show p ≠ 0 by omega)
      rw [if_neg (fun z => c (List.contains_iff_mem.mp z))]
      have lt : at0 st i / p ≤ 6 := Int.le_of_mul_le_mul_right (a := p) (by omega) (by omega)
      omega
  · refine (ext0 (by unfold cand; simp [h.len]) fun i hi => ?_).symm
    have hi : i < m := by rw [← h.len]; exact hi
    unfold cand
    rw [show at0 ((List.range m).map fun i => (((ψ, (List.range m).map fun i => (at0 st i / p).toNat) : List Nat × List Nat).2.getD i 0 : Nat) * p + gs (ψ, (List.range m).map fun i => (at0 st i / p).toNat).1 x i % p) i = (((List.range m).map fun i => (at0 st i / p).toNat).getD i 0 : Nat) * p + gs ψ x i % p from at0_of (by rw [List.getElem?_map, List.getElem?_range hi]; rfl)]
    rw [List.getD_eq_getElem?_getD, List.getElem?_map, List.getElem?_range hi]
    show at0 st i = ((at0 st i / p).toNat : Int) * p + _
    have := q0 i hi
    rw [show (((at0 st i / p).toNat : Nat) : Int) = at0 st i / p by omega]
    exact re i hi
theorem codes_few {m : Nat} (h : m ≤ 3) : (codes m).length ≤ 20000 := by
  have : ∀ m : Fin 4, (codes m.1).length ≤ 20000 := by decide +kernel
  exact this ⟨m, by omega⟩
theorem it_stand {caps : List Int} {p : Int} {ds : List D} (p1 : 1 ≤ p) (ok : ∀ d ∈ ds, d.ok caps) : ∀ {n : Nat} {st : List Int}, Stand caps p st → Stand caps p (it (run caps p ds) n st)
  | 0, st, h => h
  | n + 1, st, h => by
    have h1 := it_stand p1 ok (n := n) h
    show Stand caps p (run caps p ds (it (run caps p ds) n st))
    generalize it (run caps p ds) n st = st at h1
    clear h
    induction ds generalizing st with
    | nil => exact h1
    | cons d ds ih => exact ih (fun e he => ok e (List.mem_cons_of_mem _ he)) _ (act_stand p1 h1 (ok d (List.mem_cons_self ..)))
/-- each start of two or three small jars has a fate -/
theorem small_fate {caps : List Int} {p : Int} {ds : List D} {st : List Int} (p1 : 1 ≤ p) (m3 : caps.length ≤ 3) (c6 : ∀ i, i < caps.length → at0 caps i ≤ 6) (ok : ∀ d ∈ ds, d.ok caps) (hs : Stand caps p st) : ∃ t n, Fate (run caps p ds) st t n ∧ t + n ≤ 20000 := by
  have rp : ∀ k, ∃ φ, Rep p caps.length st (it (run caps p ds) k st) φ := fun k => by
    induction k with
    | zero =>
      have := Rep.start (p := p) (x := st)
      rw [hs.len] at this
      exact ⟨_, this⟩
    | succ k ih =>
      obtain ⟨φ, h⟩ := ih
      exact Rep.run (by omega) rfl ok h
  obtain ⟨t, n, F, hb⟩ := fate_ex ((codes caps.length).map (cand p caps.length st)) fun k => by
    obtain ⟨φ, h⟩ := rp k
    exact h.mem p1 (by omega) rfl c6 (it_stand p1 ok hs)
  refine ⟨t, n, F, Nat.le_trans hb ?_⟩
  rw [List.length_map]
  exact codes_few m3
end Kp

/-! Kp: a fate begun later, of rows put together, of greater jars and finer parts. No Python here. -/
namespace Kp
theorem it_semi {α β : Type} {f : α → α} {f' : β → β} {g : α → β} (hg : ∀ y, f' (g y) = g (f y)) {x : α} : ∀ k, it f' k (g x) = g (it f k x)
  | 0 => rfl
  | k + 1 => by
    show f' (it f' k (g x)) = g (f (it f k x))
    rw [it_semi hg k, hg]
theorem Fate.semi {α β : Type} {f : α → α} {f' : β → β} {g : α → β} (hg : ∀ y, f' (g y) = g (f y)) (inj : ∀ a b, g a = g b → a = b) {x : α} {t n : Nat} (F : Fate f x t n) : Fate f' (g x) t n :=
  ⟨F.pos, by rw [it_semi hg, it_semi hg, F.ring], fun i j h1 h2 e => F.dist i j h1 h2 (inj _ _ (by rw [← it_semi hg, ← it_semi hg]; exact e))⟩
theorem mulL_inj {q : Int} (hq : 0 < q) : ∀ {l m : List Int}, mulL q l = mulL q m → l = m
  | [], [], _ => rfl
  | [], _ :: _, h => by cases h
  | _ :: _, [], h => by cases h
  | a :: l, b :: m, h => by
    injection h with h1 h2
    rw [Int.eq_of_mul_eq_mul_right (by omega) h1, mulL_inj hq (l := l) (m := m) h2]
theorem Fate.wide {caps st : List Int} {p q : Int} {ds : List D} {t n : Nat} (hq : 0 < q) (F : Fate (run caps p ds) st t n) : Fate (run (mulL q caps) p (ds.map (D.sc q))) (mulL q st) t n :=
  F.semi (g := mulL q) (fun y => run_sc (m := q) (p := p) (p' := p) (q := q) (Int.mul_comm q p) hq) (fun a b => mulL_inj hq)
theorem Fate.fine {caps st : List Int} {p q : Int} {ds : List D} {t n : Nat} (hq : 0 < q) (F : Fate (run caps p ds) st t n) : Fate (run caps (p * q) ds) (mulL q st) t n :=
  F.semi (g := mulL q) (fun y => by
    have := run_sc (m := 1) (p := p) (p' := p * q) (q := q) (by omega) hq (caps := caps) (ds := ds) (st := y)
    rw [mulL_one, sc_one] at this
    exact this) (fun a b => mulL_inj hq)
theorem it_it {α : Type} {f : α → α} {x : α} {k : Nat} : ∀ i, it (it f k) i x = it f (k * i) x
  | 0 => rfl
  | i + 1 => by
    show it f k (it (it f k) i x) = _
    rw [it_it i, ← it_add, Nat.mul_succ]
/-- so many rounds as one -/
theorem Fate.many {α : Type} {f : α → α} {x : α} {t n k : Nat} (hk : 1 ≤ k) (F : Fate f x t n) : Fate (it f k) x ((t + k - 1) / k) (n / Nat.gcd n k) := by
  have n1 := F.pos
  have g1 : 0 < Nat.gcd n k := Nat.gcd_pos_of_pos_left _ n1
  have en : Nat.gcd n k * (n / Nat.gcd n k) = n := Nat.mul_div_cancel' (Nat.gcd_dvd_left n k)
  have ek : Nat.gcd n k * (k / Nat.gcd n k) = k := Nat.mul_div_cancel' (Nat.gcd_dvd_right n k)
  have pos : 1 ≤ n / Nat.gcd n k := Nat.div_pos (Nat.gcd_le_left _ n1) g1
  have hT : t ≤ k * ((t + k - 1) / k) := by
    have h1 := Nat.div_add_mod (t + k - 1) k
    have h2 := Nat.mod_lt (t + k - 1) (show k > 0 by omega)
    omega
  have lowT : ∀ i, t ≤ k * i → (t + k - 1) / k ≤ i := fun i hi => by
    have : (t + k - 1) / k < i + 1 := (Nat.div_lt_iff_lt_mul (by omega)).mpr (by
      rw [Nat.mul_comm, Nat.mul_succ]
      omega)
    omega
  refine ⟨pos, ?_, fun i j hij hj e => ?_⟩
  · rw [it_it, it_it]
    refine ((F.same ?_).mpr ⟨hT, ?_⟩).symm
    · exact Nat.mul_lt_mul_of_pos_left (by omega) (by omega)
    · rw [← Nat.mul_sub, Nat.add_sub_cancel_left]
      refine ⟨k / Nat.gcd n k, ?_⟩
      calc k * (n / Nat.gcd n k) = (Nat.gcd n k * (k / Nat.gcd n k)) * (n / Nat.gcd n k) := by rw [ek]
        _ = (Nat.gcd n k * (n / Nat.gcd n k)) * (k / Nat.gcd n k) := by rw [Nat.mul_assoc, Nat.mul_comm (k / _) (n / _), ← Nat.mul_assoc]
        _ = n * (k / Nat.gcd n k) := by rw [en]
  · rw [it_it, it_it] at e
    obtain ⟨h1, h2⟩ := (F.same (Nat.mul_lt_mul_of_pos_left hij (by omega))).mp e
    have i1 := lowT i h1
    rw [← Nat.mul_sub] at h2
    have h3 : n ∣ Nat.gcd n k * (j - i) := by
      rw [← Nat.gcd_mul_right]
      exact Nat.dvd_gcd ⟨j - i, rfl⟩ h2
    have h4 : n / Nat.gcd n k ∣ j - i := by
      have : Nat.gcd n k * (n / Nat.gcd n k) ∣ Nat.gcd n k * (j - i) := by rw [en]; exact h3
      exact Nat.dvd_of_mul_dvd_mul_left g1 this
    have := Nat.le_of_dvd (by omega) h4
    omega
/-- begun a round later -/
theorem Fate.later {α : Type} {f : α → α} {x : α} {t n : Nat} (F : Fate f x t n) : Fate f (f x) (t - 1) n := by
  have n1 := F.pos
  refine ⟨n1, ?_, fun i j hij hj e => ?_⟩
  · rw [it_comm, it_comm]
    show it f (t - 1 + n + 1) x = it f (t - 1 + 1) x
    refine ((F.same (by omega)).mpr ⟨by omega, ?_⟩).symm
    exact ⟨1, by omega⟩
  · rw [it_comm, it_comm] at e
    have := (F.same (a := i + 1) (b := j + 1) (by omega)).mp e
    have := Nat.le_of_dvd (by omega) this.2
    omega
theorem run_app2 {caps : List Int} {p : Int} {ds es : List D} {st : List Int} : run caps p (ds ++ es) st = run caps p es (run caps p ds st) := by
  unfold run
  rw [List.foldl_append]
theorem run_times {caps : List Int} {p : Int} {ds : List D} : ∀ (k : Nat) {st : List Int}, run caps p (List.replicate k ds).flatten st = it (run caps p ds) k st
  | 0, _ => rfl
  | k + 1, st => by
    rw [List.replicate_succ, List.flatten_cons, run_app2, run_times k, it_comm]
    rfl
theorem Fate.often {caps st : List Int} {p : Int} {ds : List D} {t n k : Nat} (hk : 1 ≤ k) (F : Fate (run caps p ds) st t n) : Fate (run caps p (List.replicate k ds).flatten) st ((t + k - 1) / k) (n / Nat.gcd n k) := by
  have e : run caps p (List.replicate k ds).flatten = it (run caps p ds) k := funext fun st => run_times k
  rw [e]
  exact F.many hk
end Kp

/-! Kp: fates of all starts of a closed list, found one behind the other; their rings' least common multiple is small. No Python here. -/
namespace Kp
section
variable {α : Type} {f : α → α} {x : α} {t n : Nat}
theorem Fate.on (F : Fate f x t n) {k : Nat} (h : t ≤ k) : Fate f (it f k x) 0 n := by
  refine ⟨F.pos, ?_, fun i j hij hj e => ?_⟩
  · show it f (0 + n) (it f k x) = it f k x
    rw [Nat.zero_add, ← it_add]
    exact ((F.same (show k < k + n by have := F.pos; omega)).mpr ⟨h, by rw [Nat.add_sub_cancel_left]; exact Nat.dvd_refl n⟩).symm
  · rw [← it_add, ← it_add] at e
    obtain ⟨_, d⟩ := (F.same (show k + i < k + j by omega)).mp e
    have e2 : k + j - (k + i) = j - i := by omega
    rw [e2] at d
    exact absurd (Nat.le_of_dvd (by omega) d) (by omega)
theorem it_succ (k : Nat) : it f (k + 1) x = it f k (f x) := by
  have := it_add (f := f) (x := x) (m := 1) k
  rw [Nat.add_comm 1 k] at this
  exact this
theorem Fate.pred (F : Fate f (f x) t n) (h : ∀ j, it f j (f x) ≠ x) : Fate f x (t + 1) n := by
  refine ⟨F.pos, ?_, fun i j hij hj e => ?_⟩
  · have e : t + 1 + n = (t + n) + 1 := by omega
    rw [e, it_succ, it_succ]
    exact F.ring
  · obtain ⟨j', rfl⟩ : ∃ j', j = j' + 1 := ⟨j - 1, by omega⟩
    rw [it_succ] at e
    cases i with
    | zero => exact h j' e.symm
    | succ i =>
      rw [it_succ] at e
      exact F.dist i j' (by omega) (by omega) e
end
/-! ### least common multiples -/
def lcmL (l : List Nat) : Nat := l.foldl Nat.lcm 1
theorem lcmL_snoc (l : List Nat) (a : Nat) : lcmL (l ++ [a]) = Nat.lcm (lcmL l) a := by
  unfold lcmL
  rw [List.foldl_append]
  rfl
theorem lcmL_pos : ∀ {l : List Nat}, (∀ a ∈ l, 1 ≤ a) → 1 ≤ lcmL l := by
  intro l
  suffices h : ∀ (l : List Nat) (b : Nat), 1 ≤ b → (∀ a ∈ l, 1 ≤ a) → 1 ≤ l.foldl Nat.lcm b from fun k => h l 1 (Nat.le_refl _) k
  intro l
  induction l with
  | nil => intro b hb _; exact hb
  | cons a r ih =>
    intro b hb h
    exact ih (Nat.lcm b a) (Nat.lcm_pos hb (h a (List.mem_cons_self ..))) fun c hc => h c (List.mem_cons_of_mem _ hc)
theorem dvd_lcmL : ∀ {l : List Nat} {a : Nat}, a ∈ l → a ∣ lcmL l := by
  intro l
  suffices h : ∀ (l : List Nat) (b : Nat), b ∣ l.foldl Nat.lcm b ∧ ∀ a ∈ l, a ∣ l.foldl Nat.lcm b from fun {_} k => (h l 1).2 _ k
  intro l
  induction l with
  | nil => intro b; exact ⟨Nat.dvd_refl _, fun a h => by cases h⟩
  | cons c r ih =>
    intro b
    obtain ⟨h1, h2⟩ := ih (Nat.lcm b c)
    refine ⟨Nat.dvd_trans (Nat.dvd_lcm_left b c) h1, fun a ha => ?_⟩
    rcases List.mem_cons.mp ha with rfl | h
    · exact Nat.dvd_trans (Nat.dvd_lcm_right b a) h1
    · exact h2 a h
theorem lcmL_dvd : ∀ {l : List Nat} {m : Nat}, (∀ a ∈ l, a ∣ m) → lcmL l ∣ m := by
  intro l m
  suffices h : ∀ (l : List Nat) (b : Nat), b ∣ m → (∀ a ∈ l, a ∣ m) → l.foldl Nat.lcm b ∣ m from fun k => h l 1 (Nat.one_dvd _) k
  intro l
  induction l with
  | nil => intro b hb _; exact hb
  | cons c r ih =>
    intro b hb h
    exact ih (Nat.lcm b c) (Nat.lcm_dvd hb (h c (List.mem_cons_self ..))) fun a ha => h a (List.mem_cons_of_mem _ ha)
/-- where the next one makes it no greater, it changes nothing -/
theorem lcm_stay {r a : Nat} (hr : 1 ≤ r) (ha : 1 ≤ a) (h : ¬ r < Nat.lcm r a) : Nat.lcm r a = r :=
  Nat.le_antisymm (by omega) (Nat.le_of_dvd (Nat.lcm_pos hr ha) (Nat.dvd_lcm_left r a))
def prodL (l : List Nat) : Nat := l.foldr (· * ·) 1
theorem dvd_prodL : ∀ {l : List Nat} {a : Nat}, a ∈ l → a ∣ prodL l
  | b :: r, a, h => by
    show a ∣ b * prodL r
    rcases List.mem_cons.mp h with rfl | h
    · exact Nat.dvd_mul_right _ _
    · exact Nat.dvd_trans (dvd_prodL h) (Nat.dvd_mul_left _ _)
theorem le_two {n : Nat} (h : 1 ≤ n) : n ≤ 2 ^ (n - 1) := by
  have := Nat.lt_two_pow_self (n := n - 1)
  omega
theorem prod_two : ∀ {l : List Nat}, (∀ a ∈ l, 1 ≤ a) → prodL l ≤ 2 ^ (l.sum - l.length) ∧ l.length ≤ l.sum ∧ 1 ≤ prodL l
  | [], _ => ⟨Nat.le_refl _, Nat.le_refl _, Nat.le_refl _⟩
  | a :: r, h => by
    obtain ⟨h1, h2, h3⟩ := prod_two (l := r) fun c hc => h c (List.mem_cons_of_mem _ hc)
    have ha := h a (List.mem_cons_self ..)
    have e : (a :: r).sum - (a :: r).length = (a - 1) + (r.sum - r.length) := by
      rw [List.sum_cons, List.length_cons]
      omega
    refine ⟨?_, by rw [List.sum_cons, List.length_cons]; omega, Nat.mul_pos ha h3⟩
    rw [e, Nat.pow_add]
    exact Nat.mul_le_mul (le_two ha) h1
/-! ### distinct rings lie apart -/
section
variable {α : Type} [DecidableEq α] {f : α → α}
def cyc (f : α → α) (y : α) (n : Nat) : List α := (List.range n).map fun i => it f i y
theorem mem_cyc {y z : α} {n : Nat} : z ∈ cyc f y n ↔ ∃ i, i < n ∧ it f i y = z := by
  unfold cyc
  rw [List.mem_map]
  exact ⟨fun ⟨i, h, e⟩ => ⟨i, List.mem_range.mp h, e⟩, fun ⟨i, h, e⟩ => ⟨i, List.mem_range.mpr h, e⟩⟩
theorem cyc_nodup {y : α} {n : Nat} (F : Fate f y 0 n) : (cyc f y n).Nodup := by
  unfold cyc List.Nodup
  rw [List.pairwise_map]
  refine List.Pairwise.imp_of_mem ?_ (List.pairwise_lt_range)
  intro i j hi hj hij e
  exact F.dist i j hij (by rw [Nat.zero_add]; exact List.mem_range.mp hj) e
theorem cyc_fate {y z : α} {n : Nat} (F : Fate f y 0 n) (h : z ∈ cyc f y n) : Fate f z 0 n := by
  obtain ⟨i, _, rfl⟩ := mem_cyc.mp h
  exact F.on (Nat.zero_le _)
/-- rings told so far: distinct ones, each with its stands, all apart -/
structure Rings (f : α → α) (L : List α) (rs : List Nat) (C : List α) : Prop where
  nd : C.Nodup
  sub : ∀ z ∈ C, z ∈ L
  len : C.length = rs.sum
  own : ∀ z ∈ C, ∃ n ∈ rs, Fate f z 0 n
theorem Rings.more {L C : List α} {rs : List Nat} {x : α} {t n : Nat} (R : Rings f L rs C) (hL : ∀ z ∈ L, f z ∈ L) (hx : x ∈ L) (F : Fate f x t n) : ∃ rs' C', Rings f L rs' C' ∧ (∀ a ∈ rs, a ∈ rs') ∧ n ∈ rs' ∧ (∀ a ∈ rs', a ∈ rs ∨ a = n) := by
  by_cases h : n ∈ rs
  · exact ⟨rs, C, R, fun a h => h, h, fun a h => .inl h⟩
  · have inL : ∀ k, it f k x ∈ L := fun k => by
      induction k with
      | zero => exact hx
      | succ k ih =>
        rw [show it f (k + 1) x = f (it f k x) from it_add (f := f) (x := x) (m := k) 1]
        exact hL _ ih
    have F0 := F.on (Nat.le_refl t)
    refine ⟨n :: rs, cyc f (it f t x) n ++ C, ⟨?_, ?_, ?_, ?_⟩, fun a h => List.mem_cons_of_mem _ h, List.mem_cons_self .., fun a ha => ?_⟩
    · rw [List.nodup_append]
      refine ⟨cyc_nodup F0, R.nd, fun a ha b hb e => ?_⟩
      subst e
      obtain ⟨m, hm, G⟩ := R.own a hb
      have := ((cyc_fate F0 ha).uniq G).2
      exact h (this ▸ hm)
    · intro z hz
      rcases List.mem_append.mp hz with k | k
      · obtain ⟨i, _, rfl⟩ := mem_cyc.mp k
        rw [← it_add]
        exact inL _
      · exact R.sub z k
    · rw [List.length_append, R.len, List.sum_cons]
      unfold cyc
      simp
    · intro z hz
      rcases List.mem_append.mp hz with k | k
      · exact ⟨n, List.mem_cons_self .., cyc_fate F0 k⟩
      · obtain ⟨m, hm, G⟩ := R.own z k
        exact ⟨m, List.mem_cons_of_mem _ hm, G⟩
    · rcases List.mem_cons.mp ha with k | k
      · exact .inr k
      · exact .inl k
theorem rings_all {L : List α} (hL : ∀ z ∈ L, f z ∈ L) : ∀ (l : List (α × Nat × Nat)), (∀ e ∈ l, e.1 ∈ L ∧ Fate f e.1 e.2.1 e.2.2) → ∃ rs C, Rings f L rs C ∧ (∀ e ∈ l, e.2.2 ∈ rs) ∧ ∀ a ∈ rs, 1 ≤ a
  | [], _ => ⟨[], [], ⟨List.nodup_nil, (fun z h => by cases h), rfl, (fun z h => by cases h)⟩, (fun e h => by cases h), (fun a h => by cases h)⟩
  | e :: l, h => by
    obtain ⟨rs, C, R, h1, h2⟩ := rings_all hL l fun c hc => h c (List.mem_cons_of_mem _ hc)
    obtain ⟨hx, F⟩ := h e (List.mem_cons_self ..)
    obtain ⟨rs', C', R', k1, k2, k3⟩ := R.more hL hx F
    refine ⟨rs', C', R', fun c hc => ?_, fun a ha => ?_⟩
    · rcases List.mem_cons.mp hc with rfl | hc
      · exact k2
      · exact k1 _ (h1 c hc)
    · rcases k3 a ha with k | rfl
      · exact h2 a k
      · exact F.pos
/-- the least common multiple of the rings of few starts is no great number -/
theorem rings_small {L : List α} (hL : ∀ z ∈ L, f z ∈ L) (few : L.length ≤ 64) (l : List (α × Nat × Nat)) (h : ∀ e ∈ l, e.1 ∈ L ∧ Fate f e.1 e.2.1 e.2.2) : lcmL (l.map fun e => e.2.2) ≤ 2 ^ 63 := by
  obtain ⟨rs, C, R, h1, h2⟩ := rings_all hL l h
  have le := nodup_le C L R.nd R.sub
  obtain ⟨p1, p2, p3⟩ := prod_two h2
  cases rs with
  | nil =>
    have : l = [] := by
      cases l with
      | nil => rfl
      | cons e r => exact absurd (h1 e (List.mem_cons_self ..)) (by simp)
    subst this
    exact Nat.one_le_two_pow
  | cons a r =>
    have d : lcmL (l.map fun e => e.2.2) ∣ prodL (a :: r) := lcmL_dvd fun c hc => by
      obtain ⟨e, he, rfl⟩ := List.mem_map.mp hc
      exact dvd_prodL (h1 e he)
    refine Nat.le_trans (Nat.le_of_dvd p3 d) (Nat.le_trans p1 (Nat.pow_le_pow_right (by decide) ?_))
    have := R.len
    simp only [List.length_cons] at *
    omega
end
end Kp

namespace KpR
open PySem PySem.Spec PyProof.Rows L2
open AutoSeq1 (wpAny_loadPart')
/-! ### xs + ys, each a list that can be read -/
theorem addMeets (l b : Addr) (xs ys : Array Value) (n m : Nat) (sl tl : Array (Option Value)) (hsz : xs.size + ys.size ≤ sizeLine) :
    Meets (Builtin.«list.__add__» ⟨[.ref l, .ref b], []⟩) (fun _ R s =>
      s.heap.get? l = some { cls := .type "list", dict := none, data := .seq xs n, slots := sl } ∧
      s.heap.get? b = some { cls := .type "list", dict := none, data := .seq ys m, slots := tl } ∧
      R (.ok (.ret (.ref s.heap.objs.size))) { s with heap := s.heap.push { cls := .type "list", data := .seq (xs ++ ys) } }) :=
  .of_wp fun prog w A R s h => by
    obtain ⟨hp, g, d, tk, os⟩ := s
    obtain ⟨e1, e2, h⟩ := h
    have z1 := AutoSeq1.idx_int
    have z2 := AutoSeq1.sub_tuple_tuple
    have z3 := AutoSeq1.sub_list_list
    have z4 := AutoSeq1.sub_tuple_list
    have z5 := AutoSeq1.sub_list_tuple
    wp_walk using wpAny_loadPart' e1, wpAny_loadPart' e2
    exact ⟨_, rfl, h⟩
theorem enumNewT (l : Addr) (its : Array Value) (n : Nat) (dct : Option Addr) (sl : Array (Option Value)) :
    Meets (Builtin.«enumerate.__new__» ⟨[.type "enumerate", .ref l], []⟩) (fun _ R s =>
      s.heap.get? l = some { cls := .type "tuple", dict := dct, data := .seq its n, slots := sl } ∧
      R (.ok (.ret (.ref (s.heap.push { cls := .type "tuple_iterator", data := .fields #[.ref l, .int 0 0] }).objs.size)))
        { s with heap := Heap.push (Heap.push s.heap { cls := .type "tuple_iterator", data := .fields #[.ref l, .int 0 0] }) { cls := .type "enumerate", data := .fields #[.none, .bool false, .ref s.heap.objs.size, rawInt 0, .none, .none] } }) :=
  .of_wp fun prog w A R s h => by
    obtain ⟨hp, g, d, tk, os⟩ := s
    obtain ⟨hl, h⟩ := h
    have hsub := sub_enumerate
    have hL : Heap.IsTuple (Shared.heap ⟨hp, g, d, tk, os⟩) l its := ⟨_, hl, rfl, n, rfl⟩
    wp_walk using wpAny_loadPart' hl
    refine wpAny_stack_any fun st => wpAny_pure ?_
    split
    · rename_i c _ _ _ _ _
      cases (c == Value.type "enumerate") <;>
        (wp_walk using wpAny_loadPart' hl, wpAny_pyIter_tuple hL
         exact ⟨_, rfl, h⟩)
    · wp_walk using wpAny_loadPart' hl, wpAny_pyIter_tuple hL
      exact ⟨_, rfl, h⟩
end KpR

namespace KpR
open PySem PySem.Spec PyProof.Rows L2
open AutoSeq1 (wpAny_loadPart')
def rCatR (K : PySem.W.Frag) : R2 := fun x y H Q => ∃ l b xs zs, x = .ref l ∧ y = .ref b ∧ SqL K H l xs ∧ SqL K H b zs ∧ xs.length + zs.length ≤ sizeLine ∧ ∀ q, H q = none → Q (.ref q) (upd H q (.lst (xs ++ zs)))
section
variable {X : Cx}
theorem op_catR : OpR X (binaryOp .Add) (rCatR X.K) := by
  intro pins s σ H x y v u Q I rx ry h
  obtain ⟨l, b, xs, zs, rfl, rfl, h1, h2, hz, q⟩ := h
  cases rx
  cases ry
  obtain ⟨its, r1, p1, _⟩ := I.list h1
  obtain ⟨jts, r2, p2, _⟩ := I.list h2
  obtain ⟨⟨c1, d1, t1, s1⟩, n1, g1, k1, k2, k3⟩ := p1
  obtain ⟨⟨c2, d2, t2, s2⟩, n2, g2, k4, k5, k6⟩ := p2
  cases k1; cases k2; cases k3; cases k4; cases k5; cases k6
  have e1 := r1.length
  have e2 := r2.length
  refine concat_meets ⟨_, g1, rfl⟩ ⟨_, g2, rfl⟩ noFill_list_add seq_list_add F.slot_list_add F.entry_list_add (F.args_list_add_2 _ _)
    (addMeets l b its.toArray jts.toArray n1 n2 s1 s2 (by rw [List.size_toArray, List.size_toArray]; omega)) ⟨g1, g2, ?_⟩
  have ea : its.toArray ++ jts.toArray = (its ++ jts).toArray := by simp
  rw [ea]
  exact ⟨.ref _, _, I.lnew (t' := s.toks) (r1.append r2) (by rw [List.length_append]; omega), rfl, q _ I.fresh⟩
end
/-! ### enumerate(tuple) -/
theorem drawsT {prog : Program} {w : World} {A : Around} (hh : A.handled = none) (it l : Addr) (hne : l ≠ it) (its : Array Value) :
    Draws prog w A it [it, l] its.size (fun i v => its[i]? = some v) (fun i h => h.IsTupleIter it l i ∧ h.IsTuple l its) where
  live := fun _ _ st => by
    obtain ⟨⟨o, ho, _⟩, _⟩ := st
    exact ⟨o, ho⟩
  frame := fun _ _ _ st kp => ⟨st.1.at fun o e => kp it (by simp) o e, st.2.at fun o e => kp l (by simp) o e⟩
  item := fun i s Q E hi st hQ => by
    refine RZ.nextOf_tuple_item st.1 st.2 (x := its[i]) (by simp [hi]) fun h1 hit1 hs1 => ?_
    exact hQ _ h1 s.toks (by simp [hi]) ⟨hit1, st.2.extBut hs1.extBut hne⟩ hs1
  done := fun s Q E st hE => RZ.nextOf_tuple_end hh st.1 st.2 (by simp) hE
section
variable {prog : Program} {w : World} {A : Around} {E : Value → Shared → Prop} {s : Shared}
theorem callEnumT {l : Addr} {its : Array Value} {Q : Value → Shared → Prop} (hL : s.heap.IsTuple l its)
    (h : ∀ h', IsEnum h' (s.heap.objs.size + 1) s.heap.objs.size 0 .none → h'.IsTupleIter s.heap.objs.size l 0 → h'.IsTuple l its →
      (∀ b o, s.heap.get? b = some o → h'.get? b = some o) → Q (.ref (s.heap.objs.size + 1)) { s with heap := h' }) :
    wpAny (model prog w) A (call (.type "enumerate") [.ref l]) Q E s := by
  obtain ⟨⟨c, dct, dt, sl⟩, hl, hc, n, hd⟩ := id hL
  cases hc
  cases hd
  refine callType_new F.called_enumerate (by decide) (F.typeCall_enumerate_1 _) (F.newCall_enumerate_1 _) (fun obj => F.args_object_init_2 obj _) F.entry_enumerate_new
    (enumNewT l its n dct sl) ⟨hl, ?_⟩
  have hz : (s.heap.push { cls := .type "tuple_iterator", data := .fields #[.ref l, .int 0 0] }).objs.size = s.heap.objs.size + 1 := Heap.size_push ..
  show _ ∧ _
  rw [hz]
  have he : IsEnum ((s.heap.push { cls := .type "tuple_iterator", data := .fields #[.ref l, .int 0 0] }).push
      { cls := .type "enumerate", data := .fields #[.none, .bool false, .ref s.heap.objs.size, rawInt 0, .none, .none] }) (s.heap.objs.size + 1) s.heap.objs.size 0 .none := by
    have q := Heap.get?_push_size (s.heap.push { cls := .type "tuple_iterator", data := .fields #[.ref l, .int 0 0] })
      (o := { cls := .type "enumerate", data := .fields #[.none, .bool false, .ref s.heap.objs.size, rawInt 0, .none, .none] }) rfl
    rw [hz] at q
    exact q
  exact ⟨⟨_, he, rfl⟩, h _ he ⟨_, Heap.get?_push_of_some _ (Heap.get?_push_size _ (by rfl)), by rfl, by rfl⟩ ((hL.push _).push _) fun b o x => Heap.get?_push_of_some _ (Heap.get?_push_of_some _ x)⟩
end
/-- the tuple at a: each item in a new pair -/
def IteT (K : PySem.W.Frag) (a : Addr) : It where
  go := fun i H => ∃ (xs : List V) (x : V), SqT K H a xs ∧ xs[i]? = some x
  yld := fun i H v H' => ∃ T x, v = .ref T ∧ H T = none ∧ H' = upd H T (.tup [.int (i : Nat), x]) ∧ ∀ xs, SqT K H a xs → xs[i]? = some x
  stop := fun i H => ∃ xs : List V, SqT K H a xs ∧ xs.length = i
theorem turnEnumT {P : Program} {w : World} {K : PySem.W.Frag} {elts : List Expr} {kk : Nat} {tpos : Pos} (a e it : Addr) :
    Turn P w K (.Tuple elts kk tpos) (IteT K a) [e, it] e (fun i h => (∃ old, IsEnum h e it ((i : Nat) : Int) old) ∧ h.IsTupleIter it a i ∧ e ≠ it ∧ a ≠ it ∧ e ≠ a) where
  mem := by simp
  obj := fun i h st b hb => by
    obtain ⟨⟨old, he⟩, ⟨o, ho, hc, hd⟩, _⟩ := st
    rcases (show b = e ∨ b = it by simpa using hb) with z | z
    · subst z
      exact ⟨_, he, fun v q => nomatch q⟩
    · subst z
      exact ⟨o, ho, fun v q => by rw [hd] at q; cases q⟩
  keep := fun i h h' st k => by
    obtain ⟨⟨old, he⟩, hi, r⟩ := st
    exact ⟨⟨old, k e (by simp) _ he⟩, hi.at fun o q => k it (by simp) o q, r⟩
  item := by
    intro X hP hw hK hc i pins s σ H E I hf st hg
    subst hP hw hK
    obtain ⟨⟨old, he⟩, hit, hne, hai, hea⟩ := st
    obtain ⟨xs, x, hq, hx⟩ := hg
    obtain ⟨its, rv, p, hz⟩ := I.tuple hq
    obtain ⟨u, hu, ru⟩ := rv.get hx
    have el : e < s.heap.objs.size := Heap.lt_size he
    have il : it < s.heap.objs.size := by
      obtain ⟨_, q, _⟩ := hit
      exact Heap.lt_size q
    have hlt : i < its.toArray.size := by
      have := (List.getElem?_eq_some_iff.mp hu).1
      simpa using this
    refine wpAny_pyNext_enum_itemD (drawsT (A := X.A.in1) (I.ok.hd hc) it a hai its.toArray) he ⟨hit, p⟩ hlt hne (by simp; exact ⟨hne, hea⟩) fun y h' tk hy ho st' hT hsz hk => ?_
    obtain rfl : y = u := by
      have q : its.toArray[i]? = some u := by simpa using hu
      rw [q] at hy
      exact (Option.some.inj hy).symm
    refine ⟨_, rfl, wpAny_letOwnedTupleGo_enum (s := { s with heap := h', toks := tk + 1 }) ho fun h2 he2 sb => ?_⟩
    have hT2 : h2.get? s.heap.objs.size = some { cls := .type "tuple", data := .seq #[.int i tk, y] } := (sb.2 _ (Nat.ne_of_gt el)).trans hT
    have new : ObjOk X.prog X.w (upd H s.heap.objs.size (.tup [.int (i : Nat), x])) h2 s.heap.objs.size (.tup [.int (i : Nat), x]) :=
      ⟨by show 2 ≤ sizeLine; decide, [.int i tk, y], .cons ⟨_, rfl⟩ (.cons ru .nil), ⟨_, hT2, rfl, _, rfl⟩⟩
    have I1 : Inv X pins σ (upd H s.heap.objs.size (.tup [.int (i : Nat), x])) { s with heap := h2, toks := tk + 1 } :=
      I.turnedNew (ch := [e, it]) (fun b ob hb q => (sb.2 b (fun z => hb (by simp [z]))).trans (hk b ob (fun z => hb (by simp [z])) (fun z => hb (by simp [z])) q)) hf (Nat.le_refl _) new
    refine ⟨.ref s.heap.objs.size, _, I1, rfl, ⟨_, x, rfl, I.hok.fresh (Nat.le_refl _), rfl, fun ys hy2 => by rw [I.tuple_inj hy2 hq]; exact hx⟩, ⟨⟨y, ?_⟩, st'.1.at fun o q => (sb.2 it (Ne.symm hne)).trans q, hne, hai, hea⟩, fun b hb => ?_⟩
    · have e1 : ((i + 1 : Nat) : Int) = (i : Int) + 1 := by omega
      rw [e1]
      exact he2
    · have hb2 : b < s.heap.objs.size := by
        rcases (show b = e ∨ b = it by simpa using hb) with z | z
        · rw [z]; exact el
        · rw [z]; exact il
      rw [upd_ne (Nat.ne_of_lt hb2)]
      exact (hf b hb).1
  done := by
    intro X hP hw hK hc i pins s σ H E I hf st hg
    subst hP hw hK
    obtain ⟨⟨old, he⟩, hit, hne, hai, hea⟩ := st
    obtain ⟨xs, hq, hx⟩ := hg
    obtain ⟨its, rv, p, hz⟩ := I.tuple hq
    obtain ⟨f0, f1, f2, f3, f4, f5⟩ := hf it (by simp)
    have hl := rv.length
    have hiEq : i = its.toArray.size := by
      rw [List.size_toArray]
      omega
    subst hiEq
    exact wpAny_pyNext_enum_endD (drawsT (A := X.A.in1) (I.ok.hd hc) it a hai its.toArray) he ⟨hit, p⟩ fun h' eb => ⟨rfl, I.turned (t' := s.toks) (fun b o hb q => eb b o hb q) f0 f1 f3 f4 f5⟩
  self := fun A i s Q E st h => by
    obtain ⟨⟨_, he⟩, _⟩ := st
    exact wpAny_pyIter_enum he h
def iEnumT (K : PySem.W.Frag) (ta : TA) : TI := fun σ H R => ta σ H fun vs H1 => ∃ a xs, vs = [.ref a] ∧ SqT K H1 a xs ∧ R (IteT K a) H1
theorem pi_enumT {X : Cx} {e : Expr} {ta : TA} {p pos tpos : Pos} {elts : List Expr} {kk : Nat} (hg : Gl X "enumerate") (hm : X.mg "enumerate" = none) (ha : PA X [e] ta) (hs : starEach [e] X.env = [(false, eval e X.env)] := by rfl) :
    PI X (.Tuple elts kk tpos) (.Call (.Name "enumerate" p) [e] [] pos) (iEnumT X.K ta) := by
  refine ⟨fun pins s σ H R I h => ?_⟩
  refine Call_ (ld_blt I hg hm boot_enumerate (PyProof.Rows.callWith_type1 (thn (ha.run pos pins s σ H _ I h) fun us s1 ⟨vs, H1, I1, r1, a, xs, ex, hq, q⟩ => ?_) hs rfl))
  subst ex
  cases r1 with
  | cons r rr =>
    cases rr
    cases r
    obtain ⟨its, rv, p1, hz⟩ := I1.tuple hq
    refine callEnumT p1 fun h1 he hit hT hk => wpAny_pyIter_enum he ?_
    have al : a < s1.heap.objs.size := by
      obtain ⟨o, ho, _⟩ := p1
      exact Heap.lt_size ho
    have I2 : Inv X pins σ H1 { s1 with heap := h1 } := I1.kept (t' := s1.toks) hk
    refine ⟨s1.heap.objs.size + 1, [s1.heap.objs.size + 1, s1.heap.objs.size], _, _, H1, rfl, I2, turnEnumT a (s1.heap.objs.size + 1) s1.heap.objs.size, ⟨⟨.none, he⟩, hit, Nat.succ_ne_self _, Nat.ne_of_lt al, Nat.ne_of_gt (Nat.lt_succ_of_lt al)⟩, fun b hb => ?_, q⟩
    have le : s1.heap.objs.size ≤ b := by
      rcases (show b = s1.heap.objs.size + 1 ∨ b = s1.heap.objs.size by simpa using hb) with z | z
      · rw [z]
        exact Nat.le_succ _
      · rw [z]
        exact Nat.le_refl _
    exact I1.fpOk le (I1.hok.fresh le)
/-- the loop's bookkeeping: the pair is a new tuple at T -/
theorem for_enumT {K : PySem.W.Frag} {a : Addr} {xs : List V} {g : TG} {tb : TS} {D : Ends} {σ : L2.St} {H : Hp} (Pv : Nat → L2.St → Hp → Prop) (h0 : Pv 0 σ H) (hl : ∀ i σ H, i ≤ xs.length → Pv i σ H → SqT K H a xs)
    (hs : ∀ i x T σ H, xs[i]? = some x → Pv i σ H → H T = none → g (.ref T) σ (upd H T (.tup [.int (i : Nat), x])) fun σ2 H2 => tb { D with nx := Pv (i + 1), ct := Pv (i + 1), bk := D.nx } σ2 H2) (hd : ∀ σ H, Pv xs.length σ H → D.nx σ H) :
    ∃ W : Nat → Nat → L2.St → Hp → Prop, (∃ m, W 0 m σ H) ∧ ∀ i m σ H, W i m σ H →
      ((IteT K a).stop i H ∧ D.nx σ H) ∨ ((IteT K a).go i H ∧ ∃ N : L2.St → Hp → Prop, (∀ σ' H', N σ' H' → ∃ m', m' < m ∧ W (i + 1) m' σ' H') ∧ ∀ x H', (IteT K a).yld i H x H' → g x σ H' fun σ2 H2 => tb { D with nx := N, ct := N, bk := D.nx } σ2 H2) := by
  refine ⟨fun i m σ H => m = xs.length - i ∧ i ≤ xs.length ∧ Pv i σ H, ⟨xs.length, by simp, Nat.zero_le _, h0⟩, ?_⟩
  rintro i m σ1 H1 ⟨rfl, hi, p⟩
  by_cases e : i = xs.length
  · subst e
    exact .inl ⟨⟨xs, hl _ _ _ hi p, rfl⟩, hd _ _ p⟩
  · have lt : i < xs.length := by omega
    have ge : xs[i]? = some xs[i] := List.getElem?_eq_getElem lt
    refine .inr ⟨⟨xs, xs[i], hl _ _ _ hi p, ge⟩, Pv (i + 1), fun σ2 H2 q => ⟨xs.length - (i + 1), by omega, rfl, by omega, q⟩, ?_⟩
    rintro x H2 ⟨T, y, rfl, hT, rfl, hy⟩
    have q := hy xs (hl _ _ _ hi p)
    exact hs i y T σ1 H1 q p hT
/-! ### f(k = v, ..): keywords alone -/
theorem pe_callN0 {X : Cx} {CX : CXT} {k : Nat} {f : Addr} {fd : FuncData} {ps ks : List Str} {sp : Sp} {E : XK} {x : Str} {p pos : Pos} {kws : List Keyword} {tk : TA} {g : List Value → List Value → List Value} {gV : List V → List V → List V}
    (F : FnOk X.prog X.w X.K X.mg X.base CX k f fd ps sp) (hr : Room k X.A) (hg : Gl X x) (hm : X.mg x = some (.ref f)) (hk : PySem.W.keepIn X.K (.ref f) = true) (hb : KBn X.K fd ps 0 ks g gV) (hx : Passes CX X E) (hkw : PK X kws tk)
    (hall : (backToKw pos (keywordEach kws X.env)).all (·.1.isSome) = true := by rfl) (hks : (backToKw pos (keywordEach kws X.env)).filterMap (·.1) = ks := by rfl) (hdb : (x == ("__debug__" : Str)) = false := by decide)
    (hpl : ((backTo pos (starEach [] X.env)).any (·.1) || (backToKw pos (keywordEach kws X.env)).any (·.1.isNone)) = false := by rfl) :
    PE X (.Call (.Name x p) [] kws pos) (tCallN 0 ks.length sp gV E tNil tk) := by
  refine ⟨fun pins s σ H Q I h => ?_⟩
  refine wpAny_Call_Name_kw (ld_glob I hg hm ?_ hdb)
  refine PySem.W.callWith_KW0 (h₀ := X.base) I.ok.mod.kin hk hall (thn (hkw.run pos pins s σ H _ I h) fun ws s2 ⟨zs, H2, I2, rz, l1, l2, q2⟩ => ⟨I2.kIn, ?_⟩) hpl
  rw [hks]
  exact run_fnN (us := []) (vs := []) F hr hb hx I2 .nil rz rfl l2 q2
/-! ### isinstance's answers -/
theorem kit_self {K : PySem.W.Frag} {t : Value} (h : (t == t) = true) : PySem.W.kitOne K t t = some true := by
  unfold PySem.W.kitOne
  rw [if_pos h]
theorem kit_cls {K : PySem.W.Frag} {A C : Addr} {b : Bool} (h1 : PySem.W.isClsIn K C = true) (h2 : PySem.W.typeIn K (.ref C) = some (.type "type")) (h3 : PySem.W.subIn K (.ref A) (.ref C) = some b) (ne : (Value.ref A == Value.ref C) = false) :
    PySem.W.kitOne K (.ref A) (.ref C) = some b := by
  unfold PySem.W.kitOne
  rw [if_neg (by rw [ne]; exact Bool.false_ne_true)]
  show (if ((PySem.W.clsIn K C).isSome && PySem.W.typeIn K (.ref C) == some (.type "type")) = true then PySem.W.subIn K (.ref A) (.ref C) else none) = some b
  have h1' : (PySem.W.clsIn K C).isSome = true := h1
  rw [h1', h2, if_pos (by rfl)]
  exact h3
/-! ### lists of things that stand in the heap -/
def A2 {α : Type} (R : V → α → Prop) : List V → List α → Prop
  | [], [] => True
  | v :: vs, d :: ds => R v d ∧ A2 R vs ds
  | _, _ => False
section
variable {α : Type} {R S : V → α → Prop}
theorem A2.len : ∀ {vs : List V} {ds : List α}, A2 R vs ds → vs.length = ds.length
  | [], [], _ => rfl
  | _ :: _, _ :: _, h => congrArg (· + 1) (A2.len h.2)
  | [], _ :: _, h => h.elim
  | _ :: _, [], h => h.elim
theorem A2.mono (f : ∀ v d, R v d → S v d) : ∀ {vs : List V} {ds : List α}, A2 R vs ds → A2 S vs ds
  | [], [], _ => trivial
  | _ :: _, _ :: _, h => ⟨f _ _ h.1, A2.mono f h.2⟩
  | [], _ :: _, h => h.elim
  | _ :: _, [], h => h.elim
theorem A2.get : ∀ {vs : List V} {ds : List α} {i : Nat} {v : V}, A2 R vs ds → vs[i]? = some v → ∃ d, ds[i]? = some d ∧ R v d
  | [], [], i, v, _, e => by simp at e
  | w :: _, d :: _, 0, v, h, e => by
    have : w = v := by simpa using e
    exact ⟨d, rfl, this ▸ h.1⟩
  | _ :: _, _ :: _, i + 1, v, h, e => by
    obtain ⟨d, e1, r⟩ := A2.get (i := i) h.2 (by simpa using e)
    exact ⟨d, by simpa using e1, r⟩
  | [], _ :: _, _, _, h, _ => h.elim
  | _ :: _, [], _, _, h, _ => h.elim
theorem A2.app : ∀ {vs ws : List V} {ds es : List α}, A2 R vs ds → A2 R ws es → A2 R (vs ++ ws) (ds ++ es)
  | [], _, [], _, _, k => k
  | _ :: _, _, _ :: _, _, h, k => ⟨h.1, A2.app h.2 k⟩
  | [], _, _ :: _, _, h, _ => h.elim
  | _ :: _, _, [], _, h, _ => h.elim
theorem A2.take : ∀ {vs : List V} {ds : List α} (n : Nat), A2 R vs ds → A2 R (vs.take n) (ds.take n)
  | vs, ds, 0, _ => by simp [A2]
  | [], [], n + 1, _ => trivial
  | _ :: _, _ :: _, n + 1, h => ⟨h.1, A2.take n h.2⟩
  | [], _ :: _, _ + 1, h => h.elim
  | _ :: _, [], _ + 1, h => h.elim
theorem A2.drop : ∀ {vs : List V} {ds : List α} (n : Nat), A2 R vs ds → A2 R (vs.drop n) (ds.drop n)
  | vs, ds, 0, h => by simpa using h
  | [], [], n + 1, _ => trivial
  | _ :: _, _ :: _, n + 1, h => A2.drop n h.2
  | [], _ :: _, _ + 1, h => h.elim
  | _ :: _, [], _ + 1, h => h.elim
end
/-! ### heaps -/
/-- all that was tracked, but what stands at w, is as it was -/
def Fr (w : Addr) (H H' : Hp) : Prop := ∀ b o, b ≠ w → H b = some o → H' b = some o
theorem Fr.refl (w : Addr) (H : Hp) : Fr w H H := fun _ _ _ h => h
theorem Fr.trans {w : Addr} {H H1 H2 : Hp} (a : Fr w H H1) (b : Fr w H1 H2) : Fr w H H2 := fun c o n h => b c o n (a c o n h)
theorem Fr.of {w : Addr} {H H1 : Hp} (a : Same H H1) : Fr w H H1 := fun b o _ h => a b o h
theorem Fr.sqL {K : PySem.W.Frag} {w : Addr} {H H' : Hp} {a : Addr} {xs : List V} (e : Fr w H H') (n : a ≠ w) (h : SqL K H a xs) : SqL K H' a xs := by
  rcases h with h | h
  · refine Or.inl ?_
    rcases h with h | ⟨o, h⟩
    · exact Or.inl (e a _ n h)
    · exact Or.inr ⟨o, e a _ n h⟩
  · exact Or.inr h
theorem Fr.sqT {K : PySem.W.Frag} {w : Addr} {H H' : Hp} {a : Addr} {xs : List V} (e : Fr w H H') (n : a ≠ w) (h : SqT K H a xs) : SqT K H' a xs := by
  rcases h with h | h
  · refine Or.inl ?_
    rcases h with h | ⟨o, h⟩
    · exact Or.inl (e a _ n h)
    · exact Or.inr ⟨o, e a _ n h⟩
  · exact Or.inr h
theorem sameT {K : PySem.W.Frag} {H H' : Hp} {a : Addr} {xs : List V} (e : Same H H') (h : SqT K H a xs) : SqT K H' a xs := by
  rcases h with h | h
  · refine Or.inl ?_
    rcases h with h | ⟨o, h⟩
    · exact Or.inl (e a _ h)
    · exact Or.inr ⟨o, e a _ h⟩
  · exact Or.inr h
theorem same_new {H : Hp} {p : Addr} {o : HO} (h : H p = none) : Same H (upd H p o) := fun b u e => by
  rw [upd_ne (ne_of_none e h)]
  exact e
theorem same_mut {H H' : Hp} {p : Addr} {o : HO} (e : Same H H') (h : H p = none) : Same H (upd H' p o) := fun b u ha => by
  rw [upd_ne (ne_of_none ha h)]
  exact e b u ha
theorem fr_mut {w : Addr} {H H' : Hp} {o : HO} (e : Fr w H H') : Fr w H (upd H' w o) := fun b u n h => by
  rw [upd_ne n]
  exact e b u n h
theorem fr_new {w : Addr} {H H' : Hp} {p : Addr} {o : HO} (e : Fr w H H') (h : H p = none) : Fr w H (upd H' p o) := fun b u n ha => by
  rw [upd_ne (ne_of_none ha h)]
  exact e b u n ha
theorem fr_free {w : Addr} {H H' : Hp} {p : Addr} (e : Fr w H H') (n : p ≠ w) (h : H' p = none) : H p = none := by
  cases z : H p with
  | none => rfl
  | some o =>
    rw [e p o n z] at h
    cases h
/-- ints as values -/
abbrev vi (l : List Int) : List V := l.map V.int
theorem vi_get {l : List Int} {i : Nat} {y : V} (h : (vi l)[i]? = some y) : ∃ z, l[i]? = some z ∧ y = .int z := by
  rw [List.getElem?_map] at h
  cases e : l[i]? with
  | none =>
    rw [e] at h
    cases h
  | some z =>
    rw [e] at h
    exact ⟨z, rfl, (Option.some.inj h).symm⟩
theorem vi_at {l : List Int} {i : Nat} (h : i < l.length) : atI (vi l) (i : Int) = some (.int (l.getD i 0)) := by
  refine atI_nat ?_
  rw [List.getElem?_map, List.getElem?_eq_getElem h, List.getD_eq_getElem?_getD, List.getElem?_eq_getElem h]
  rfl
end KpR

namespace KpR
open PySem PySem.Spec PyProof.Rows L2
def strB (es : Array DictEntry) : Bool := es.toList.all fun e => match e.key with
  | .str _ _ => true
  | _ => false
theorem strB_keys {es : Array DictEntry} (h : strB es = true) : StrKeys es := fun e he => by
  have q := List.all_eq_true.mp h e (by simpa using he)
  cases k : e.key <;> rw [k] at q <;> first | exact ⟨_, _, rfl⟩ | cases q
theorem ns_at {K : PySem.W.Frag} {h : Heap} {N : Addr} {c : Value} {d : Option Addr} {es : Array DictEntry} {m : Nat} {sl : Array (Option Value)} (X : K.In h) (l : K.lookup N = some ⟨c, d, .dict es m, sl⟩) (ok : strB es = true) :
    h.Ns N fun x => nsFind es x := ⟨_, es, m, X _ _ l, rfl, strB_keys ok, fun _ => rfl⟩
theorem find_some {K : PySem.W.Frag} {N : Addr} {c : Value} {d : Option Addr} {es : Array DictEntry} {m : Nat} {sl : Array (Option Value)} {x : Str} {v : Value} (l : K.lookup N = some ⟨c, d, .dict es m, sl⟩)
    (e : PySem.W.nsIn K N x = some (some v)) : nsFind es x = some v := by
  unfold PySem.W.nsIn at e
  rw [l] at e
  dsimp only at e
  unfold nsFind findBy
  rw [← Array.find?_toList]
  cases q : es.toList.find? (fun en => en.key.isStr x) with
  | none =>
    rw [q] at e
    dsimp only at e
    split at e <;> cases e
  | some en =>
    rw [q] at e
    cases e
    rfl
theorem find_none {K : PySem.W.Frag} {N : Addr} {c : Value} {d : Option Addr} {es : Array DictEntry} {m : Nat} {sl : Array (Option Value)} {x : Str} (l : K.lookup N = some ⟨c, d, .dict es m, sl⟩)
    (e : PySem.W.nsIn K N x = some none) : nsFind es x = none := by
  unfold PySem.W.nsIn at e
  rw [l] at e
  dsimp only at e
  unfold nsFind findBy
  rw [← Array.find?_toList]
  cases q : es.toList.find? (fun en => en.key.isStr x) with
  | none => rfl
  | some en =>
    rw [q] at e
    cases e
/-- what the written part says of such a class -/
structure NeCls (K : PySem.W.Frag) (C f : Addr) : Prop where
  ob : ∃ (nm q : Str) (N : Addr) (bs : List Value) (hd : Bool) (sn : List Str) (sub : List Value) (ab : Bool) (col : Option Bool) (dd : Option Addr) (k0 k1 k2 k3 k5 : Option Value) (nid : String),
    K.lookup C = some (excClassObj nm q C N bs [.type "object"] hd sn sub ab col dd k0 k1 k2 k3 k5 nid) ∧
    ∃ (c : Value) (d : Option Addr) (es : Array DictEntry) (m : Nat) (sl : Array (Option Value)), K.lookup N = some ⟨c, d, .dict es m, sl⟩ ∧ strB es = true ∧ PySem.W.nsIn K N "__eq__" = some (some (.ref f)) ∧ PySem.W.nsIn K N "__ne__" = some none
  fn : ∃ of : Obj, K.lookup f = some of ∧ of.cls = .type "function"
def rNeG (D : Eqv) : R2 := fun x y H Q => D x y H ∧ ∀ H', Ext H H' → Q (.bl false) H'
section
variable {X : Cx} {CX : CXT} {n : Nat} {C f : Addr} {fd : FuncData} {ps : List Str} {R : Addr → Addr → Hp → Prop} {E : XK}
theorem op_neOwn (G : FnOk X.prog X.w X.K X.mg X.base CX n f fd ps (spEq R)) (hc : NeCls X.K C f) (hb : Binds X.K fd ps []) (hx : Passes CX X E) (hr : Room (n + 1) X.A) :
    OpR X (compareOp .NotEq) (rNeG (DIns C R)) := by
  intro pins s σ H x y v u Q I rx ry hq
  obtain ⟨⟨a, b, dx, dy, fs, gs, rfl, rfl, ha, hb1, hR⟩, q⟩ := hq
  cases rx
  cases ry
  obtain ⟨mA, J, _⟩ := ins_get I.hok ha
  obtain ⟨mB, J1, _⟩ := ins_get I.hok hb1
  obtain ⟨od, J, _⟩ := J.look
  obtain ⟨od1, J1, _⟩ := J1.look
  obtain ⟨nm, qn, N, bs, hd, sn, sub, ab, col, dd, k0, k1, k2, k3, k5, nid, lC, c1, d1, es, m, sl, lN, sb, lE, lNe⟩ := hc.ob
  obtain ⟨of, lf, cf⟩ := hc.fn
  have KI := I.kIn
  obtain ⟨mN, hn, e1, e2⟩ : ∃ mN : Str → Option Value, s.heap.Ns N mN ∧ mN "__eq__" = some (.ref f) ∧ mN "__ne__" = none := ⟨_, ns_at KI lN sb, find_some lN lE, find_none lN lNe⟩
  have XX : s.heap.OwnEqNoNe a C f "object" [.type "object"] :=
    ⟨_, of, nm, qn, N, bs, hd, sn, sub, ab, col, dd, k0, k1, k2, k3, k5, nid, mN, _, J.at_, J.cls, KI _ _ lC, hn, e1, KI _ _ lf, cf, rfl, rfl, e2⟩
  have e0 := I.env0
  have sp1 : spEq R [.ref a, .ref b] H (fun v H' => v = .bl true ∧ Ext H H') E := ⟨a, b, rfl, hR, fun H' e => ⟨rfl, e⟩⟩
  have ln := G.len _ _ _ _ sp1
  have vals : Vals [V.ref a, V.ref b] [Value.ref a, Value.ref b] := .cons rfl (.cons rfl .nil)
  have hr1 : Room n X.A.in1 := hr.in1
  have f0 : Env0 X.prog X.w X.K X.mg X.base X.A.in1 X.stack s H := ⟨e0.frames, e0.mod, e0.bs, e0.bsz, e0.funs, e0.frf, e0.hok, e0.bare⟩
  have bd := hb s [.ref a, .ref b] KI (by simpa using ln)
  obtain ⟨hp, g, dr, tk, os⟩ := s
  refine compareOp_ne_ownEq F.cmp_object XX J1.at_ J1.cls (hu_of hr) ?_
  refine wpAny_call (codeAny_mono (G.run X.A.in1 X.stack _ H ⟨[.ref a, .ref b], []⟩ [.ref a, .ref b] [.ref a, .ref b] _ E hr1 f0 (by simpa using bd) vals sp1) fun r s1 hq1 => ?_)
  cases r with
  | error e => exact hx pins σ H _ e s1 I hq1
  | ok fl =>
    cases fl with
    | ret w1 =>
      obtain ⟨z, H1, I1, rz, ez, ex⟩ := I.after hq1
      subst ez
      cases rz
      exact ⟨true, rfl, .bl false, H1, I1, rfl, q H1 ex⟩
    | next => exact False.elim hq1
    | brk => exact False.elim hq1
    | cont => exact False.elim hq1
end
end KpR

namespace KpR
open PySem PySem.Spec PyProof.Rows L2
section
variable {prog : Program} {w : World} {A : Around} {E : Value → Shared → Prop} {s : Shared} {K : PySem.W.Frag} {x C f : Addr} {ox : Obj} {od : Option Obj}
theorem dec_tup {l : Addr} {its : Array Value} {n : Nat} {dd : Option Addr} {sl : Array (Option Value)} {Q : Value → Shared → Prop} (hl : s.heap.get? l = some { cls := .type "tuple", dict := dd, data := .seq its n, slots := sl })
    (hx : s.heap.get? x = some ox) (hc : ox.cls = .ref C) (hs : PySem.W.Looks (model prog w) s.heap (isSubtype (.ref C) (.type "tuple")) false) (q : Q .notImplemented s) :
    wpAny (model prog w) A (call (.builtin "tuple.__eq__") [.ref l, .ref x]) Q E s := by
  refine GQ.call_here F.slot_tuple_eq ⟨_, hl, rfl⟩ F.entry_tuple_eq (F.args_tuple_eq_2 _ _) ?_
  obtain ⟨hp, g, d, tk, os⟩ := s
  wp_walk using PySem.AutoSeq1.wpAny_loadPart' hx
  rw [hc]
  refine hs.at ?_
  wp_walk
  exact q
theorem dec_int {i : Int} {t : Tok} {Q : Value → Shared → Prop}
    (hx : s.heap.get? x = some ox) (hd : ∀ p, ox.data ≠ .prim p) (q : Q .notImplemented s) :
    wpAny (model prog w) A (call (.builtin "int.__eq__") [.int i t, .ref x]) Q E s := by
  refine GQ.call_here F.slot_int_eq (typeIs_int s i t) F.entry_int_eq (F.args_int_eq_2 _ _) ?_
  obtain ⟨hp, g, d, tk, os⟩ := s
  wp_walk using PySem.AutoSeq1.wpAny_loadPart' hx, wpAny_load hx
  split
  · rename_i i' t' e
    exact absurd e (hd _)
  · wp_walk
    exact q
theorem dec_non {Q : Value → Shared → Prop} (q : Q .notImplemented s) :
    wpAny (model prog w) A (call (.builtin "NoneType.__eq__") [.none, .ref x]) Q E s :=
  call_gives F.slot_NoneType_eq rfl F.entry_NoneType_eq (F.args_NoneType_eq_2 _ _) (SeqAt.NoneType___eq___none_ref_0 x) q
/-- a value that declines, then the own == of the other side -/
theorem rc_behind {v : Value} {T id : String} {Q : Value → Shared → Prop} (tv : s.TypeIs v T) (X : K.In s.heap) (I : PySem.W.InstAt s.heap x ox C od) (hsub : PySem.W.subIn K (.ref C) (.type T) = some false)
    (h1 : Slot T "__eq__" id) (dec : ∀ Q' : Value → Shared → Prop, Q' .notImplemented s → wpAny (model prog w) A (call (.builtin id) [v, .ref x]) Q' E s) (hs : PySem.W.findIn K (.ref C) "__eq__" = some (some (.ref f))) (hf : PySem.W.isFn K (.ref f) = true)
    (hu : A.units < cLine) (h : wpAny (model prog w) A (call (.ref f) [.ref x, v]) (PySem.W.CmpBack Q) E s) : wpAny (model prog w) A (richCompare .Eq v (.ref x)) Q E s := by
  have one : wpAny (model prog w) A (tryCompare (.ref x) "__eq__" v) (fun r s' => ∃ z, r = some z ∧ Q z s') E s := by
    unfold tryCompare
    refine wpAny_bind (PySem.W.ifBound_K X I hs hf (wpAny_mono h (fun z s' hz => ?_) fun _ _ e => e))
    cases z with
    | notImplemented => exact False.elim hz
    | _ => exact wpAny_pure ⟨_, rfl, hz⟩
  have nz : (Value.type T != Value.ref C) = true := rfl
  simp only [richCompare, cmpInfo_Eq, tv.oneThing_none]
  refine wpAny_holding (wpAny_bind (wpAny_cRoomFor hu ?_))
  refine wpAny_bind (wpAny_typeOf tv (wpAny_bind (I.type.here ?_)))
  rw [if_pos nz]
  refine wpAny_bind ((PySem.W.looks_subIn X hsub).here ?_)
  rw [if_neg Bool.false_ne_true]
  refine wpAny_bind (m := tryCompare v _ (.ref x)) (wpAny_tryCompare_declines tv h1 (dec _ ⟨rfl, ?_⟩))
  rw [if_pos (show (!false) = true from rfl)]
  refine wpAny_bind (m := tryCompare (.ref x) _ v) (wpAny_mono one (fun r s' z => ?_) fun _ _ e => e)
  obtain ⟨z, rfl, hq⟩ := z
  exact wpAny_pure hq
end
/-- an own == that answers b where R says so, and only makes objects -/
def spEqB (R : Addr → V → Bool → Hp → Prop) : Sp := fun vs H Q _ => ∃ a y b, vs = [.ref a, y] ∧ R a y b H ∧ ∀ H', Ext H H' → Q (.bl b) H'
/-- either answer, by the abstract heap -/
abbrev EqvB := V → V → Bool → Hp → Prop
def EqB (X : Cx) (n : Nat) (D : EqvB) : Prop :=
  ∀ (B : Around) (pins : List (Addr × Obj)) (s : Shared) (σ : L2.St) (H : Hp) (x y : V) (b : Bool) (u v : Value), Sub X n B → Inv X pins σ H s → RelV x u → RelV y v → D x y b H →
    wpAny (model X.prog X.w) B (eqBool u v) (fun r s' => r = b ∧ LoopI X pins σ H s') X.xe s
def RcB (X : Cx) (n : Nat) (D : EqvB) : Prop :=
  ∀ (B : Around) (pins : List (Addr × Obj)) (s : Shared) (σ : L2.St) (H : Hp) (x y : V) (b : Bool) (u v : Value), Sub X n B → Inv X pins σ H s → RelV x u → RelV y v → D x y b H →
    wpAny (model X.prog X.w) B (richCompare .Eq u v) (fun r s' => r = .bool b ∧ LoopI X pins σ H s') X.xe s
/-- what the written part says of a class with an own == -/
structure EqCls (K : PySem.W.Frag) (C f : Addr) : Prop where
  hs : PySem.W.findIn K (.ref C) "__eq__" = some (some (.ref f))
  hf : PySem.W.isFn K (.ref f) = true
/-- both are instances, the second of no class below the first one's -/
def DInsB (K : PySem.W.Frag) (C : Addr) (R : Addr → V → Bool → Hp → Prop) : EqvB := fun x y b H => ∃ a c C' dx dy fs gs, x = .ref a ∧ y = .ref c ∧ H a = some (.ins C dx fs) ∧ H c = some (.ins C' dy gs) ∧ PySem.W.notFirst K C (.ref C') = true ∧ R a (.ref c) b H
/-- the first one is none of the class -/
inductive Alien (K : PySem.W.Frag) (C : Addr) (H : Hp) : V → Prop
  | non (h : PySem.W.subIn K (.ref C) (.type "NoneType") = some false) : Alien K C H .non
  | int {i : Int} (h : PySem.W.subIn K (.ref C) (.type "int") = some false) : Alien K C H (.int i)
  | tup {a : Addr} {xs : List V} (h : PySem.W.subIn K (.ref C) (.type "tuple") = some false) (e : H a = some (.tup xs)) : Alien K C H (.ref a)
  | lst {a : Addr} {xs : List V} (h : PySem.W.subIn K (.ref C) (.type "list") = some false) (e : H a = some (.lst xs)) : Alien K C H (.ref a)
def DBehB (K : PySem.W.Frag) (C : Addr) (R : Addr → V → Bool → Hp → Prop) : EqvB := fun x y b H => ∃ a dx fs, y = .ref a ∧ H a = some (.ins C dx fs) ∧ Alien K C H x ∧ R a x b H
section
variable {prog : Program} {w : World} {A : Around} {E : Value → Shared → Prop} {s : Shared} {x C : Addr} {ox : Obj}
theorem dec_lst {l : Addr} {its : Array Value} {n : Nat} {dd : Option Addr} {sl : Array (Option Value)} {Q : Value → Shared → Prop} (hl : s.heap.get? l = some { cls := .type "list", dict := dd, data := .seq its n, slots := sl })
    (hx : s.heap.get? x = some ox) (hc : ox.cls = .ref C) (hs : PySem.W.Looks (model prog w) s.heap (isSubtype (.ref C) (.type "list")) false) (q : Q .notImplemented s) :
    wpAny (model prog w) A (call (.builtin "list.__eq__") [.ref l, .ref x]) Q E s := by
  refine GQ.call_here F.slot_list_eq ⟨_, hl, rfl⟩ F.entry_list_eq (F.args_list_eq_2 _ _) ?_
  obtain ⟨hp, g, d, tk, os⟩ := s
  wp_walk using PySem.AutoSeq1.wpAny_loadPart' hx
  rw [hc]
  refine hs.at ?_
  wp_walk
  exact q
end
section
variable {X : Cx} {CX : CXT} {n : Nat} {C f : Addr} {fd : FuncData} {ps : List Str} {R : Addr → V → Bool → Hp → Prop} {E : XK} {pins : List (Addr × Obj)} {σ : L2.St} {H : Hp} {s : Shared} {B : Around}
theorem own_runB (G : FnOk X.prog X.w X.K X.mg X.base CX n f fd ps (spEqB R)) (hb : Binds X.K fd ps []) (hx : Passes CX X E) (sb : Sub X n B) (I : Inv X pins σ H s) {a : Addr} {y : V} {v : Value} {b : Bool} (ry : RelV y v) (hr : R a y b H) :
    wpAny (model X.prog X.w) B (call (.ref f) [.ref a, v]) (PySem.W.CmpBack fun r s' => r = .bool b ∧ LoopI X pins σ H s') X.xe s := by
  have sp1 : spEqB R [.ref a, y] H (fun z H' => z = .bl b ∧ Ext H H') E := ⟨a, y, b, rfl, hr, fun H' e => ⟨rfl, e⟩⟩
  have e0 := I.env0
  have ln := G.len _ _ _ _ sp1
  have vals : Vals [V.ref a, y] [Value.ref a, v] := .cons rfl (.cons ry .nil)
  have f0 : Env0 X.prog X.w X.K X.mg X.base B X.stack s H := ⟨by rw [sb.fr]; exact e0.frames, e0.mod, e0.bs, e0.bsz, e0.funs, e0.frf, e0.hok, e0.bare⟩
  have bd := hb s [.ref a, v] I.kIn (by simpa using ln)
  refine wpAny_call (codeAny_mono (G.run B X.stack s H ⟨[.ref a, v], []⟩ [.ref a, v] [.ref a, y] _ E sb.room f0 (by simpa using bd) vals sp1) fun r s1 hq1 => ?_)
  cases r with
  | error e => exact hx pins σ H s e s1 I hq1
  | ok fl =>
    cases fl with
    | ret w1 =>
      obtain ⟨z, H1, I1, rz, ez, ex⟩ := I.after hq1
      subst ez
      cases rz
      exact ⟨rfl, H1, I1, ex⟩
    | next => exact False.elim hq1
    | brk => exact False.elim hq1
    | cont => exact False.elim hq1
theorem rcB_ins (hc : EqCls X.K C f) (G : FnOk X.prog X.w X.K X.mg X.base CX n f fd ps (spEqB R)) (hb : Binds X.K fd ps []) (hx : Passes CX X E) : RcB X n (DInsB X.K C R) := by
  intro B pins s σ H x y b u v sb I rx ry hd
  obtain ⟨a, c, C', dx, dy, fs, gs, rfl, rfl, ha, hc1, nf, hr⟩ := hd
  cases rx
  cases ry
  obtain ⟨mA, J, _⟩ := ins_get I.hok ha
  obtain ⟨mC, J1, _⟩ := ins_get I.hok hc1
  obtain ⟨od, J, _⟩ := J.look
  obtain ⟨od1, J1, _⟩ := J1.look
  obtain ⟨m, hF⟩ := I.fr
  exact PySem.W.cmp_K (op := .Eq) (tb := .ref C') sb.room.units0 hF I.ok.mod.kin J J1.type nf hc.hs hc.hf (own_runB (y := .ref c) (v := .ref c) G hb hx sb I rfl hr)
theorem rcB_beh (hc : EqCls X.K C f) (G : FnOk X.prog X.w X.K X.mg X.base CX n f fd ps (spEqB R)) (hb : Binds X.K fd ps []) (hx : Passes CX X E) : RcB X n (DBehB X.K C R) := by
  intro B pins s σ H x y b u v sb I rx ry hd
  obtain ⟨a, dx, fs, rfl, ha, al, hr⟩ := hd
  cases ry
  obtain ⟨mA, J, _⟩ := ins_get I.hok ha
  obtain ⟨od, J, _⟩ := J.look
  have go := fun {v : Value} (rv : RelV x v) => own_runB G hb hx sb I rv hr
  cases al with
  | non h =>
    cases (show u = Value.none from rx)
    exact rc_behind rfl I.kIn J h F.slot_NoneType_eq (fun _ q => dec_non q) hc.hs hc.hf sb.room.units0 (go rfl)
  | int h =>
    obtain ⟨t, e⟩ := (show ∃ t, u = Value.int _ t from rx)
    cases e
    exact rc_behind (typeIs_int s _ t) I.kIn J h F.slot_int_eq (fun _ q => dec_int J.at_ (fun _ z => nomatch z) q) hc.hs hc.hf sb.room.units0 (go ⟨t, rfl⟩)
  | tup h e =>
    cases (show u = Value.ref _ from rx)
    obtain ⟨its, r, ⟨⟨cl, dd, dt, sl⟩, e1, e2, k, e3⟩, _⟩ := I.tuple (SqT.of e)
    simp only at e2 e3
    subst e2 e3
    exact rc_behind ⟨_, e1, rfl⟩ I.kIn J h F.slot_tuple_eq (fun _ q => dec_tup e1 J.at_ rfl (PySem.W.looks_subIn I.kIn h) q) hc.hs hc.hf sb.room.units0 (go rfl)
  | lst h e =>
    cases (show u = Value.ref _ from rx)
    obtain ⟨z, its, k, r, e1⟩ := I.hok _ _ e
    exact rc_behind ⟨_, e1, rfl⟩ I.kIn J h F.slot_list_eq (fun _ q => dec_lst e1 J.at_ rfl (PySem.W.looks_subIn I.kIn h) q) hc.hs hc.hf sb.room.units0 (go rfl)
end
section
variable {X : Cx} {n m : Nat} {D D' : EqvB}
theorem RcB.or (h : RcB X n D) (h' : RcB X n D') : RcB X n (fun x y b H => D x y b H ∨ D' x y b H) := fun B pins s σ H x y b u v sb I rx ry d =>
  d.elim (h B pins s σ H x y b u v sb I rx ry) (h' B pins s σ H x y b u v sb I rx ry)
theorem EqB.or (h : EqB X n D) (h' : EqB X n D') : EqB X n (fun x y b H => D x y b H ∨ D' x y b H) := fun B pins s σ H x y b u v sb I rx ry d =>
  d.elim (h B pins s σ H x y b u v sb I rx ry) (h' B pins s σ H x y b u v sb I rx ry)
theorem RcB.mono (h : RcB X n D) (k : n ≤ m) : RcB X m D := fun B pins s σ H x y b u v sb => h B pins s σ H x y b u v (sb.mono k)
/-- inside a list or a tuple: the same object is itself -/
theorem RcB.eqB (h : RcB X n D) (hr : ∀ x y b H, D x y b H → (∃ c, x = .ref c ∧ ∃ a, y = .ref a ∧ (c = a → b = true)) ∨ ((x = .non ∨ ∃ i, x = .int i) ∧ ∃ a, y = .ref a)) : EqB X n D := by
  intro B pins s σ H x y b u v sb I rx ry d
  have go : u ≠ v → (∀ p q, ¬ (u = .float p q)) → wpAny (model X.prog X.w) B (eqBool u v) (fun r s' => r = b ∧ LoopI X pins σ H s') X.xe s := by
    intro ne nf
    unfold eqBool
    refine wpAny_holding ?_
    refine wpAny_ite_split (fun e => absurd (eq_of_beq e) ne) (fun _ => ?_)
    have k := h B pins s σ H x y b u v sb I rx ry d
    have k2 : wpAny (model X.prog X.w) B (do truthOfDropped (← richCompare .Eq u v)) (fun r s' => r = b ∧ LoopI X pins σ H s') X.xe s := by
      refine wpAny_bind (wpAny_mono k (fun z s' q => ?_) fun _ _ e => e)
      obtain ⟨rfl, q⟩ := q
      exact wpAny_truthy_bool ⟨rfl, q⟩
    cases u with
    | float p q => exact absurd rfl (nf p q)
    | _ => exact k2
  rcases hr x y b H d with ⟨c, rfl, a, rfl, q⟩ | ⟨hx, a, rfl⟩
  · cases (show u = Value.ref c from rx)
    cases (show v = Value.ref a from ry)
    by_cases e : c = a
    · have eb := q e
      subst e
      subst eb
      exact SeqAt.EqAt.same (A := B) (s := s) (.ref c) X.prog X.w X.xe _ ⟨rfl, H, I, Ext.rfl'⟩
    · exact go (fun z => e (Value.ref.inj z)) (fun _ _ z => nomatch z)
  · cases (show v = Value.ref a from ry)
    rcases hx with rfl | ⟨i, rfl⟩
    · cases (show u = Value.none from rx)
      exact go (fun z => nomatch z) (fun _ _ z => nomatch z)
    · obtain ⟨t, e⟩ := (show ∃ t, u = Value.int i t from rx)
      cases e
      exact go (fun z => nomatch z) (fun _ _ z => nomatch z)
/-- x == y -/
def rEqB (D : EqvB) : R2 := fun x y H Q => ∃ b, D x y b H ∧ ∀ H', Ext H H' → Q (.bl b) H'
theorem op_eqB (h : RcB X n D) (hr : Room n X.A) : OpR X (compareOp .Eq) (rEqB D) := by
  intro pins s σ H x y v u Q I rx ry hq
  obtain ⟨b, d, q⟩ := hq
  show wpAny (model X.prog X.w) X.A (richCompare .Eq v u) (EP X pins σ Q) X.xe s
  refine wpAny_mono (h X.A pins s σ H x y b v u ⟨hr, rfl⟩ I rx ry d) (fun r s1 z => ?_) fun _ _ e => e
  obtain ⟨rfl, H1, I1, e⟩ := z
  exact ⟨.bl b, H1, I1, rfl, q H1 e⟩
/-- x in a list none of whose items is equal to it -/
def rOutB (D : EqvB) : R2 := fun x y H Q => ∃ l ys, y = .ref l ∧ (∀ H', Ext H H' → H' l = some (.lst ys)) ∧ (∀ z, z ∈ ys → ∀ H', Ext H H' → D z x false H') ∧ ∀ H', Ext H H' → Q (.bl false) H'
theorem has_none (h : EqB X n D) {B : Around} (sb : Sub X (n + 1) B) {pins : List (Addr × Obj)} {σ : L2.St} {H : Hp} {x : V} {v : Value} {l : Addr} {ys : List V} (rx : RelV x v) (hl : ∀ H', Ext H H' → H' l = some (.lst ys)) (hd : ∀ z, z ∈ ys → ∀ H', Ext H H' → D z x false H')
    {Q : Value → Shared → Prop} (fin : ∀ s', LoopI X pins σ H s' → Q (.bool false) s') (k : Nat) : ∀ i : Nat, ys.length - i = k → ∀ s, LoopI X pins σ H s →
      wpAny (model X.prog X.w) B.in1 (Builtin.«list.__contains__.loop» ⟨[.ref l, v, rawInt i], []⟩) (GQ.FinOf X.prog X.w B (wants Q X.xe)) (fun e s' => wants Q X.xe (.error e) s') s := by
  induction k with
  | zero =>
    intro i hi s hs
    obtain ⟨H1, I1, e1⟩ := id hs
    obtain ⟨z, its, kk, r, eo⟩ := I1.hok _ _ (hl H1 e1)
    have out := fin s hs
    have no : its.toArray[((i : Nat) : Int).toNat]? = none := by
      have q := r.length
      simp
      omega
    obtain ⟨hp, g, d, tk, os⟩ := s
    wp_walk using PySem.AutoSeq1.wpAny_loadPart' eo
    rw [no]
    wp_walk
    exact out
  | succ k ih =>
    intro i hi s hs
    obtain ⟨H1, I1, e1⟩ := id hs
    obtain ⟨z, its, kk, r, eo⟩ := I1.hok _ _ (hl H1 e1)
    have lt : i < ys.length := by omega
    have lt2 : i < its.length := by rw [← r.length] <;> exact lt
    have so : its.toArray[((i : Nat) : Int).toNat]? = some its[i] := by simp [lt2]
    obtain ⟨u, hu, ru⟩ := r.get (List.getElem?_eq_getElem lt)
    have eu : its[i] = u := by
      rw [List.getElem?_eq_getElem lt2] at hu
      exact Option.some.inj hu
    have turn := h B.in1 pins s σ H1 _ x false u v sb.in1 I1 ru rx (hd _ (List.getElem_mem lt) H1 e1)
    obtain ⟨hp, g, d, tk, os⟩ := s
    wp_walk using PySem.AutoSeq1.wpAny_loadPart' eo
    rw [so, eu]
    refine wpAny_bind (wpAny_mono turn (fun rr s2 q => ?_) fun _ _ e => e)
    obtain ⟨rfl, H2, I2, e2⟩ := q
    have next := ih (i + 1) (by omega) s2 ⟨H2, I2, e1.trans e2⟩
    have up : ((i : Int) + 1) = ((i + 1 : Nat) : Int) := by omega
    obtain ⟨hp2, g2, d2, tk2, os2⟩ := s2
    wp_walk
    rw [up]
    exact ⟨plainId_quiet MeetsSeq.plain_contains_loop _, codeAny_builtin MeetsSeq.entry_contains_loop (by
      rw [Around.under_plainId MeetsSeq.plain_contains_loop _]
      exact next)⟩
theorem op_outB (h : EqB X n D) (hr : Room (n + 1) X.A) : OpR X (compareOp .In) (rOutB D) := by
  intro pins s σ H x y v u Q I rx ry hq
  obtain ⟨l, ys, rfl, hl, hd, q⟩ := hq
  cases (show u = Value.ref l from ry)
  obtain ⟨z, its, kk, r, eo⟩ := I.hok _ _ (hl H Ext.rfl')
  show wpAny (model X.prog X.w) X.A (do return .bool (← contains (.ref l) v)) (EP X pins σ Q) X.xe s
  have end_ : ∀ s', LoopI X pins σ H s' → EP X pins σ Q (.bool false) s' := fun s' ⟨H1, I1, e1⟩ => ⟨.bl false, H1, I1, rfl, q H1 e1⟩
  have run := has_none (B := X.A) h ⟨hr, rfl⟩ rx hl hd (Q := fun r s' => r = .bool false ∧ LoopI X pins σ H s') (fun s' z => ⟨rfl, z⟩) _ 0 rfl s ⟨H, I, Ext.rfl'⟩
  refine wpAny_bind (wpAny_contains_slot (id := "list.__contains__") ⟨_, eo, rfl⟩ F.slot_list_contains (wpAny_mono (GQ.call_here (Q := fun r s' => r = .bool false ∧ LoopI X pins σ H s') F.slot_list_contains ⟨_, eo, rfl⟩ F.entry_list_contains (F.args_list_contains_2 _ _) ?_) (fun r s' z => ?_) fun _ _ e => e))
  · obtain ⟨hp, g, d, tk, os⟩ := s
    wp_walk
    exact ⟨plainId_quiet MeetsSeq.plain_contains_loop _, codeAny_builtin MeetsSeq.entry_contains_loop (by
      rw [Around.under_plainId MeetsSeq.plain_contains_loop _]
      exact run)⟩
  · obtain ⟨rfl, z⟩ := z
    exact wpAny_truthy_bool (wpAny_pure (end_ s' z))
end
end KpR

namespace KpR
open PySem PySem.Spec PyProof.Rows L2
/-- a callee of which nothing comes -/
theorem passF {X : Cx} : Passes (L2.CX X.prog X.w) X (fun _ _ _ => False) := fun _ _ _ _ _ _ _ ⟨_, _, _, _, _, _, _, _, _, _, _, _, z⟩ => z.elim
/-- what a callee in a try's body may raise: whatever the locals are -/
def anyL (n : Nat) (W : WX) : XK := fun cls d H => ∀ σ : L2.St, σ.length = n → W cls d σ H
theorem passL {X : Cx} {W : WX} {n : Nat} (tk : Takes X W) (hn : X.N.length = n) : Passes (L2.CX X.prog X.w) X (anyL n W) := fun _ σ _ _ e s' I c => tk e s' (XE.of_call I (fun _ _ _ h => h σ (by rw [← hn] <;> exact I.len)) c)
/-- a call by keywords of a def without defaults -/
theorem kbOf {K : PySem.W.Frag} {fd : FuncData} {ps ks : List Str} {n : Nat} {g : List Value → List Value → List Value} {gV : List V → List V → List V}
    (h : ∀ us ws : List Value, us.length = n → ws.length = ks.length → bindArgs fd ⟨us, ks.zip ws⟩ = pure (ps.zip (g us ws))) (r : ∀ {vs : List V} {us : List Value} {zs : List V} {ws : List Value}, Vals vs us → Vals zs ws → Vals (gV vs zs) (g us ws)) : KBn K fd ps n ks g gV :=
  ⟨fun s us ws _ l1 l2 => .of_eq (h us ws l1 l2), r⟩
/-- a builtin's type against an own class -/
theorem kit_tc {K : PySem.W.Frag} {T : String} {C : Addr} {b : Bool} (h1 : PySem.W.isClsIn K C = true) (h2 : PySem.W.typeIn K (.ref C) = some (.type "type")) (h3 : PySem.W.subIn K (.type T) (.ref C) = some b) : PySem.W.kitOne K (.type T) (.ref C) = some b := by
  have ne : ¬ (Value.type T == Value.ref C) = true := fun z => nomatch eq_of_beq z
  unfold PySem.W.kitOne
  rw [if_neg ne]
  show (if ((PySem.W.clsIn K C).isSome && PySem.W.typeIn K (.ref C) == some (.type "type")) = true then PySem.W.subIn K (.type T) (.ref C) else none) = some b
  rw [show (PySem.W.clsIn K C).isSome = true from h1, h2, if_pos (by rfl)]
  exact h3
/-- the first clause takes it -/
def wFst (K : PySem.W.Frag) (c : Value) (i : Nat) (tz : Addr → Value → Option Addr → TS) (D : Ends) : WX := fun cls d σ H =>
  PySem.W.exmOne K cls c = some true ∧ ∀ a, H a = none → tz a cls d ⟨fun τ G => D.nx (τ.set i none) G, D.rt, fun τ G => D.bk (τ.set i none) G, fun τ G => D.ct (τ.set i none) G⟩ (σ.set i (some (.ref a))) H
section
variable {X : Cx} {x n : Str} {c : Value} {i : Nat} {body rest : List Stmt} {z₀ : Stmt} {more : List ExceptHandler} {pn pt pw : Pos} {tb : WX → TS} {tz : Addr → Value → Option Addr → TS}
theorem ps_try_fst (st : X.stack = X.env :: X.outer) (fr : X.env.frame = some X.env.locals) (nd : X.N.Nodup) (at_ : X.N[i]? = some n) (lo : X.env.kindOf n = some .local) (nm : Names X x c)
    (bd : ∀ (W : WX) (qn : List (Addr × Obj)) (xe : Value → Shared → Prop), Takes (X.tr qn xe) W → PassesOwn (model X.prog X.w) X.A X.env xe → PSs (X.tr qn xe) body (tb W))
    (su : ∀ (e : Addr) (oe : Obj) (cls : Value) (d : Option Addr) (qn : List (Addr × Obj)), Zc cls d oe → (∃ fs, oe.data = .fields fs) → PSs (X.suite e ((e, oe) :: qn)) (z₀ :: rest) (tz e cls d)) :
    PS X (.Try body (.ExceptHandler (some (.Name x pn)) (some n) (z₀ :: rest) pw :: more) [] [] pt) (fun D σ H => tb (wFst X.K c i tz D) D σ H) := by
  refine ⟨fun pins s σ H D I hyp => ?_⟩
  have okX := I.ok
  have afr : X.A.frames = some (X.env :: X.outer) := by rw [okX.frames, st]
  have lcl : Loc X.env.scope n := .inl lo
  let hs := ExceptHandler.ExceptHandler (some (.Name x pn)) (some n) (z₀ :: rest) pw :: more
  refine wpAny_Try_except ?_
  refine wpAny_mono ((bd (wFst X.K c i tz D) (X.pn ++ pins) (fun e t1 => wpAny (model X.prog X.w) X.A (noteFrame e X.env) (fun _ t2 => wpAny (model X.prog X.w) X.A (setFlight e none) (fun _ t3 =>
    wpAny (model X.prog X.w) X.A (handleBy e X.env hs) (SP X pins D) X.xe t3) X.xe t2) X.xe t1) (fun u t air => ?_) PassesOwn.looking).run [] s σ H D (I.toTry _) hyp) (fun f t done => ?_) (fun _ _ air => air)
  · obtain ⟨e, G, sI, pq, τ, H1, cls, d, rfl, J0, near, upS, sky0, free, osE, bare, hit, go⟩ := air
    have J : Inv X pins τ H1 sI := J0.ofTry okX
    have sky : Sky G (X.env :: X.outer) e (Zc cls d) X.env.locals t.heap := by rw [← st] <;> exact sky0
    show wpAny (model X.prog X.w) X.A (noteFrame (.ref e) X.env) _ _ _
    refine Sky.land Zc.steady afr fr sky fun hp1 fly1 up1 => ?_
    have J1 : Inv X pins τ H1 { t with heap := hp1 } := J.landed near fly1.1 (upS.trans up1) osE bare
    obtain ⟨o1, fs1, at1, z1, dat1⟩ := fly1.there
    have off : e ∉ frs (X.env :: X.outer) := fun mem => by
      obtain ⟨_, o2, at2, no2⟩ := fly1.2.2.1.mem mem
      have q : o1 = o2 := Option.some.inj (at1.symm.trans at2)
      subst q
      exact no2 _ dat1
    have offL : e ≠ X.env.locals := fun q => off (List.mem_filterMap.mpr ⟨X.env, List.mem_cons_self, by rw [fr, q]⟩)
    have offF : e ∉ X.fs := fun mem => by
      obtain ⟨y, hy, q⟩ := List.mem_filterMap.mp mem
      exact off (List.mem_filterMap.mpr ⟨y, List.mem_cons_of_mem _ hy, q⟩)
    have S1 := J1.suite at1 dat1 free offL offF
    refine wpAny_handleBy_cons (codeAny_handlers_test ?_) (fun q => nomatch q)
    have ty : PySem.W.Looks (model X.prog X.w) hp1 (typeOf (.ref e)) cls := fun A Q E s k q => wpAny_typeOf_ref (k _ _ at1) (by rw [z1.1] <;> exact q)
    have mt := PySem.W.exm_one (M := model X.prog X.w) (J1.kIn) ty hit
    have look : ∀ {Q : Value → Shared → Prop} {E : Value → Shared → Prop}, Q c { t with heap := hp1 } → wpAny (model X.prog X.w) (X.A.mark (some (.ref e))) (eval (.Name x pn) X.env) Q E { t with heap := hp1 } := fun {Q E} q => by
      obtain ⟨gl, nd2, own | ⟨none_, boot, nn⟩⟩ := nm
      · exact ld_glob (X := X.suite e ((e, o1) :: (X.pn ++ pins))) S1 gl own q nd2
      · exact ld_blt (X := X.suite e ((e, o1) :: (X.pn ++ pins))) S1 gl none_ boot q nn nd2
    refine look (mt.here ?_)
    refine codeAny_handlers_suite_as ?_
    refine HandSPX.lands_againZ fly1 fun hp2 fly2 up2 => ?_
    have J2 : Inv X pins τ H1 { t with heap := hp2 } := J.landed near fly2.1 ((upS.trans up1).trans up2) osE bare
    obtain ⟨o2, fs2, at2, z2, dat2⟩ := fly2.there
    have S2 := J2.suite at2 dat2 free offL offF
    refine store_ok (X := X.suite e ((e, o2) :: (X.pn ++ pins))) (v := .ref e) S2 nd at_ lcl rfl (fun t2 S3 => ?_) (.inr lo)
    refine wpAny_mono ((su e o2 cls d (X.pn ++ pins) z2 ⟨_, dat2⟩).run [] t2 _ H1 _ S3 (go e free)) (fun f t3 out => ?_) (fun _ _ q => False.elim q)
    have fin : ∀ {τ1 : L2.St} {H2 : Hp} {R : Shared → Prop}, Inv (X.suite e ((e, o2) :: (X.pn ++ pins))) [] τ1 H2 t3 → (∀ t4, Inv X pins (τ1.set i none) H2 t4 → R t4) →
        wpAny (model X.prog X.w) X.A (do bindName X.env n .none; unbindBehindTheSuite X.env n pw) (fun _ t4 => R t4) X.xe t3 := fun {τ1 H2 R} S4 q => gone_ok (S4.unsuite okX) nd at_ lo q
    match f, out with
    | .next, ⟨_, _, S4, q⟩ => exact fin S4 fun _ J4 => ⟨_, _, J4, q⟩
    | .brk, ⟨_, _, S4, q⟩ => exact fin S4 fun _ J4 => ⟨_, _, J4, q⟩
    | .cont, ⟨_, _, S4, q⟩ => exact fin S4 fun _ J4 => ⟨_, _, J4, q⟩
    | .ret u, ⟨_, _, _, S4, ru, q⟩ => exact fin S4 fun _ J4 => ⟨_, _, _, J4, ru, q⟩
  · match f, done with
    | .next, ⟨_, _, J4, q⟩ => exact wpAny_execs_nil ⟨_, _, J4.ofTry okX, q⟩
    | .brk, ⟨_, _, J4, q⟩ => exact ⟨_, _, J4.ofTry okX, q⟩
    | .cont, ⟨_, _, J4, q⟩ => exact ⟨_, _, J4.ofTry okX, q⟩
    | .ret u, ⟨_, _, _, J4, ru, q⟩ => exact ⟨_, _, _, J4.ofTry okX, ru, q⟩
end
/-- what the written part says of a class with an own == and the != of object, anywhere below object -/
structure NeK (K : PySem.W.Frag) (C f : Addr) : Prop where
  hn : PySem.W.findIn K (.ref C) "__ne__" = some (some (.builtin "object.__ne__"))
  hm : PySem.W.mroIn K C (.type "object") = some true
  hs : PySem.W.findIn K (.ref C) "__eq__" = some (some (.ref f))
  hf : PySem.W.isFn K (.ref f) = true
section
variable {prog : Program} {w : World} {A : Around} {E : Value → Shared → Prop} {s : Shared} {K : PySem.W.Frag} {x y C f : Addr} {ox oy : Obj} {od : Option Obj}
theorem objNe_own {Q : Fin → Shared → Prop} (X : K.In s.heap) (I : PySem.W.InstAt s.heap x ox C od) (c : NeK K C f) (hu : A.units < cLine)
    (h : wpAny (model prog w) A (call (.ref f) [.ref x, .ref y]) (fun v s1 => ∃ b, v = .bool b ∧ Q (.done (.ret (.bool (!b)))) s1) E s) : wpAny (model prog w) A (Builtin.«object.__ne__» ⟨[.ref x, .ref y], []⟩) Q E s := by
  have one : wpAny (model prog w) A (callSpecialIfBound? (.ref x) "__eq__" [.ref y]) (fun r s1 => ∃ b, r = some (.bool b) ∧ Q (.done (.ret (.bool (!b)))) s1) E s :=
    PySem.W.ifBound_K X I c.hs c.hf (wpAny_mono h (fun v s1 ⟨b, e, q⟩ => ⟨b, congrArg some e, q⟩) fun _ _ e => e)
  obtain ⟨hp, g, d, tk, os⟩ := s
  unfold Builtin.«object.__ne__»
  repeat (first
    | with_reducible refine wpAny_cRoomFor hu ?_
    | (refine wpAny_bind (m := callSpecialIfBound? (.ref x) (Str.ofString "__eq__") [.ref y]) (wpAny_mono one (fun r s1 hr => by
          obtain ⟨b, rfl, hq⟩ := hr
          repeat (first | exact hq | exact wpAny_pure hq | exact wpAny_truthy_bool hq | (refine wpAny_bind (m := truthy (.bool _)) (wpAny_truthy_bool ?_)) | wp_step)) fun _ _ e => e))
    | wp_step)
theorem call_objNe {Q : Value → Shared → Prop} (X : K.In s.heap) (I : PySem.W.InstAt s.heap x ox C od) (c : NeK K C f) (hu : A.in1.units < cLine)
    (h : wpAny (model prog w) A.in1 (call (.ref f) [.ref x, .ref y]) (fun v s1 => ∃ b, v = .bool b ∧ Q (.bool (!b)) s1) E s) : wpAny (model prog w) A (call (.builtin "object.__ne__") [.ref x, .ref y]) Q E s :=
  wpAny_call (codeAny_call_builtin F.cmp_object.ne.plain F.cmpEntry_ne (PySem.W.check_slot F.cmpKind_ne F.cmpSplit_ne (I.type.andThen (PySem.W.looks_mroIn X c.hm)) (F.cmpArgs_ne _ _) (objNe_own X I c hu h)))
theorem rc_neK {Q : Value → Shared → Prop} (X : K.In s.heap) (I : PySem.W.InstAt s.heap x ox C od) (c : NeK K C f) (hy : s.heap.get? y = some oy) (cy : oy.cls = .ref C) (hu : A.units + 1 < cLine)
    (h : wpAny (model prog w) A.in1 (call (.ref f) [.ref x, .ref y]) (fun v s1 => ∃ b, v = .bool b ∧ Q (.bool (!b)) s1) E s) : wpAny (model prog w) A (richCompare .NotEq (.ref x) (.ref y)) Q E s := by
  have hu0 : A.units < cLine := Nat.lt_of_succ_lt hu
  have run : wpAny (model prog w) A (callSpecialIfBound? (.ref x) "__ne__" [.ref y]) (fun r s1 => ∃ b, r = some (.bool b) ∧ Q (.bool b) s1) E s := by
    simp only [callSpecialIfBound?, bindSpecialIfBound?]
    refine wpAny_holding (wpAny_bind (wpAny_bind (wpAny_bind (I.type.here ((PySem.W.looks_findIn X c.hn).here ?_)))))
    refine wpAny_bind (wpAny_askSetting (wpAny_ite ?_))
    have fin : wpAny (model prog w) A (call (.builtin "object.__ne__") ([.ref x] ++ [.ref y]) >>= fun v => pure (some v)) (fun r s1 => ∃ b, r = some (.bool b) ∧ Q (.bool b) s1) E s :=
      wpAny_bind (wpAny_mono (call_objNe (Q := fun v s1 => ∃ b, v = .bool b ∧ Q (.bool b) s1) X I c hu (wpAny_mono h (fun v s1 ⟨b, e, q⟩ => ⟨b, e, _, rfl, q⟩) fun _ _ e => e)) (fun v s1 ⟨b, e, q⟩ => wpAny_pure ⟨b, congrArg some e, q⟩) fun _ _ e => e)
    split
    · exact wpAny_bind (wpAny_of_eq (F.cmp_object.ne.bind _) (wpAny_pure (by exact fin)))
    · exact wpAny_tryCatch (wpAny_bind (wpAny_of_eq (F.cmp_object.ne.bind _) (wpAny_pure (by exact fin))))
  have one : wpAny (model prog w) A (tryCompare (.ref x) "__ne__" (.ref y)) (fun r s1 => ∃ b, r = some (.bool b) ∧ Q (.bool b) s1) E s := by
    unfold tryCompare
    refine wpAny_bind (wpAny_mono run (fun r s1 z => ?_) fun _ _ e => e)
    obtain ⟨b, rfl, q⟩ := z
    exact wpAny_pure ⟨b, rfl, q⟩
  unfold richCompare
  simp only [oneThing_ref]
  refine wpAny_holding (wpAny_bind (wpAny_cRoomFor hu0 ?_))
  rw [cmpInfo_NotEq]
  dsimp only
  refine wpAny_bind (I.type.here (wpAny_bind (wpAny_typeOf_ref hy ?_)))
  rw [cy, show (Value.ref C != Value.ref C) = false from by simp]
  simp only [Bool.false_eq_true, if_false]
  refine wpAny_bind (wpAny_pure ?_)
  simp only [Bool.false_eq_true, if_false]
  refine wpAny_bind (wpAny_mono one (fun r s1 z => ?_) fun _ _ e => e)
  obtain ⟨b, rfl, q⟩ := z
  exact wpAny_pure q
end
section
variable {X : Cx} {CX : CXT} {n : Nat} {C f : Addr} {fd : FuncData} {ps : List Str} {R : Addr → V → Bool → Hp → Prop} {E : XK}
/-- x != y of two instances of one such class -/
def rNeK (C : Addr) (R : Addr → V → Bool → Hp → Prop) : R2 := fun x y H Q => ∃ a c b dx dy fs gs, x = .ref a ∧ y = .ref c ∧ H a = some (.ins C dx fs) ∧ H c = some (.ins C dy gs) ∧ R a (.ref c) b H ∧ ∀ H', Ext H H' → Q (.bl (!b)) H'
theorem op_neK (G : FnOk X.prog X.w X.K X.mg X.base CX n f fd ps (spEqB R)) (hc : NeK X.K C f) (hb : Binds X.K fd ps []) (hx : Passes CX X E) (hr : Room (n + 1) X.A) : OpR X (compareOp .NotEq) (rNeK C R) := by
  intro pins s σ H x y v u Q I rx ry hq
  obtain ⟨a, c, b, dx, dy, fs, gs, rfl, rfl, ha, hc1, hR, q⟩ := hq
  cases rx
  cases ry
  obtain ⟨mA, J, _⟩ := ins_get I.hok ha
  obtain ⟨mC, J1, _⟩ := ins_get I.hok hc1
  obtain ⟨od, J, _⟩ := J.look
  obtain ⟨od1, J1, _⟩ := J1.look
  have r1 : Room n X.A.in1 := hr.in1
  have go := own_runB (B := X.A.in1) (y := .ref c) (v := .ref c) G hb hx ⟨r1, rfl⟩ I rfl hR
  show wpAny (model X.prog X.w) X.A (richCompare .NotEq (.ref a) (.ref c)) (EP X pins σ Q) X.xe s
  refine rc_neK I.kIn J hc J1.at_ J1.cls (hu_of hr) (wpAny_mono go (fun r s1 z => ?_) fun _ _ e => e)
  cases r with
  | notImplemented => exact False.elim z
  | bool b' =>
    obtain ⟨e, H1, I1, ex⟩ := z
    cases e
    exact ⟨_, rfl, .bl _, H1, I1, rfl, q H1 ex⟩
  | _ => exact (nomatch z.1)
end
end KpR

namespace KpR
open PySem PySem.Spec PyProof.Rows L2
/-- clause by clause: class, the name's slot, the suite's reading; at the end: what is asked where none takes it -/
def wNam (K : PySem.W.Frag) (Wend : WX) (D : Ends) : List (Value × Nat × (Addr → Value → Option Addr → TS)) → WX
  | [] => Wend
  | (c, i, tz) :: r => fun cls d σ H => ∃ b, PySem.W.exmOne K cls c = some b ∧
    (b = true → ∀ a, H a = none → tz a cls d ⟨fun τ G => D.nx (τ.set i none) G, D.rt, fun τ G => D.bk (τ.set i none) G, fun τ G => D.ct (τ.set i none) G⟩ (σ.set i (some (.ref a))) H) ∧ (b = false → wNam K Wend D r cls d σ H)
/-- the clauses that are looked at; more: those behind them, that are never looked at (Wend is then False) -/
inductive NamOk (X : Cx) (more : List ExceptHandler) : List ExceptHandler → List (Value × Nat × (Addr → Value → Option Addr → TS)) → Prop
  | nil : NamOk X more more []
  | cons {x n : Str} {c : Value} {i : Nat} {tz : Addr → Value → Option Addr → TS} {z₀ : Stmt} {rest : List Stmt} {pn pw : Pos} {hs : List ExceptHandler} {l : List (Value × Nat × (Addr → Value → Option Addr → TS))}
      (at_ : X.N[i]? = some n) (lo : X.env.kindOf n = some .local) (nm : Names X x c)
      (su : ∀ (e : Addr) (oe : Obj) (cls : Value) (d : Option Addr) (qn : List (Addr × Obj)), Zc cls d oe → (∃ fs, oe.data = .fields fs) → PSs (X.suite e ((e, oe) :: qn)) (z₀ :: rest) (tz e cls d)) (r : NamOk X more hs l) :
      NamOk X more (.ExceptHandler (some (.Name x pn)) (some n) (z₀ :: rest) pw :: hs) ((c, i, tz) :: l)
section
variable {X : Cx} {body : List Stmt} {more : List ExceptHandler} {h₀ : ExceptHandler} {hds : List ExceptHandler} {l : List (Value × Nat × (Addr → Value → Option Addr → TS))} {pt : Pos} {tb : WX → TS}
theorem ps_try_nam (st : X.stack = X.env :: X.outer) (fr : X.env.frame = some X.env.locals) (nd : X.N.Nodup)
    (bd : ∀ (W : WX) (qn : List (Addr × Obj)) (xe : Value → Shared → Prop), Takes (X.tr qn xe) W → PassesOwn (model X.prog X.w) X.A X.env xe → PSs (X.tr qn xe) body (tb W))
    (hk : NamOk X more (h₀ :: hds) l) : PS X (.Try body (h₀ :: hds) [] [] pt) (fun D σ H => tb (wNam X.K (fun _ _ _ _ => False) D l) D σ H) := by
  refine ⟨fun pins s σ H D I hyp => ?_⟩
  have okX := I.ok
  have afr : X.A.frames = some (X.env :: X.outer) := by rw [okX.frames, st]
  refine wpAny_Try_except ?_
  refine wpAny_mono ((bd (wNam X.K (fun _ _ _ _ => False) D l) (X.pn ++ pins) (fun e t1 => wpAny (model X.prog X.w) X.A (noteFrame e X.env) (fun _ t2 => wpAny (model X.prog X.w) X.A (setFlight e none) (fun _ t3 =>
    wpAny (model X.prog X.w) X.A (handleBy e X.env (h₀ :: hds)) (SP X pins D) X.xe t3) X.xe t2) X.xe t1) (fun u t air => ?_) PassesOwn.looking).run [] s σ H D (I.toTry _) hyp) (fun f t done => ?_) (fun _ _ air => air)
  · obtain ⟨e, G, sI, pq, τ, H1, cls, d, rfl, J0, near, upS, sky0, free, osE, bare, want⟩ := air
    have J : Inv X pins τ H1 sI := J0.ofTry okX
    have sky : Sky G (X.env :: X.outer) e (Zc cls d) X.env.locals t.heap := by rw [← st] <;> exact sky0
    show wpAny (model X.prog X.w) X.A (noteFrame (.ref e) X.env) _ _ _
    refine Sky.land Zc.steady afr fr sky fun hp1 fly1 up1 => ?_
    have J1 : Inv X pins τ H1 { t with heap := hp1 } := J.landed near fly1.1 (upS.trans up1) osE bare
    obtain ⟨o1, fs1, at1, z1, dat1⟩ := fly1.there
    have off : e ∉ frs (X.env :: X.outer) := fun mem => by
      obtain ⟨_, o2, at2, no2⟩ := fly1.2.2.1.mem mem
      have q : o1 = o2 := Option.some.inj (at1.symm.trans at2)
      subst q
      exact no2 _ dat1
    have offL : e ≠ X.env.locals := fun q => off (List.mem_filterMap.mpr ⟨X.env, List.mem_cons_self, by rw [fr, q]⟩)
    have offF : e ∉ X.fs := fun mem => by
      obtain ⟨y, hy, q⟩ := List.mem_filterMap.mp mem
      exact off (List.mem_filterMap.mpr ⟨y, List.mem_cons_of_mem _ hy, q⟩)
    have S1 := J1.suite at1 dat1 free offL offF
    have ty : PySem.W.Looks (model X.prog X.w) hp1 (typeOf (.ref e)) cls := fun A Q E s k q => wpAny_typeOf_ref (k _ _ at1) (by rw [z1.1] <;> exact q)
    have each : ∀ {hs : List ExceptHandler} {l' : List (Value × Nat × (Addr → Value → Option Addr → TS))}, NamOk X more hs l' → wNam X.K (fun _ _ _ _ => False) D l' cls d τ H1 →
        wpAny (model X.prog X.w) X.A (handleBy (.ref e) X.env hs) (SP X pins D) X.xe { t with heap := hp1 } := by
      intro hs l' ok
      induction ok with
      | nil => exact fun w => w.elim
      | @cons x n c i tz z₀ rest pn pw hs2 l2 at_ lo nm su r ih =>
        rintro ⟨b, hit, go, on⟩
        have lcl : Loc X.env.scope n := .inl lo
        refine wpAny_handleBy_cons (codeAny_handlers_test ?_) (fun q => nomatch q)
        have mt := PySem.W.exm_one (M := model X.prog X.w) (J1.kIn) ty hit
        have look : ∀ {Q : Value → Shared → Prop} {E : Value → Shared → Prop}, Q c { t with heap := hp1 } → wpAny (model X.prog X.w) (X.A.mark (some (.ref e))) (eval (.Name x pn) X.env) Q E { t with heap := hp1 } := fun {Q E} q => by
          obtain ⟨gl, nd2, own | ⟨none_, boot, nn⟩⟩ := nm
          · exact ld_glob (X := X.suite e ((e, o1) :: (X.pn ++ pins))) S1 gl own q nd2
          · exact ld_blt (X := X.suite e ((e, o1) :: (X.pn ++ pins))) S1 gl none_ boot q nn nd2
        refine look (mt.here ?_)
        cases b with
        | false =>
          show wpAny _ X.A (handleBy (.ref e) X.env hs2) _ _ _
          exact ih (on rfl)
        | true =>
          refine codeAny_handlers_suite_as ?_
          refine HandSPX.lands_againZ fly1 fun hp2 fly2 up2 => ?_
          have J2 : Inv X pins τ H1 { t with heap := hp2 } := J.landed near fly2.1 ((upS.trans up1).trans up2) osE bare
          obtain ⟨o2, fs2, at2, z2, dat2⟩ := fly2.there
          have S2 := J2.suite at2 dat2 free offL offF
          refine store_ok (X := X.suite e ((e, o2) :: (X.pn ++ pins))) (v := .ref e) S2 nd at_ lcl rfl (fun t2 S3 => ?_) (.inr lo)
          refine wpAny_mono ((su e o2 cls d (X.pn ++ pins) z2 ⟨_, dat2⟩).run [] t2 _ H1 _ S3 (go rfl e free)) (fun f t3 out => ?_) (fun _ _ q => False.elim q)
          have fin : ∀ {τ1 : L2.St} {H2 : Hp} {R : Shared → Prop}, Inv (X.suite e ((e, o2) :: (X.pn ++ pins))) [] τ1 H2 t3 → (∀ t4, Inv X pins (τ1.set i none) H2 t4 → R t4) →
              wpAny (model X.prog X.w) X.A (do bindName X.env n .none; unbindBehindTheSuite X.env n pw) (fun _ t4 => R t4) X.xe t3 := fun {τ1 H2 R} S4 q => gone_ok (S4.unsuite okX) nd at_ lo q
          match f, out with
          | .next, ⟨_, _, S4, q⟩ => exact fin S4 fun _ J4 => ⟨_, _, J4, q⟩
          | .brk, ⟨_, _, S4, q⟩ => exact fin S4 fun _ J4 => ⟨_, _, J4, q⟩
          | .cont, ⟨_, _, S4, q⟩ => exact fin S4 fun _ J4 => ⟨_, _, J4, q⟩
          | .ret u, ⟨_, _, _, S4, ru, q⟩ => exact fin S4 fun _ J4 => ⟨_, _, _, J4, ru, q⟩
    exact each hk want
  · match f, done with
    | .next, ⟨_, _, J4, q⟩ => exact wpAny_execs_nil ⟨_, _, J4.ofTry okX, q⟩
    | .brk, ⟨_, _, J4, q⟩ => exact ⟨_, _, J4.ofTry okX, q⟩
    | .cont, ⟨_, _, J4, q⟩ => exact ⟨_, _, J4.ofTry okX, q⟩
    | .ret u, ⟨_, _, _, J4, ru, q⟩ => exact ⟨_, _, _, J4.ofTry okX, ru, q⟩
end
end KpR

namespace KpR
open PySem PySem.Spec PyProof.Rows L2
open PySem.AutoSeq1 (wpAny_loadPart')
section
variable {prog : Program} {w : World} {A : Around} {R : Result → Shared → Prop}
/-- up to the first pair that is unlike -/
theorem tup_either (l b : Addr) (us vs : Array Value) (n n2 : Nat) (dd dd2 : Option Addr) (sl sl2 : Array (Option Value)) (ans : Nat → Bool) (J : Shared → Prop)
    (turn : ∀ i (h1 : i < us.size) (h2 : i < vs.size) s, J s → wpAny (model prog w) A.in1 (eqBool us[i] vs[i]) (fun r s' => r = ans i ∧ J s') (fun e s' => R (.error e) s') s)
    (no : ∀ i, i < us.size → i < vs.size → ans i = false → ∀ s, J s → R (.ok (.ret (.bool false))) s)
    (fin : (∀ i, i < us.size → i < vs.size → ans i = true) → ∀ s, J s → R (.ok (.ret (.bool (us.size == vs.size)))) s) {s : Shared}
    (hl : s.heap.get? l = some { cls := .type "tuple", dict := dd, data := .seq us n, slots := sl }) (hb : s.heap.get? b = some { cls := .type "tuple", dict := dd2, data := .seq vs n2, slots := sl2 }) (h : J s) :
    wpAny (model prog w) A.in1 (Builtin.«tuple.__eq__» ⟨[.ref l, .ref b], []⟩) (GQ.FinOf prog w A R) (fun e s' => R (.error e) s') s := by
  have f2 := AutoSeq1.sub_tuple_tuple
  have zl : (us.toList.zip vs.toList).length = min us.size vs.size := by simp
  have h0 := h
  obtain ⟨hp, g, d, tk, os⟩ := s
  wp_walk using wpAny_loadPart' hl, wpAny_loadPart' hb, wpAny_forIn_list _ (fun rest q s' => q.1 = none ∧ J s' ∧ ∃ i, rest = (us.toList.zip vs.toList).drop i ∧ i ≤ min us.size vs.size ∧ ∀ j, j < i → ans j = true) _
  case turn =>
    rintro ⟨y, x⟩ rest q s' ⟨hq, hJ, i, hz, hi, before⟩
    have lt : i < (us.toList.zip vs.toList).length := by
      rcases Nat.lt_or_ge i (us.toList.zip vs.toList).length with c | c
      · exact c
      · rw [List.drop_of_length_le c] at hz
        cases hz
    have lm := Nat.lt_min.mp (zl ▸ lt)
    rw [List.drop_eq_getElem_cons lt] at hz
    injection hz with hp1 hrest
    have ey : y = us[i]'lm.1 := by simpa using congrArg Prod.fst hp1
    have ex : x = vs[i]'lm.2 := by simpa using congrArg Prod.snd hp1
    subst ey ex
    refine wpAny_bind (wpAny_mono (turn i lm.1 lm.2 s' hJ) (fun r s2 z => ?_) fun _ _ e => e)
    obtain ⟨rfl, J2⟩ := z
    cases c : ans i with
    | true =>
      wp_walk
      refine ⟨rfl, J2, i + 1, hrest, Nat.lt_min.mpr lm, fun j hj => ?_⟩
      by_cases e : j = i
      · rw [e]
        exact c
      · exact before j (by omega)
    | false =>
      have out := no i lm.1 lm.2 c s2 J2
      wp_walk
      exact out
  case fin =>
    rintro ⟨q1, q2⟩ s' ⟨hq, hJ, i, hz, hi, before⟩
    simp only at hq
    subst hq
    have ge : min us.size vs.size ≤ i := by
      rcases Nat.lt_or_ge i (us.toList.zip vs.toList).length with c | c
      · rw [List.drop_eq_getElem_cons c] at hz
        cases hz
      · exact zl ▸ c
    have out := fin (fun j h1 h2 => before j (Nat.lt_of_lt_of_le (Nat.lt_min.mpr ⟨h1, h2⟩) ge)) s' hJ
    wp_walk
    simpa [Builtin.Tuple.tupleCompareSizes] using out
  case h =>
    exact ⟨rfl, h0, 0, rfl, Nat.zero_le _, fun j hj => absurd hj (Nat.not_lt_zero _)⟩
end
/-- pair by pair; the answer is that of all of them, and of the lengths -/
def DTupB (K : PySem.W.Frag) (D : EqvB) : EqvB := fun x y b H => ∃ a c xs ys, ∃ an : Nat → Bool, x = .ref a ∧ y = .ref c ∧ SqT K H a xs ∧ SqT K H c ys ∧
  (∀ i u v, xs[i]? = some u → ys[i]? = some v → ∀ H', Ext H H' → D u v (an i) H') ∧ (b = true ↔ xs.length = ys.length ∧ ∀ i, i < xs.length → an i = true)
section
variable {X : Cx} {n : Nat} {D : EqvB}
theorem rcB_tup (h : EqB X n D) : RcB X (n + 1) (DTupB X.K D) := by
  intro B pins s σ H x y b u v sb I rx ry hd
  obtain ⟨a, c, xs, ys, an, rfl, rfl, ha, hc, hp, hb⟩ := hd
  cases rx
  cases ry
  obtain ⟨us, r1, ⟨⟨cl, dd, dt, sl⟩, e1, e2, k, e3⟩, _⟩ := I.tuple ha
  obtain ⟨vs, r2, ⟨⟨cl2, dd2, dt2, sl2⟩, g1, g2, k2, g3⟩, _⟩ := I.tuple hc
  simp only at e2 e3 g2 g3
  subst e2 e3 g2 g3
  have l1 : us.toArray.size = xs.length := by rw [List.size_toArray, r1.length]
  have l2 : vs.toArray.size = ys.length := by rw [List.size_toArray, r2.length]
  refine wpAny_richCompare_same_room (op := .Eq) ⟨_, e1, rfl⟩ ⟨_, g1, rfl⟩ F.slot_tuple_eq (GQ.call_here F.slot_tuple_eq ⟨_, e1, rfl⟩ F.entry_tuple_eq (F.args_tuple_eq_2 _ _) ?_) sb.room.units0
  refine tup_either (R := wants (fun r s' => r ≠ .notImplemented ∧ (r = .bool b ∧ LoopI X pins σ H s')) X.xe) a c us.toArray vs.toArray k k2 dd dd2 sl sl2 an (LoopI X pins σ H) (fun i h1 h2 s1 hJ => ?_) (fun i h1 h2 no s1 hJ => ?_) (fun all s1 hJ => ?_) e1 g1 ⟨H, I, Ext.rfl'⟩
  · obtain ⟨H1, I1, x1⟩ := hJ
    have i1 : i < xs.length := by omega
    have i2 : i < ys.length := by omega
    obtain ⟨p, hp1, rp⟩ := r1.get (List.getElem?_eq_getElem i1)
    obtain ⟨q, hq1, rq⟩ := r2.get (List.getElem?_eq_getElem i2)
    have ep : us.toArray[i] = p := by
      obtain ⟨_, z⟩ := List.getElem?_eq_some_iff.mp hp1
      simpa using z
    have eq : vs.toArray[i] = q := by
      obtain ⟨_, z⟩ := List.getElem?_eq_some_iff.mp hq1
      simpa using z
    rw [ep, eq]
    refine wpAny_mono (h B.in1 pins s1 σ H1 _ _ (an i) p q sb.in1 I1 rp rq (hp i _ _ (List.getElem?_eq_getElem i1) (List.getElem?_eq_getElem i2) H1 x1)) (fun r s2 z => ?_) fun _ _ e => e
    obtain ⟨er, H2, I2, x2⟩ := z
    exact ⟨er, H2, I2, x1.trans x2⟩
  · have eb : b = false := by
      cases b with
      | false => rfl
      | true =>
        have z := (hb.mp rfl).2 i (by omega)
        rw [no] at z
        cases z
    subst eb
    exact ⟨(fun z => nomatch z), rfl, hJ⟩
  · have eb : (us.toArray.size == vs.toArray.size) = b := by
      rw [l1, l2]
      cases b with
      | true => exact beq_iff_eq.mpr (hb.mp rfl).1
      | false =>
        refine beq_eq_false_iff_ne.mpr fun e => ?_
        have z := hb.mpr ⟨e, fun i hi => all i (by omega) (by omega)⟩
        cases z
    rw [eb]
    exact ⟨(fun z => nomatch z), rfl, hJ⟩
end
end KpR

namespace KpR
open PySem PySem.Spec PyProof.Rows L2
open PySem.AutoSeq1 (wpAny_loadPart')
section
variable {prog : Program} {w : World} {A : Around} {R : Result → Shared → Prop}
theorem tup_ne_like (l b : Addr) (us vs : Array Value) (n n2 : Nat) (dd dd2 : Option Addr) (sl sl2 : Array (Option Value)) (sz : us.size = vs.size) (J : Shared → Prop)
    (turn : ∀ i (h1 : i < us.size) (h2 : i < vs.size) s, J s → wpAny (model prog w) A.in1 (eqBool us[i] vs[i]) (fun r s' => r = true ∧ J s') (fun e s' => R (.error e) s') s)
    (fin : ∀ s, J s → R (.ok (.ret (.bool false))) s) {s : Shared}
    (hl : s.heap.get? l = some { cls := .type "tuple", dict := dd, data := .seq us n, slots := sl }) (hb : s.heap.get? b = some { cls := .type "tuple", dict := dd2, data := .seq vs n2, slots := sl2 }) (h : J s) :
    wpAny (model prog w) A.in1 (Builtin.«tuple.__ne__» ⟨[.ref l, .ref b], []⟩) (GQ.FinOf prog w A R) (fun e s' => R (.error e) s') s := by
  have f2 := AutoSeq1.sub_tuple_tuple
  have zl : (us.toList.zip vs.toList).length = us.size := by simp [sz]
  have h0 := h
  obtain ⟨hp, g, d, tk, os⟩ := s
  wp_walk using wpAny_loadPart' hl, wpAny_loadPart' hb, wpAny_forIn_list _ (fun rest q s' => q.1 = none ∧ J s' ∧ ∃ i, rest = (us.toList.zip vs.toList).drop i ∧ i ≤ us.size) _
  case turn =>
    rintro ⟨y, x⟩ rest q s' ⟨hq, hJ, i, hz, hi⟩
    have lt : i < (us.toList.zip vs.toList).length := by
      rcases Nat.lt_or_ge i (us.toList.zip vs.toList).length with c | c
      · exact c
      · rw [List.drop_of_length_le c] at hz
        cases hz
    have l1 : i < us.size := zl ▸ lt
    have l2 : i < vs.size := sz ▸ l1
    rw [List.drop_eq_getElem_cons lt] at hz
    injection hz with hp1 hrest
    have ey : y = us[i] := by simpa using congrArg Prod.fst hp1
    have ex : x = vs[i] := by simpa using congrArg Prod.snd hp1
    subst ey ex
    refine wpAny_bind (wpAny_mono (turn i l1 l2 s' hJ) (fun r s2 z => ?_) fun _ _ e => e)
    obtain ⟨rfl, J2⟩ := z
    wp_walk
    exact ⟨rfl, J2, i + 1, hrest, l1⟩
  case fin =>
    rintro ⟨q1, q2⟩ s' ⟨hq, hJ, i, hz, hi⟩
    simp only at hq
    subst hq
    have out := fin s' hJ
    wp_walk
    simpa [Builtin.Tuple.tupleCompareSizes, sz] using out
  case h =>
    exact ⟨rfl, h0, 0, rfl, Nat.zero_le _⟩
end
section
variable {X : Cx} {n : Nat} {D : EqvB}
/-- x != y, two tuples that are equal pair by pair -/
def rNeTup (K : PySem.W.Frag) (D : EqvB) : R2 := fun x y H Q => ∃ (a c : Addr) (xs ys : List V), x = .ref a ∧ y = .ref c ∧ SqT K H a xs ∧ SqT K H c ys ∧ xs.length = ys.length ∧
  (∀ (i : Nat) (u v : V), xs[i]? = some u → ys[i]? = some v → ∀ H' : Hp, Ext H H' → D u v true H') ∧ ∀ H' : Hp, Ext H H' → Q (.bl false) H'
theorem op_neTup (h : EqB X n D) (hr : Room (n + 1) X.A) : OpR X (compareOp .NotEq) (rNeTup X.K D) := by
  intro pins s σ H x y u v Q I rx ry hd
  obtain ⟨a, c, xs, ys, rfl, rfl, ha, hc, hlen, hp, q⟩ := hd
  cases rx
  cases ry
  obtain ⟨us, r1, ⟨⟨cl, dd, dt, sl⟩, e1, e2, k, e3⟩, _⟩ := I.tuple ha
  obtain ⟨vs, r2, ⟨⟨cl2, dd2, dt2, sl2⟩, g1, g2, k2, g3⟩, _⟩ := I.tuple hc
  simp only at e2 e3 g2 g3
  subst e2 e3 g2 g3
  have l1 : us.toArray.size = xs.length := by rw [List.size_toArray, r1.length]
  have l2 : vs.toArray.size = ys.length := by rw [List.size_toArray, r2.length]
  have sb : Sub X (n + 1) X.A := ⟨hr, rfl⟩
  show wpAny (model X.prog X.w) X.A (richCompare .NotEq (.ref a) (.ref c)) (EP X pins σ Q) X.xe s
  refine wpAny_richCompare_same_room (op := .NotEq) ⟨_, e1, rfl⟩ ⟨_, g1, rfl⟩ F.slot_tuple_ne (GQ.call_here F.slot_tuple_ne ⟨_, e1, rfl⟩ F.entry_tuple_ne (F.args_tuple_ne_2 _ _) ?_) hr.units0
  refine tup_ne_like (R := wants (fun r s' => r ≠ .notImplemented ∧ EP X pins σ Q r s') X.xe) a c us.toArray vs.toArray k k2 dd dd2 sl sl2 (by omega) (LoopI X pins σ H) (fun i h1 h2 s1 hJ => ?_) (fun s1 hJ => ?_) e1 g1 ⟨H, I, Ext.rfl'⟩
  · obtain ⟨H1, I1, x1⟩ := hJ
    have i1 : i < xs.length := by omega
    have i2 : i < ys.length := by omega
    obtain ⟨p, hp1, rp⟩ := r1.get (List.getElem?_eq_getElem i1)
    obtain ⟨q1, hq1, rq⟩ := r2.get (List.getElem?_eq_getElem i2)
    have ep : us.toArray[i] = p := by
      obtain ⟨_, z⟩ := List.getElem?_eq_some_iff.mp hp1
      simpa using z
    have eq : vs.toArray[i] = q1 := by
      obtain ⟨_, z⟩ := List.getElem?_eq_some_iff.mp hq1
      simpa using z
    rw [ep, eq]
    refine wpAny_mono (h X.A.in1 pins s1 σ H1 _ _ true p q1 sb.in1 I1 rp rq (hp i _ _ (List.getElem?_eq_getElem i1) (List.getElem?_eq_getElem i2) H1 x1)) (fun r s2 z => ?_) fun _ _ e => e
    obtain ⟨er, H2, I2, x2⟩ := z
    exact ⟨er, H2, I2, x1.trans x2⟩
  · obtain ⟨H1, I1, x1⟩ := hJ
    exact ⟨(fun z => nomatch z), .bl false, H1, I1, rfl, q H1 x1⟩
end
end KpR

namespace KpR
open PySem PySem.Spec PyProof.Rows L2
section
variable {α : Type} {K : PySem.W.Frag} {H : Hp} {f : α → PyData}
theorem dp_map {R : V → α → Prop} (h : ∀ t x, R t x → Dp K H t (f x)) : ∀ {ts : List V} {l : List α}, A2 R ts l → DpAll K H ts (l.map f)
  | [], [], _ => .nil
  | _ :: _, _ :: _, k => .cons (h _ _ k.1) (dp_map h k.2)
  | [], _ :: _, k => k.elim
  | _ :: _, [], k => k.elim
theorem lay_map : ∀ {l : List α}, (∀ x ∈ l, (f x).canLay0 = true) → PyData.canLayAll0 (l.map f) = true
  | [], _ => by simp [PyData.canLayAll0]
  | x :: l, h => by
    simp only [List.map_cons, PyData.canLayAll0, h x (List.mem_cons_self ..), Bool.true_and]
    exact lay_map fun y hy => h y (List.mem_cons_of_mem _ hy)
theorem dep_map {n : Nat} : ∀ {l : List α}, (∀ x ∈ l, (f x).depth ≤ n) → PyData.depthAll (l.map f) ≤ n
  | [], _ => by simp [PyData.depthAll]
  | x :: l, h => by
    simp only [List.map_cons, PyData.depthAll]
    exact Nat.max_le.mpr ⟨h x (List.mem_cons_self ..), dep_map fun y hy => h y (List.mem_cons_of_mem _ hy)⟩
theorem eqv_map [DecidableEq α] (h : ∀ x y, (f x).eqv (f y) = decide (x = y)) : ∀ {l m : List α}, PyData.eqvAll (l.map f) (m.map f) = decide (l = m)
  | [], [] => by simp [PyData.eqvAll]
  | [], _ :: _ => by simp [PyData.eqvAll]
  | _ :: _, [] => by simp [PyData.eqvAll]
  | x :: l, y :: m => by
    simp only [List.map_cons, PyData.eqvAll, h, eqv_map h (l := l) (m := m)]
    by_cases h1 : x = y
    · by_cases h2 : l = m <;> simp [h1, h2]
    · simp [h1]
/-- what can be compared: of no great depth -/
structure Flat (n : Nat) (d : PyData) : Prop where
  lay : d.canLay0 = true
  dep : d.depth ≤ n
theorem Flat.sh {n : Nat} {d : PyData} (h : Flat n d) (hn : n ≤ 64) : SeqAt.shaped d = true := by
  unfold SeqAt.shaped
  rw [h.lay, decide_eq_true (Nat.le_trans h.dep hn)]
  rfl
theorem Flat.list {n : Nat} {l : List α} (h : ∀ x ∈ l, Flat n (f x)) : Flat (n + 1) (.list (l.map f)) :=
  ⟨by simp only [PyData.canLay0]; exact lay_map fun x hx => (h x hx).lay, by simp only [PyData.depth]; exact Nat.succ_le_succ (dep_map fun x hx => (h x hx).dep)⟩
theorem Flat.tup {n : Nat} {l : List α} (h : ∀ x ∈ l, Flat n (f x)) : Flat (n + 1) (.tuple (l.map f)) :=
  ⟨by simp only [PyData.canLay0]; exact lay_map fun x hx => (h x hx).lay, by simp only [PyData.depth]; exact Nat.succ_le_succ (dep_map fun x hx => (h x hx).dep)⟩
theorem Flat.int {n : Nat} {i : Int} : Flat n (.int i) := ⟨rfl, Nat.zero_le _⟩
theorem Flat.bl {n : Nat} {b : Bool} : Flat n (.bool b) := ⟨rfl, Nat.zero_le _⟩
theorem Flat.non {n : Nat} : Flat n .none := ⟨rfl, Nat.zero_le _⟩
theorem Flat.str {n : Nat} {x : Str} (h : (PyData.str x).canLay0 = true) : Flat n (.str x) := ⟨h, Nat.zero_le _⟩
theorem Flat.mono {n m : Nat} {d : PyData} (h : Flat n d) (k : n ≤ m) : Flat m d := ⟨h.lay, Nat.le_trans h.dep k⟩
theorem eqv_int {i j : Int} : PyData.eqv (.int i) (.int j) = decide (i = j) := by
  simp only [PyData.eqv]
  by_cases h : i = j <;> simp [h]
/-- != and == of data -/
theorem neD {x y : V} {d e : PyData} {Q : VK} (h1 : Dp K H x d) (h2 : Dp K H y e) (f1 : Flat 60 d) (f2 : Flat 60 e) (q : Q (.bl (!PyData.eqv d e)) H) : rNeD K x y H Q := ⟨d, e, h1, h2, f1.sh (by decide), f2.sh (by decide), q⟩
theorem eqD {x y : V} {d e : PyData} {Q : VK} (h1 : Dp K H x d) (h2 : Dp K H y e) (f1 : Flat 60 d) (f2 : Flat 60 e) (q : Q (.bl (PyData.eqv d e)) H) : rEqD K x y H Q := ⟨d, e, h1, h2, f1.sh (by decide), f2.sh (by decide), q⟩
end
end KpR

namespace KpR
open PySem PySem.Spec PySem.Calls PyProof.Rows L2
section
variable {prog : Program} {w : World} {K : PySem.W.Frag} {x D : Addr}
/-- what a class says of itself on its instances, whatever fields they have -/
theorem fo_class {od : Option Obj} (hc : (PySem.W.clsIn K D).isSome = true) (ha : PySem.W.findIn K (.ref D) "__class__" = some (some (.builtin "object.__class__"))) (hg : PySem.W.specialIn K (.builtin "object.__class__") "__get__" = some (some (.builtin "getset_descriptor.__get__"))) (ht : PySem.W.takesIn K (.builtin "object.__class__") = some true) :
    PySem.W.findObj K D od "__class__" = some (.bind (.builtin "getset_descriptor.__get__") (.builtin "object.__class__")) := by
  obtain ⟨cd, q⟩ := Option.isSome_iff_exists.mp hc
  unfold PySem.W.findObj
  rw [q, Option.bind_some, ha, Option.bind_some]
  simp [hg, ht]
theorem exc_class (C : ExcC K D) {A : Around} {E : Value → Shared → Prop} {Q : Option Value → Shared → Prop} {s : Shared} {ox : Obj} {od : Option Obj} (X : K.In s.heap) (J : PySem.W.InstAt s.heap x ox D od) (q : Q (some (.ref D)) { s with toks := s.toks + 1 }) :
    wpAny (model prog w) A (getAttr? (.ref x) "__class__") Q E s := by
  have fo : PySem.W.findObj K D od "__class__" = _ := fo_class (by obtain ⟨cd, hc, _⟩ := PySem.W.any_some C.hd; rw [hc]; rfl) C.ha C.hn C.ht
  obtain ⟨hp, sg, sd, st, so⟩ := s
  have ty := J.type (M := model prog w)
  have l1 := PySem.W.looks_findIn (M := model prog w) X C.hg
  have l2 := PySem.W.looks_findIn (M := model prog w) X C.hk
  have l3 := PySem.W.looks_find (M := model prog w) X J fo
  have isx : PySem.W.Looks (model prog w) hp (isInstance (.ref x) (.type "BaseException")) true := ty.andThen (PySem.W.looks_subIn X C.hs)
  have n1 : (Value.builtin "BaseException.__getattribute__" == Value.builtin "object.__getattribute__") = false := by decide +kernel
  have n2 : (onTheHeap (Value.ref D) && Value.builtin "BaseException.__getattribute__" == Value.builtin "object.__getattribute__") = false := by rw [n1]; rfl
  have n3 : (false && onTheHeap (Value.builtin "BaseException.__getattribute__")) = false := rfl
  unfold getAttr? getAttrBy? getAttrBy
  refine wpAny_bind (wpAny_mkText (wpAny_bind (wpAny_attempt (wpAny_holding (wpAny_bind (ty.at (wpAny_bind (l1.at ?_))))))))
  refine (congrArg (fun c : Bool => wpAny (model prog w) A (if c = true then _ else _) _ _ _) n2).mpr ?_
  rw [if_neg Bool.false_ne_true]
  unfold getAttrByItsOwn hookBefore
  refine wpAny_bind ?_
  rw [if_pos (show onTheHeap (Value.ref D) = true from rfl)]
  refine l2.at (wpAny_bind (wpAny_attempt (wpAny_holding ?_)))
  unfold callGetattribute
  rw [n3, if_neg Bool.false_ne_true]
  unfold boundAndCalled
  rw [PySem.F.excAttr_ValueError.ga.bind (.ref x)]
  refine wpAny_bind (wpAny_pure (show wpAny _ _ (call (.builtin "BaseException.__getattribute__") [.ref x, .str "__class__" st]) _ _ _ from ?_))
  refine wpAny_call (codeAny_call_builtin PySem.F.excAttr_ValueError.ga.plain PySem.F.entry_bexc_ga ?_)
  refine @PySem.W.check_slot (model prog w) _ _ ⟨hp, sg, sd, st + 1, so⟩ "BaseException.__getattribute__" "BaseException" "__getattribute__" (.ref x) [.str "__class__" st] [] _ (by decide +kernel) (by decide +kernel) isx (PySem.F.args_bexc_ga (.ref x) (.str "__class__" st)) ?_
  unfold Builtin.«object.__getattribute__»
  refine wpAny_bind (wpAny_of_eq (a := ((Value.ref x : Value), [Value.str "__class__" st])) (by first | rfl | (simp only [slotArgs]; rfl)) (wpAny_bind (wpAny_pure (wpAny_bind (ty.at (wpAny_bind (l3.at ?_)))))))
  show wpAny _ _ (holding [Value.builtin "object.__class__"] (call (.builtin "getset_descriptor.__get__") [.builtin "object.__class__", .ref x, .ref D]) >>= ret) _ _ _
  refine wpAny_bind (wpAny_holding (wpAny_call (PySem.W.class_get (s := ⟨hp, sg, sd, st + 1, so⟩) (ox := ox) (od := od) X J C.hm (wpAny_pure ?_))))
  show wpAny _ _ (handedOut (.ref D)) _ _ _
  rw [PySem.W.handedOut_of (v := .ref D) rfl]
  first
    | exact wpAny_pure (wpAny_pure q)
    | exact wpAny_pure q
    | exact wpAny_pure (wpAny_bind (wpAny_pure (wpAny_pure q)))
theorem kit_exd (C : ExcC K D) : PySem.W.KitX K (.ref x) (.ref D) (fun h => ∃ ox od, PySem.W.InstAt h x ox D od) := by
  obtain ⟨cdD, hcD, _⟩ := PySem.W.any_some C.hd
  have at_ : ∃ (o : Obj) (cd : ClassData), K.lookup D = some o ∧ o.data = .cls cd := by
    unfold PySem.W.clsIn at hcD
    split at hcD
    · rename_i ho
      exact ⟨_, _, ho, rfl⟩
    · cases hcD
  obtain ⟨o, cd, ho, hd⟩ := at_
  refine ⟨fun _ _ _ ⟨_, _, J⟩ => J.type, fun _ _ X _ => ?_, fun h tp dd its n sl X e => ?_, fun X ⟨_, _, J⟩ q => exc_class C X J q⟩
  · intro A' Q' E' s' k q
    unfold isType loadHead
    obtain ⟨oc, od, oda, osl⟩ := o
    cases hd
    exact wpAny_bind (wpAny_loadPart (k _ _ (X _ _ ho)) (wpAny_pure q))
  · refine Bool.eq_false_iff.mpr fun z => ?_
    obtain rfl := Value.ref.inj (beq_iff_eq.mp z)
    have z := (X _ _ ho).symm.trans e
    cases z
    cases hd
end
/-- isinstance(e, c), e the exception that the suite holds, of whatever fields -/
def rIsX (K : PySem.W.Frag) (a D : Addr) (cls : Value) (d : Option Addr) : List V → Hp → VK → Prop := fun xs H Q => ∃ (c : V) (cv : Value) (b : Bool) (dd : Addr) (fs : List (Str × V)), xs = [.ref a, c] ∧ (∀ u, RelV c u → u = cv) ∧ PySem.W.kitOne K (.ref D) cv = some b ∧ cls = .ref D ∧ d = some dd ∧ H dd = some (.xd fs) ∧ Q (.bl b) H
theorem call_isX {X : Cx} {a D : Addr} {oe : Obj} {d : Option Addr} {pn : List (Addr × Obj)} {cls : Value} (C : ExcC X.K D) (hz : Zc cls d oe) (hf : ∃ vs, oe.data = .fields vs) :
    CallR (X.suite a ((a, oe) :: pn)) (.builtin "isinstance") (rIsX X.K a D cls d) := by
  intro pins s σ H xs us Q I r h
  obtain ⟨c, cv, b, dd, fs, rfl, hcv, e, rfl, rfl, hdd, q⟩ := h
  cases r with
  | cons rx rr =>
    cases rr with
    | cons rt rr =>
      cases rr
      cases rx
      obtain rfl := hcv _ rt
      obtain ⟨hget, _⟩ := I.pin (a, oe) (List.mem_append_left _ List.mem_cons_self)
      obtain ⟨vs, hv⟩ := hf
      obtain ⟨mA, hns, _⟩ : ObjOk X.prog X.w H s.heap dd (.xd fs) := I.hok dd _ hdd
      obtain ⟨od, ho, _⟩ := lookIn_ns hns
      have J : PySem.W.InstAt s.heap a oe D (some od) := ⟨hget, hz.1, by unfold PySem.W.notCls; rw [hv] <;> rfl, by rw [hz.2]; exact ho⟩
      exact PySem.W.kia_one (kit_exd C) I.kIn ⟨_, _, J⟩ e (fun z => nomatch z) fun tk => ⟨.bl b, H, I.kept (t' := tk) fun _ _ z => z, rfl, q⟩
end KpR

namespace KpR
open PySem PySem.Spec PyProof.Rows L2
section
variable {prog : Program} {w : World} {A : Around} {E : Value → Shared → Prop} {s : Shared} {K : PySem.W.Frag} {x y C C' f : Addr} {ox oy : Obj} {od : Option Obj}
theorem rc_neX {Q : Value → Shared → Prop} (X : K.In s.heap) (I : PySem.W.InstAt s.heap x ox C od) (c : NeK K C f) (hy : s.heap.get? y = some oy) (cy : oy.cls = .ref C') (nf : PySem.W.notFirst K C (.ref C') = true) (hu : A.units + 1 < cLine)
    (h : wpAny (model prog w) A.in1 (call (.ref f) [.ref x, .ref y]) (fun v s1 => ∃ b, v = .bool b ∧ Q (.bool (!b)) s1) E s) : wpAny (model prog w) A (richCompare .NotEq (.ref x) (.ref y)) Q E s := by
  by_cases ne : C' = C
  · exact rc_neK X I c hy (by rw [cy, ne]) hu h
  have hsub : PySem.W.subIn K (.ref C') (.ref C) = some false := by
    unfold PySem.W.notFirst at nf
    rcases Bool.or_eq_true_iff.mp nf with k | k
    · exact absurd (Value.ref.inj (eq_of_beq k)) ne
    · exact eq_of_beq k
  have hu0 : A.units < cLine := Nat.lt_of_succ_lt hu
  have run : wpAny (model prog w) A (callSpecialIfBound? (.ref x) "__ne__" [.ref y]) (fun r s1 => ∃ b, r = some (.bool b) ∧ Q (.bool b) s1) E s := by
    simp only [callSpecialIfBound?, bindSpecialIfBound?]
    refine wpAny_holding (wpAny_bind (wpAny_bind (wpAny_bind (I.type.here ((PySem.W.looks_findIn X c.hn).here ?_)))))
    refine wpAny_bind (wpAny_askSetting (wpAny_ite ?_))
    have fin : wpAny (model prog w) A (call (.builtin "object.__ne__") ([.ref x] ++ [.ref y]) >>= fun v => pure (some v)) (fun r s1 => ∃ b, r = some (.bool b) ∧ Q (.bool b) s1) E s :=
      wpAny_bind (wpAny_mono (call_objNe (Q := fun v s1 => ∃ b, v = .bool b ∧ Q (.bool b) s1) X I c hu (wpAny_mono h (fun v s1 ⟨b, e, q⟩ => ⟨b, e, _, rfl, q⟩) fun _ _ e => e)) (fun v s1 ⟨b, e, q⟩ => wpAny_pure ⟨b, congrArg some e, q⟩) fun _ _ e => e)
    split
    · exact wpAny_bind (wpAny_of_eq (F.cmp_object.ne.bind _) (wpAny_pure (by exact fin)))
    · exact wpAny_tryCatch (wpAny_bind (wpAny_of_eq (F.cmp_object.ne.bind _) (wpAny_pure (by exact fin))))
  have one : wpAny (model prog w) A (tryCompare (.ref x) "__ne__" (.ref y)) (fun r s1 => ∃ b, r = some (.bool b) ∧ Q (.bool b) s1) E s := by
    unfold tryCompare
    refine wpAny_bind (wpAny_mono run (fun r s1 z => ?_) fun _ _ e => e)
    obtain ⟨b, rfl, q⟩ := z
    exact wpAny_pure ⟨b, rfl, q⟩
  unfold richCompare
  simp only [oneThing_ref]
  refine wpAny_holding (wpAny_bind (wpAny_cRoomFor hu0 ?_))
  rw [cmpInfo_NotEq]
  dsimp only
  refine wpAny_bind (I.type.here (wpAny_bind (wpAny_typeOf_ref hy ?_)))
  have nb : (Value.ref C != Value.ref C') = true := by
    rw [bne_iff_ne]
    exact fun z => ne (Value.ref.inj z).symm
  rw [cy, nb]
  simp only [if_true]
  refine wpAny_bind ((PySem.W.looks_subIn X hsub).here ?_)
  simp only [Bool.false_eq_true, if_false]
  refine wpAny_bind (wpAny_mono one (fun r s1 z => ?_) fun _ _ e => e)
  obtain ⟨b, rfl, q⟩ := z
  exact wpAny_pure q
end
section
variable {X : Cx} {CX : CXT} {n : Nat} {C f : Addr} {fd : FuncData} {ps : List Str} {R : Addr → V → Bool → Hp → Prop} {E : XK}
/-- x != y of two instances, the second of no class below the first one's -/
def rNeX (K : PySem.W.Frag) (C : Addr) (R : Addr → V → Bool → Hp → Prop) : R2 := fun x y H Q => ∃ b, DInsB K C R x y b H ∧ ∀ H', Ext H H' → Q (.bl (!b)) H'
theorem op_neX (G : FnOk X.prog X.w X.K X.mg X.base CX n f fd ps (spEqB R)) (hc : NeK X.K C f) (hb : Binds X.K fd ps []) (hx : Passes CX X E) (hr : Room (n + 1) X.A) : OpR X (compareOp .NotEq) (rNeX X.K C R) := by
  intro pins s σ H x y v u Q I rx ry hq
  obtain ⟨b, ⟨a, c, C', dx, dy, fs, gs, rfl, rfl, ha, hc1, nf, hR⟩, q⟩ := hq
  cases rx
  cases ry
  obtain ⟨mA, J, _⟩ := ins_get I.hok ha
  obtain ⟨mC, J1, _⟩ := ins_get I.hok hc1
  obtain ⟨od, J, _⟩ := J.look
  obtain ⟨od1, J1, _⟩ := J1.look
  have r1 : Room n X.A.in1 := hr.in1
  have go := own_runB (B := X.A.in1) (y := .ref c) (v := .ref c) G hb hx ⟨r1, rfl⟩ I rfl hR
  show wpAny (model X.prog X.w) X.A (richCompare .NotEq (.ref a) (.ref c)) (EP X pins σ Q) X.xe s
  refine rc_neX I.kIn J hc J1.at_ J1.cls nf (hu_of hr) (wpAny_mono go (fun r s1 z => ?_) fun _ _ e => e)
  cases r with
  | notImplemented => exact False.elim z
  | bool b' =>
    obtain ⟨e, H1, I1, ex⟩ := z
    cases e
    exact ⟨_, rfl, .bl _, H1, I1, rfl, q H1 ex⟩
  | _ => cases z.1
/-- x == y, two lists equal pair by pair -/
def DAll (D : EqvB) : Eqv := fun x y H => ∀ H', Ext H H' → D x y true H'
theorem mon_all (D : EqvB) : Mon (DAll D) := fun _ _ _ _ e d H' e' => d H' (e.trans e')
theorem eqG_all {D : EqvB} (h : EqB X n D) : EqG X n (DAll D) := fun B pins s σ H x y u v sb I rx ry d => h B pins s σ H x y true u v sb I rx ry (d H Ext.rfl')
/-- x != y, two lists of just the same objects -/
def rNeSame (K : PySem.W.Frag) : R2 := fun x y H Q => ∃ a c xs, x = .ref a ∧ y = .ref c ∧ H a = some (.lst xs) ∧ H c = some (.lst xs) ∧ (∀ z ∈ xs, ∃ p, z = V.ref p) ∧ Q (.bl false) H
theorem refs_same : ∀ {xs : List V} {us vs : List Value}, (∀ z ∈ xs, ∃ p, z = V.ref p) → Vals xs us → Vals xs vs → us = vs
  | [], _, _, _, .nil, .nil => rfl
  | x :: xs, _, _, h, .cons r1 k1, .cons r2 k2 => by
    obtain ⟨p, rfl⟩ := h x (List.mem_cons_self ..)
    cases r1
    cases r2
    rw [refs_same (fun z hz => h z (List.mem_cons_of_mem _ hz)) k1 k2]
theorem op_neSame (hu : X.A.units < cLine) : OpR X (compareOp .NotEq) (rNeSame X.K) := by
  intro pins s σ H x y v u Q I rx ry hq
  obtain ⟨a, c, xs, rfl, rfl, ha, hc, hr, q⟩ := hq
  cases rx
  cases ry
  obtain ⟨z, its, k, r, e⟩ := I.hok a _ ha
  obtain ⟨z2, its2, k2, r2, e2⟩ := I.hok c _ hc
  obtain rfl := refs_same hr r r2
  show wpAny (model X.prog X.w) X.A (richCompare .NotEq (.ref a) (.ref c)) (EP X pins σ Q) X.xe s
  refine wpAny_richCompare_same_room (op := .NotEq) ⟨_, e, rfl⟩ ⟨_, e2, rfl⟩ F.slot_list_ne (GQ.call_here F.slot_list_ne ⟨_, e, rfl⟩ F.entry_list_ne (F.args_list_ne_2 _ _) ?_) hu
  refine SeqAt.list_neAt a c its.toArray its.toArray k k2 none none #[] #[] rfl (fun _ => true) X.prog X.w X.A (wants (fun v s' => v ≠ .notImplemented ∧ EP X pins σ Q v s') X.xe) s ⟨e, e2, fun j h1 h2 => SeqAt.EqAt.same _, ?_⟩
  have al : (List.range its.toArray.size).all (fun _ => true) = true := by simp
  rw [al]
  exact ⟨(fun z => nomatch z), .bl false, H, I, rfl, q⟩
end
section
variable {prog : Program} {w : World} {A : Around} {E : Value → Shared → Prop} {s : Shared}
/-- a tuple's items, taken over into a list of their own -/
theorem collect_tup {l : Addr} {o : Obj} {n : Nat} {vs : List Value} {Q : List Value → Shared → Prop} (ho : s.heap.get? l = some o) (hc : o.cls = .type "tuple") (hd : o.data = .seq vs.toArray n)
    (h : Q vs { s with heap := (s.heap.push (seqObj "list" #[] 0)).update s.heap.objs.size (Obj.mapSeq (· ++ vs.toArray)) }) (hsz : vs.length ≤ sizeLine) : wpAny (model prog w) A (collect (.ref l)) Q E s := by
  have new : (s.heap.push (seqObj "list" #[] 0)).get? s.heap.objs.size = some (seqObj "list" #[] 0) := Heap.get?_push_size _ rfl
  have old : (s.heap.push (seqObj "list" #[] 0)).get? l = some o := Heap.get?_push_of_some _ ho
  unfold collect
  refine wpAny_bind (wpAny_runValue (codeAny_builtin entry_proto_collect' (show wpAny _ _ (do again (.builtin "list.__iadd__" ⟨[← newList [], .ref l], []⟩)) _ _ s from wpAny_bind (wpAny_newList (wpAny_pure ⟨Code.quiet_builtin _ (by decide +kernel), codeAny_builtin entry_list_iadd' ?_⟩)))))
  show wpAny _ _ (Builtin.List.listExtendWith (.ref s.heap.objs.size) (.ref l) (.ref s.heap.objs.size)) _ _ { s with heap := s.heap.push (seqObj "list" #[] 0) }
  unfold Builtin.List.listExtendWith
  have tt : (Value.type "tuple" == Value.type "tuple") = true := rfl
  refine wpAny_bind (wpAny_typeOf (T := "tuple") ⟨o, old, hc⟩ ?_)
  rw [if_pos (by rw [tt]; simp)]
  refine wpAny_bind (listItems_at old hd (wpAny_bind (listItems_at (xs := #[]) (n := 0) new rfl ?_)))
  rw [if_neg (by simp)]
  refine wpAny_bind (listUpdate_at (xs := #[]) (n := 0) new rfl (wpAny_pure ?_) (Nat.zero_le _) (by show (#[] ++ vs.toArray).size ≤ sizeLine + 1; simp only [Array.size_append, List.size_toArray, List.length_nil]; omega))
  refine (show wpAny (model prog w) A (load s.heap.objs.size >>= fun o => match o.data with | .seq xs _ => pure xs.toList | _ => unsupported "internal:collect") Q E _ from wpAny_bind (wpAny_load (get?_update_seq new _) ?_))
  show wpAny _ _ (pure ((#[] : Array Value) ++ vs.toArray).toList) Q E _
  rw [show ((#[] : Array Value) ++ vs.toArray).toList = vs by simp]
  exact wpAny_pure h
theorem sorted_tup {l : Addr} {o : Obj} {n : Nat} {vs : List Value} {ns : List Int} {Q : Value → Shared → Prop} (ho : s.heap.get? l = some o) (hc : o.cls = .type "tuple") (hd : o.data = .seq vs.toArray n) (hI : IntsAre vs ns) (h64 : vs.length < 64)
    (h : ∀ (out : Array Value) (ns' : List Int), IntsAre out.toList ns' → ns'.Perm ns → ns'.Pairwise (· ≤ ·) → Q (.ref (s.heap.objs.size + 1)) { s with heap := sortedAll s.heap vs out }) :
    wpAny (model prog w) A (call (.builtin "sorted") [.ref l]) Q E s := by
  refine Calls.call_function_entry kind_sorted plain_sorted entry_sorted (args_sorted1 _) ?_
  unfold Builtin.«sorted»
  refine wpAny_bind (m := checkCount "sorted" 1 1 _) (wpAny_pure (wpAny_bind (collect_tup ho hc hd (wpAny_bind (wpAny_newList ?_)) (small64 h64))))
  have sz : ((s.heap.push (seqObj "list" #[] 0)).update s.heap.objs.size (Obj.mapSeq (· ++ vs.toArray))).objs.size = s.heap.objs.size + 1 := by rw [Heap.size_update, size_push']
  have at2 : (((s.heap.push (seqObj "list" #[] 0)).update s.heap.objs.size (Obj.mapSeq (· ++ vs.toArray))).push (seqObj "list" vs.toArray 0)).get? (s.heap.objs.size + 1) = some (seqObj "list" vs.toArray 0) := sz ▸ Heap.get?_push_size _ rfl
  show wpAny _ _ _ _ _ { s with heap := ((s.heap.push (seqObj "list" #[] 0)).update s.heap.objs.size (Obj.mapSeq (· ++ vs.toArray))).push (seqObj "list" vs.toArray 0) }
  rw [sz]
  exact wpAny_bind (wpAny_holding (wpAny_call_entry slot_list_sort ⟨_, at2, rfl⟩ entry_list_sort (list_sort_tree at2 hI h64 fun out ns' a1 a2 a3 => ⟨_, rfl, wpAny_pure ⟨_, rfl, h out ns' a1 a2 a3⟩⟩) (args_list_sort _)))
end
section
variable {X : Cx}
/-- sorted(t), t a tuple or a list of ints -/
def rSrt (K : PySem.W.Frag) : List V → Hp → VK → Prop := fun vs H Q => ∃ (a : Addr) (ns : List Int), vs = [V.ref a] ∧ (SqL K H a (ns.map V.int) ∨ SqT K H a (ns.map V.int)) ∧ ns.length < 64 ∧
  ∀ (ns' : List Int) (p : Addr), ns'.Perm ns → ns'.Pairwise (· ≤ ·) → H p = none → Q (.ref p) (upd H p (.lst (ns'.map V.int)))
theorem cr_srt : CallR X (.builtin "sorted") (rSrt X.K) := by
  intro pins s σ H vs us Q I r h
  obtain ⟨a, ns, rfl, hs, h64, q⟩ := h
  rcases hs with hs | hs
  · exact cr_sorted pins s σ H _ us Q I r ⟨a, ns, rfl, hs, h64, q⟩
  obtain ⟨its, rv, ⟨o, ho, hc, n, hd⟩, _⟩ := I.tuple hs
  rw [Vals.ref1 r]
  have hi := rv.ints
  refine sorted_tup ho hc hd hi (by rw [hi.length]; exact h64) fun out ns' h1 h2 h3 => ?_
  obtain ⟨ep, he'⟩ := PyProof.Rows.sortedAll_at s.heap its out
  have hlen : (ns'.map V.int).length ≤ sizeLine := by rw [List.length_map, h2.length_eq]; exact small64 h64
  exact ⟨.ref _, upd H (s.heap.objs.size + 1) (.lst (ns'.map V.int)), I.laid (t' := s.toks) (fun _ _ => PyProof.Rows.sortedAll_old) (Nat.le_succ _) ⟨hlen, out.toList, ep, vals_of_ints h1, he'⟩, rfl, q ns' _ h2 h3 (I.hok.fresh (Nat.le_succ _))⟩
end
end KpR

namespace KpR
open PySem PySem.Spec PyProof.Rows L2
theorem lc_enumT {K : PySem.W.Frag} {a : Addr} {xs : List V} {g : TG} {tt : TT} {te : TE} {vs : List Nat} {σ : L2.St} {H1 : Hp} {D : Addr} {Qd : Hp → Prop} (Pv : Nat → Hp → Prop) (h0 : Pv 0 (upd H1 D (.lst []))) (hl : ∀ i H, i ≤ xs.length → Pv i H → SqT K H a xs)
    (hs : ∀ i x T H, xs[i]? = some x → Pv i H → H T = none → g (.ref T) (wipe σ vs) (upd H T (.tup [.int (i : Nat), x])) fun σ2 H2 => wipe σ2 vs = wipe σ vs ∧ tt σ2 H2 fun b H3 =>
      if b = true then te σ2 H3 fun y H4 => ∃ acc, H4 D = some (.lst acc) ∧ acc.length < sizeLine ∧ Pv (i + 1) (upd H4 D (.lst (acc ++ [y]))) else Pv (i + 1) H3) (hd : ∀ H, Pv xs.length H → Qd H) :
    ∃ W : Nat → Nat → Hp → Prop, (∃ m, W 0 m (upd H1 D (.lst []))) ∧ ∀ i m H, W i m H →
      ((IteT K a).stop i H ∧ Qd H) ∨ ((IteT K a).go i H ∧ ∃ Nx : Hp → Prop, (∀ H', Nx H' → ∃ m', m' < m ∧ W (i + 1) m' H') ∧ ∀ x H', (IteT K a).yld i H x H' → g x (wipe σ vs) H' fun σ2 H2 => wipe σ2 vs = wipe σ vs ∧ tt σ2 H2 fun b H3 =>
        if b = true then te σ2 H3 fun y H4 => ∃ acc, H4 D = some (.lst acc) ∧ acc.length < sizeLine ∧ Nx (upd H4 D (.lst (acc ++ [y]))) else Nx H3) := by
  refine ⟨fun i m H => m = xs.length - i ∧ i ≤ xs.length ∧ Pv i H, ⟨xs.length, by simp, Nat.zero_le _, h0⟩, ?_⟩
  rintro i m H ⟨rfl, hi, p⟩
  have q := hl i H hi p
  by_cases hlt : i < xs.length
  · refine .inr ⟨⟨xs, xs[i], q, by simp [hlt]⟩, Pv (i + 1), fun H' p' => ⟨xs.length - (i + 1), by omega, rfl, hlt, p'⟩, ?_⟩
    rintro x H' ⟨T, y, rfl, hT, rfl, hy⟩
    exact hs i y T H (hy xs q) p hT
  · have e : i = xs.length := by omega
    subst e
    exact .inl ⟨⟨xs, q, rfl⟩, hd H p⟩
theorem lc_enumL {K : PySem.W.Frag} {a : Addr} {xs : List V} {g : TG} {tt : TT} {te : TE} {vs : List Nat} {σ : L2.St} {H1 : Hp} {D : Addr} {Qd : Hp → Prop} (Pv : Nat → Hp → Prop) (h0 : Pv 0 (upd H1 D (.lst []))) (hl : ∀ i H, i ≤ xs.length → Pv i H → SqL K H a xs)
    (hs : ∀ i x T H, xs[i]? = some x → Pv i H → H T = none → g (.ref T) (wipe σ vs) (upd H T (.tup [.int (i : Nat), x])) fun σ2 H2 => wipe σ2 vs = wipe σ vs ∧ tt σ2 H2 fun b H3 =>
      if b = true then te σ2 H3 fun y H4 => ∃ acc, H4 D = some (.lst acc) ∧ acc.length < sizeLine ∧ Pv (i + 1) (upd H4 D (.lst (acc ++ [y]))) else Pv (i + 1) H3) (hd : ∀ H, Pv xs.length H → Qd H) :
    ∃ W : Nat → Nat → Hp → Prop, (∃ m, W 0 m (upd H1 D (.lst []))) ∧ ∀ i m H, W i m H →
      ((Ite K a).stop i H ∧ Qd H) ∨ ((Ite K a).go i H ∧ ∃ Nx : Hp → Prop, (∀ H', Nx H' → ∃ m', m' < m ∧ W (i + 1) m' H') ∧ ∀ x H', (Ite K a).yld i H x H' → g x (wipe σ vs) H' fun σ2 H2 => wipe σ2 vs = wipe σ vs ∧ tt σ2 H2 fun b H3 =>
        if b = true then te σ2 H3 fun y H4 => ∃ acc, H4 D = some (.lst acc) ∧ acc.length < sizeLine ∧ Nx (upd H4 D (.lst (acc ++ [y]))) else Nx H3) := by
  refine ⟨fun i m H => m = xs.length - i ∧ i ≤ xs.length ∧ Pv i H, ⟨xs.length, by simp, Nat.zero_le _, h0⟩, ?_⟩
  rintro i m H ⟨rfl, hi, p⟩
  have q := hl i H hi p
  by_cases hlt : i < xs.length
  · refine .inr ⟨⟨xs, xs[i], q, by simp [hlt]⟩, Pv (i + 1), fun H' p' => ⟨xs.length - (i + 1), by omega, rfl, hlt, p'⟩, ?_⟩
    rintro x H' ⟨T, y, rfl, hT, rfl, hy⟩
    exact hs i y T H (hy xs q) p hT
  · have e : i = xs.length := by omega
    subst e
    exact .inl ⟨⟨xs, q, Nat.le_refl _⟩, hd H p⟩
theorem A2at {α : Type} {R : V → α → Prop} : ∀ {vs : List V} {ds : List α} {i : Nat} {d : α}, A2 R vs ds → ds[i]? = some d → ∃ v, atI vs (i : Int) = some v ∧ vs[i]? = some v ∧ R v d := by
  intro vs ds i d h e
  have lt : i < ds.length := (List.getElem?_eq_some_iff.mp e).1
  have lt2 : i < vs.length := by rw [h.len]; exact lt
  obtain ⟨d', e', r⟩ := h.get (List.getElem?_eq_getElem lt2)
  rw [e] at e'
  cases e'
  exact ⟨_, atI_nat (List.getElem?_eq_getElem lt2), List.getElem?_eq_getElem lt2, r⟩
theorem A2set {α : Type} {R : V → α → Prop} : ∀ {vs : List V} {ds : List α} {i : Nat} {v : V} {d : α}, A2 R vs ds → R v d → A2 R (vs.set i v) (ds.set i d)
  | [], [], _, _, _, _, _ => trivial
  | _ :: _, _ :: _, 0, _, _, h, r => ⟨r, h.2⟩
  | _ :: _, _ :: _, i + 1, _, _, h, r => ⟨h.1, A2set h.2 r⟩
/-- t + u of two tuples of the heap: one that holds both, perhaps one of them itself -/
def rCatS : R2 := fun x y H Q => ∃ (a b : Addr) (xs ys : List V), x = .ref a ∧ y = .ref b ∧ H a = some (.tup xs) ∧ H b = some (.tup ys) ∧ xs.length + ys.length ≤ sizeLine ∧
  ∀ (p : Addr) (H' : Hp), Same H H' → H' p = some (.tup (xs ++ ys)) → Q (.ref p) H'
theorem op_catS {X : Cx} : OpR X (binaryOp .Add) rCatS := by
  intro pins s σ H x y v u Q I rx ry h
  obtain ⟨a, b, xs, ys, rfl, rfl, ha, hb, hz, q⟩ := h
  refine op_catA pins s σ H _ _ v u Q I rx ry ⟨a, b, xs, ys, rfl, rfl, SqT.of ha, SqT.of hb, hz, fun e => ?_, fun _ e => ?_, fun _ _ p hp => ?_⟩
  · subst e
    exact q b H (Same.refl _) hb
  · subst e
    exact q a H (Same.refl _) (by rw [List.append_nil]; exact ha)
  · exact q p _ (same_new hp) upd_same
/-- xs != [] and xs == [], whatever the list holds -/
def rNeNil : R2 := fun x y H Q => ∃ (a c : Addr) (xs : List V), x = .ref a ∧ y = .ref c ∧ H a = some (.lst xs) ∧ H c = some (.lst []) ∧ Q (.bl (!xs.isEmpty)) H
def rEqNil : R2 := fun x y H Q => ∃ (a c : Addr) (xs : List V), x = .ref a ∧ y = .ref c ∧ H a = some (.lst xs) ∧ H c = some (.lst []) ∧ Q (.bl xs.isEmpty) H
theorem op_neNil {X : Cx} (hu : X.A.units < cLine) : OpR X (compareOp .NotEq) rNeNil := by
  intro pins s σ H x y v u Q I rx ry hq
  obtain ⟨a, c, xs, rfl, rfl, ha, hc, q⟩ := hq
  cases rx
  cases ry
  obtain ⟨z, its, k, r, e⟩ := I.hok a _ ha
  obtain ⟨z2, its2, k2, r2, e2⟩ := I.hok c _ hc
  cases r2
  have l1 : s.heap.IsList a its.toArray := ⟨_, e, rfl, _, rfl⟩
  have l2 : s.heap.IsList c ([] : List Value).toArray := ⟨_, e2, rfl, _, rfl⟩
  cases r with
  | nil => exact PySem.SeqAt.RcNeAt.lists l1 l2 rfl hu (e := fun _ => true) (fun j h1 _ => absurd h1 (Nat.not_lt_zero _)) X.prog X.w _ _ ⟨.bl false, H, I, rfl, q⟩
  | cons r0 rr => exact PySem.SeqAt.RcNeAt.lists_lengths l1 l2 rfl hu X.prog X.w _ _ ⟨.bl true, H, I, rfl, q⟩
theorem op_eqNil {X : Cx} (hu : X.A.units < cLine) : OpR X (compareOp .Eq) rEqNil := by
  intro pins s σ H x y v u Q I rx ry hq
  obtain ⟨a, c, xs, rfl, rfl, ha, hc, q⟩ := hq
  cases rx
  cases ry
  obtain ⟨z, its, k, r, e⟩ := I.hok a _ ha
  obtain ⟨z2, its2, k2, r2, e2⟩ := I.hok c _ hc
  cases r2
  have l1 : s.heap.IsList a its.toArray := ⟨_, e, rfl, _, rfl⟩
  have l2 : s.heap.IsList c ([] : List Value).toArray := ⟨_, e2, rfl, _, rfl⟩
  cases r with
  | nil => exact PySem.SeqAt.RcAt.lists l1 l2 rfl hu (e := fun _ => true) (fun j h1 _ => absurd h1 (Nat.not_lt_zero _)) X.prog X.w _ _ ⟨.bl true, H, I, rfl, q⟩
  | cons r0 rr => exact PySem.SeqAt.RcAt.lists_lengths l1 l2 rfl hu X.prog X.w _ _ ⟨.bl false, H, I, rfl, q⟩
/-- for a, b in d.items(): each entry in a new pair -/
theorem for_items {d : Addr} {o : Obj} {kvs : List (Key × V)} {g : TG} {tb : TS} {D : Ends} {σ : L2.St} {H : Hp} (Pv : Nat → L2.St → Hp → Prop) (h0 : Pv 0 σ H) (hl : ∀ i σ H, Pv i σ H → H d = some (.frz o (.dK kvs)))
    (hs : ∀ i k v T σ H, kvs[i]? = some (k, v) → Pv i σ H → H T = none → g (.ref T) σ (upd H T (.tup [kV k, v])) fun σ2 H2 => tb { D with nx := Pv (i + 1), ct := Pv (i + 1), bk := D.nx } σ2 H2) (hd : ∀ σ H, Pv kvs.length σ H → D.nx σ H) :
    ∃ W : Nat → Nat → L2.St → Hp → Prop, (∃ m, W 0 m σ H) ∧ ∀ i m σ H, W i m σ H →
      ((Iti d o kvs).stop i H ∧ D.nx σ H) ∨ ((Iti d o kvs).go i H ∧ ∃ N : L2.St → Hp → Prop, (∀ σ' H', N σ' H' → ∃ m', m' < m ∧ W (i + 1) m' σ' H') ∧ ∀ x H', (Iti d o kvs).yld i H x H' → g x σ H' fun σ2 H2 => tb { D with nx := N, ct := N, bk := D.nx } σ2 H2) := by
  refine ⟨fun i m σ H => m = kvs.length - i ∧ i ≤ kvs.length ∧ Pv i σ H, ⟨kvs.length, by simp, Nat.zero_le _, h0⟩, ?_⟩
  rintro i m σ1 H1 ⟨rfl, hi, p⟩
  have q := hl _ _ _ p
  rcases Nat.lt_or_eq_of_le hi with lt | e
  · refine .inr ⟨⟨q, lt⟩, Pv (i + 1), fun σ2 H2 q => ⟨kvs.length - (i + 1), by omega, rfl, lt, q⟩, ?_⟩
    rintro x H2 ⟨T, k, v, hk, rfl, hT, rfl⟩
    exact hs i k v T σ1 H1 hk p hT
  · subst e
    exact .inl ⟨⟨q, Nat.le_refl _⟩, hd _ _ p⟩
end KpR

/-! Kp: a written dict of one pair whose key is a tuple. -/
namespace KpR
open PySem PySem.Spec PyProof.Rows L2
/-- {k: v}, k a tuple of ints and texts; the new dict stands empty while the pair is made -/
def tDispT (tk tv : TE) : TE := fun σ H Q => ∀ p, H p = none → tk σ (upd H p (.dT [])) fun x H1 => tv σ H1 fun v H2 => H2 p = some (.dT []) ∧ ∃ (b : Addr) (k : List L2.Key), x = .ref b ∧ H2 b = some (.tup (k.map kV)) ∧ Q (.ref p) (upd H2 p (.dT [(k, v)]))
def oneP (Q : VK) (p : Addr) : List (V × V) → Hp → Prop
  | [(x, y)], H2 => H2 p = some (.dT []) ∧ ∃ (b : Addr) (kk : List L2.Key), x = .ref b ∧ H2 b = some (.tup (kk.map kV)) ∧ Q (.ref p) (upd H2 p (.dT [(kk, y)]))
  | _, _ => False
theorem oneP_of {tk tv : TE} {σ : L2.St} {H : Hp} {Q : VK} {p : Addr} (h : tk σ H fun x H1 => tv σ H1 fun v H2 => H2 p = some (.dT []) ∧ ∃ (b : Addr) (k : List L2.Key), x = .ref b ∧ H2 b = some (.tup (k.map kV)) ∧ Q (.ref p) (upd H2 p (.dT [(k, v)]))) :
    tPairs [(tk, tv)] σ H (oneP Q p) := h
theorem pe_dispT {X : Cx} {pos : Pos} {k v : Expr} {tk tv : TE} (hu : X.A.units + 1 < cLine) (hk : PE X k tk) (hv : PE X v tv) : PE X (.Dict [some k] [v] pos) (tDispT tk tv) := by
  refine ⟨fun pins s σ H Q I q => ?_⟩
  have hn := I.hok.fresh (Nat.le_refl s.heap.objs.size)
  have I1 := I.laid (a := s.heap.objs.size) (o := .dT []) (h' := s.heap.push { cls := .type "dict", data := .dict #[] }) (t' := s.toks) (fun _ _ q => Heap.get?_push_of_some _ q) (Nat.le_refl _) (dt_empty s.heap I.big)
  have hp := pps_cons (pos := pos) hk hv pps_nil
  have ln : (pairTrees [some k] [v] X.env pos).length = 1 := pairTrees_length [some k] [v] X.env pos rfl rfl
  have ne : pairTrees [some k] [v] X.env pos ≠ [] := fun z => by
    rw [z] at ln
    cases ln
  have room : (tupleKind (mixKind X.prog X.w)).room X.A := by
    show X.A.units < cLine
    omega
  rw [arm_eval_Dict, zip_pairTrees [some k] [v] X.env pos rfl rfl, dictDisplay_pairs _ ne (by omega)]
  refine wpAny_bind (wpAny_standAt (wpAny_bind (wpAny_subDictH (knd := tupleKind (mixKind X.prog X.w)) room (by omega) ?_)))
  refine thn (hp.run pins _ σ _ (oneP Q s.heap.objs.size) I1 (oneP_of (q _ hn))) ?_
  rintro ws s2 ⟨ps, H2, I2, rel, g⟩
  match ps, g, rel with
  | [(x, y)], ⟨e, b, kk, ex, eb, q2⟩, rel =>
    subst ex
    match ws, rel with
    | [(u1, u2)], .cons ⟨ra, rb⟩ .nil =>
      cases (show u1 = Value.ref b from ra)
      obtain ⟨z, hd, xs, r0, dd⟩ := dt_of I2.hok e
      cases r0
      refine ⟨[(kk, b, u2)], ⟨rfl, rfl, key_of I2.hok eb, trivial⟩, dd, fun h' tk dd' hs => wpAny_pure ⟨.ref s.heap.objs.size, _, ?_, rfl, q2⟩⟩
      obtain ⟨q, es, ep, hq, h2, h3, h4, _, h5⟩ := dd'
      refine d_write I2 (by rw [e]; exact True.intro) hs ⟨q, hq⟩ ⟨by show 1 ≤ sizeLine; decide, hd, [(kk, b, u2)], .cons ⟨rfl, ?_, rb⟩ .nil, q, es, ep, hq, h2, h3, h4, h5⟩
      rw [upd_ne (ne_of eb e (fun z => nomatch z))]
      exact eb
end KpR

/-! Kp: sum of a tuple of ints. -/
namespace KpR
open PySem PySem.Spec PyProof.Rows L2
section
variable {prog : Program} {w : World} {A : Around} {E : Value → Shared → Prop} {s : Shared} {l : Addr} {xs : Array (Int × Tok)}
theorem sum_tupG {Q : Value → Shared → Prop} (hh : A.handled = none) (hl : s.heap.IsTuple l (intItems xs))
    (h : ∀ h' tk t', (∀ b o, s.heap.get? b = some o → h'.get? b = some o) → Q (.int (preSum (numAt xs) xs.size) t') { s with heap := h', toks := tk }) :
    wpAny (model prog w) A (call (.builtin "sum") [.ref l]) Q E s := by
  have lt : l < s.heap.objs.size := by
    obtain ⟨o, e, _⟩ := hl
    exact Heap.lt_size e
  refine call_sum_walkG (wpAny_pyIter_tuple hl ?_)
  refine ⟨_, _, [s.heap.objs.size], _, _, _, numAt xs, rfl, Walks.tuple (A := A.in1) hh _ l (Nat.ne_of_lt lt) (intItems xs), ⟨⟨_, Heap.get?_push_size _ rfl, rfl, rfl⟩, hl.push _⟩, fun b hb => ?_, (fun _ _ => intItems_at), fun h' tk t' hk => ?_⟩
  · show b < (s.heap.push _).objs.size
    rw [Heap.size_push]
    rcases List.mem_cons.mp hb with rfl | hb
    · exact Nat.lt_succ_self _
    · rcases List.mem_cons.mp hb with rfl | hb
      · exact Nat.lt_succ_of_lt lt
      · cases hb
  · have := h h' tk t' fun b o e => by
      refine hk b o (fun hm => ?_) (Heap.get?_push_of_some _ e)
      rcases List.mem_cons.mp hm with e1 | hm
      · exact absurd (e1 ▸ Heap.lt_size e) (Nat.lt_irrefl _)
      · cases hm
    simpa [intItems] using this
end
/-- sum(t) of a tuple of ints -/
def rSumT (K : PySem.W.Frag) : List V → Hp → VK → Prop := fun vs H Q => ∃ (a : Addr) (ns : List Int), vs = [V.ref a] ∧ SqT K H a (ns.map V.int) ∧ Q (.int ns.sum) H
theorem cr_sumT {X : Cx} (hc : X.calm = true) : CallR X (.builtin "sum") (rSumT X.K) := by
  intro pins s σ H vs us Q I r h
  obtain ⟨a, ns, rfl, hs, q⟩ := h
  obtain ⟨its, rv, hl, _⟩ := I.tuple hs
  rw [Vals.ref1 r]
  have hi := rv.ints
  obtain ⟨xs, e⟩ := hi.allInts.items
  have hn : numsOf (intItems xs).toList = ns := by rw [← e]; exact hi.numsOf
  rw [nums_intItems] at hn
  rw [e] at hl
  refine sum_tupG (I.ok.hd hc) (let ⟨o, h1, h2, n, h3⟩ := hl; ⟨o, h1, h2, n, h3⟩) fun h' tk t' hk => ⟨.int _, H, I.kept hk, ⟨_, rfl⟩, ?_⟩
  rw [preSum_eq, List.take_of_length_le (by simp), hn]
  exact q
end KpR

/-! Kp: == and != of lists and tuples of ints, whatever the answer; dicts with int keys. -/
namespace KpR
open PySem PySem.Spec PyProof.Rows L2
def pdInts (l : List Int) : List PyData := l.map PyData.int
section
variable {K : PySem.W.Frag} {H : Hp}
theorem dpInts : ∀ l : List Int, DpAll K H (l.map V.int) (pdInts l)
  | [] => .nil
  | i :: l => .cons (.int i) (dpInts l)
theorem flatT (l : List Int) : Flat 1 (.tuple (pdInts l)) := Flat.tup fun _ _ => Flat.int
theorem flatL (l : List Int) : Flat 1 (.list (pdInts l)) := Flat.list fun _ _ => Flat.int
theorem eqvInts (l m : List Int) : PyData.eqvAll (pdInts l) (pdInts m) = decide (l = m) := eqv_map fun _ _ => eqv_int
theorem eqTI {a b : Addr} {l m : List Int} {Q : VK} (h1 : SqT K H a (l.map V.int)) (h2 : SqT K H b (m.map V.int)) (q : Q (.bl (decide (l = m))) H) : rEqD K (.ref a) (.ref b) H Q := by
  refine eqD (.tup h1 (dpInts l)) (.tup h2 (dpInts m)) ((flatT l).mono (by decide)) ((flatT m).mono (by decide)) ?_
  simp only [PyData.eqv, eqvInts]
  exact q
theorem neTI {a b : Addr} {l m : List Int} {Q : VK} (h1 : SqT K H a (l.map V.int)) (h2 : SqT K H b (m.map V.int)) (q : Q (.bl (!decide (l = m))) H) : rNeD K (.ref a) (.ref b) H Q := by
  refine neD (.tup h1 (dpInts l)) (.tup h2 (dpInts m)) ((flatT l).mono (by decide)) ((flatT m).mono (by decide)) ?_
  simp only [PyData.eqv, eqvInts]
  exact q
theorem eqLI {a b : Addr} {l m : List Int} {Q : VK} (h1 : SqL K H a (l.map V.int)) (h2 : SqL K H b (m.map V.int)) (q : Q (.bl (decide (l = m))) H) : rEqD K (.ref a) (.ref b) H Q := by
  refine eqD (.lst h1 (dpInts l)) (.lst h2 (dpInts m)) ((flatL l).mono (by decide)) ((flatL m).mono (by decide)) ?_
  simp only [PyData.eqv, eqvInts]
  exact q
theorem neLI {a b : Addr} {l m : List Int} {Q : VK} (h1 : SqL K H a (l.map V.int)) (h2 : SqL K H b (m.map V.int)) (q : Q (.bl (!decide (l = m))) H) : rNeD K (.ref a) (.ref b) H Q := by
  refine neD (.lst h1 (dpInts l)) (.lst h2 (dpInts m)) ((flatL l).mono (by decide)) ((flatL m).mono (by decide)) ?_
  simp only [PyData.eqv, eqvInts]
  exact q
end
theorem cut_takeT {xs : List V} {n : Nat} : cutV xs none (some (n : Int)) = xs.take n := by
  unfold cutV
  rw [HT.sIx_nat, HT.sIx_none, List.drop_zero, Nat.sub_zero]
  by_cases h : n ≤ xs.length
  · rw [Nat.min_eq_left h]
  · rw [Nat.min_eq_right (by omega), List.take_length, List.take_of_length_le (by omega)]
/-! dicts -/
theorem putK_new {kvs : List (Key × V)} {k : Key} {v : V} (h : ∀ p ∈ kvs, p.1 ≠ k) : putK kvs k v = kvs ++ [(k, v)] := by
  unfold putK
  rw [if_neg]
  intro z
  obtain ⟨p, hp, e⟩ := List.any_eq_true.mp z
  exact h p hp (of_decide_eq_true e)
theorem putK_last {kvs : List (Key × V)} {k : Key} {u v : V} (h : ∀ p ∈ kvs, p.1 ≠ k) : putK (kvs ++ [(k, u)]) k v = kvs ++ [(k, v)] := by
  unfold putK
  rw [if_pos (by simp), List.map_append]
  congr 1
  · conv => rhs; rw [← List.map_id kvs]
    exact List.map_congr_left fun p hp => by rw [if_neg (h p hp)]; rfl
  · simp
/-- sameness but for two things -/
def Fr2 (w q : Addr) (H H' : Hp) : Prop := ∀ b o, b ≠ w → b ≠ q → H b = some o → H' b = some o
end KpR

/-! Kp: a property of an own class, written; math.lcm. -/
namespace KpR
open PySem PySem.Spec PyProof.Rows L2
/-- the class has the name as a property at p whose setter is the def at g -/
structure PropSet (K : PySem.W.Frag) (C : Addr) (f : Str) (p g : Addr) : Prop where
  pat : PySem.W.findIn K (.ref C) f = some (some (.ref p))
  tak : PySem.W.takesIn K (.ref p) = some true
  typ : PySem.W.typeIn K (.ref p) = some (.type "property")
  rec_ : ∃ v rest, PySem.W.recIn K p "property" = some (v :: .ref g :: rest)
theorem PropSet.taker {K : PySem.W.Frag} {C p g : Addr} {f : Str} (h : PropSet K C f p g) : PySem.W.takerIn K C f = some (some (.ref p)) := by
  unfold PySem.W.takerIn
  rw [h.pat]
  simp [h.tak]
/-- e.f = value, f a property: the setter's promise -/
def sPropSet (C : Addr) (sp : Sp) (E : XK) (ta tv : TE) : TS := fun D σ H => tv σ H fun y H1 => ta σ H1 fun x H2 => ∃ a dx fs, x = .ref a ∧ H2 a = some (.ins C dx fs) ∧ sp [.ref a, y] H2 (fun _ H3 => D.nx σ H3) E
section
variable {X : Cx} {CX : CXT} {k : Nat} {C p g a dx : Addr} {fs : List (Str × V)} {f : Str} {fd : FuncData} {ps : List Str} {sp : Sp} {E : XK}
theorem setprop_ok {pins : List (Addr × Obj)} {σ : L2.St} {H : Hp} {s : Shared} {y : V} {u : Value} {Q' : Hp → Prop} {Q : Unit → Shared → Prop} {E' : Value → Shared → Prop} (I : Inv X pins σ H s) (ea : H a = some (.ins C dx fs)) (c : Cls X.K C) (hp : PropSet X.K C f p g)
    (F : FnOk X.prog X.w X.K X.mg X.base CX k g fd ps sp) (hr : Room (k + 2) X.A) (hb : Binds X.K fd ps []) (hx : Passes CX X.nox E) (ry : RelV y u) (h : sp [.ref a, y] H (fun _ H' => Q' H') E) (fin : ∀ s' H', Inv X pins σ H' s' → Q' H' → Q () s') :
    wpAny (model X.prog X.w) X.A (setAttr (.ref a) f u) Q E' s := by
  obtain ⟨mA, O, _⟩ := ins_get I.hok ea
  obtain ⟨od, J, _⟩ := O.look
  obtain ⟨v0, rest, hrec⟩ := hp.rec_
  have I1 := I.tok (s.toks + 1)
  have ln : [Value.ref a, u].length = ps.length := by
    rw [← F.len _ _ _ _ h]
    rfl
  refine PySem.W.set_plain I.kIn J c.sa ?_
  refine PySem.W.osa_descr (s := { s with toks := s.toks + 1 }) PySem.W.KF.slot_pset I1.kIn J c.po hp.taker hp.typ ?_
  refine PySem.W.prop_set (s := { s with toks := s.toks + 1 }) I1.kIn hrec ?_
  refine codeAny_mono (F.run X.A.in1.in1 X.stack { s with toks := s.toks + 1 } H ⟨[.ref a, u], []⟩ [.ref a, u] [.ref a, y] _ E hr.in1.in1 I1.env0.in1.in1 (by simpa using hb { s with toks := s.toks + 1 } [.ref a, u] I1.kIn (by simpa using ln)) (.cons rfl (.cons ry .nil)) h) fun r s' hq => ?_
  cases r with
  | error er => exact False.elim (hx pins σ H { s with toks := s.toks + 1 } er s' (I1.wish _) hq)
  | ok fl =>
    cases fl with
    | ret z =>
      obtain ⟨v, H', I3, _, q3⟩ := I1.after hq
      exact fin s' H' I3 q3
    | next => exact False.elim hq
    | brk => exact False.elim hq
    | cont => exact False.elim hq
theorem ps_prop {o value : Expr} {ta tv : TE} {pos pos' : Pos} (ha : PE X o ta) (hv : PE X value tv) (c : Cls X.K C) (hp : PropSet X.K C f p g) (F : FnOk X.prog X.w X.K X.mg X.base CX k g fd ps sp) (hr : Room (k + 2) X.A) (hb : Binds X.K fd ps []) (hx : Passes CX X.nox E)
    (hs : swapsWith value (some (.Attribute o f pos')) pos.line X.env = pure false) : PS X (.Assign [.Attribute o f pos'] value pos) (sPropSet C sp E ta tv) := by
  refine ⟨fun pins s σ H D I h => ?_⟩
  refine plainObj_wpAny_Assign_Attribute (thn (hv.run pins s σ H _ I h) fun u s1 ⟨y, H1, I1, ry, q⟩ => thn (ha.run pins s1 σ H1 _ I1 q) fun ov s2 ⟨x, H2, I2, rx, a, dx, fs, ex, ea, q2⟩ => ?_) hs
  subst ex
  obtain rfl : ov = Value.ref a := rx
  exact setprop_ok I2 ea c hp F hr hb hx ry q2 fun s3 H3 I3 q3 => ⟨σ, H3, I3, q3⟩
end
/-- x *= e of ints -/
def ipMul : TIp := fun x y H Q => ∃ i j, x = .int i ∧ y = .int j ∧ CMul i j ∧ Q (.int (i * j)) H
theorem ip_mul {X : Cx} : PIp X .Mult ipMul := by
  rintro pins s σ H x y v u Q I r1 r2 ⟨i, j, rfl, rfl, c, q⟩
  obtain ⟨t, rfl⟩ := r1
  obtain ⟨t', rfl⟩ := r2
  exact PyProof.Rows.imul_int ⟨.int _, H, I.tok _, ⟨_, rfl⟩, q⟩ c.ok
/-- lcm(a, b) -/
def rLcm : List V → Hp → VK → Prop := fun vs H Q => ∃ a b : Nat, vs = [.int a, .int b] ∧ a < 2 ^ 64 ∧ b < 2 ^ 64 ∧ Q (.int (Nat.lcm a b : Nat)) H
theorem cr_lcm {X : Cx} : CallR X (.builtin "math.lcm") rLcm := by
  intro pins s σ H vs us Q I r h
  obtain ⟨a, b, rfl, ha, hb, q⟩ := h
  obtain ⟨t, u, rfl⟩ := Vals.int2 r
  have e : ((Nat.lcm 1 (a : Int).natAbs).lcm (b : Int).natAbs) = Nat.lcm a b := by
    rw [Int.natAbs_natCast, Int.natAbs_natCast, Nat.lcm_one_left]
  refine PySem.W.mg_lcm (by simpa using ha) (by simpa using hb) ?_ ?_
  · rw [e, Int.natAbs_natCast]
    by_cases z : Nat.lcm a b = 0
    · rw [z]
      decide
    · have h1 : Nat.lcm a b ≤ a * b := Nat.div_le_self _ _
      have h2 : a * b < 2 ^ 64 * 2 ^ 64 := Nat.mul_lt_mul'' ha hb
      have h3 : (Nat.lcm a b).log2 < 128 := (Nat.log2_lt z).mpr (by omega)
      exact Nat.lt_of_lt_of_le h3 (by decide)
  · rw [e]
    exact ⟨.int _, H, I.tok _, ⟨_, rfl⟩, q⟩
end KpR

/-! Kp: dict comprehensions whose keys are tuples. -/
namespace KpR
open PySem PySem.Spec PyProof.Rows L2
/-- a tuple's entry, by a comprehension -/
theorem tset_ok {X : Cx} {pins : List (Addr × Obj)} {σ : L2.St} {H : Hp} {s : Shared} {A : Around} {E : Value → Shared → Prop} {D b : Addr} {kvs : List (List L2.Key × V)} {k : List L2.Key} {v : V} {r : Value} {Q : Unit → Shared → Prop}
    (un : A.units + 1 < cLine) (I : Inv X pins σ H s) (hD : H D = some (.dT kvs)) (hb : H b = some (.tup (k.map kV))) (few : kvs.length < sizeLine) (rv : RelV v r)
    (go : ∀ s2, Inv X pins σ (upd H D (.dT (putK kvs k v))) s2 → Q () s2) : wpAny (model X.prog X.w) A (dictSet D (.ref b) r) Q E s := by
  obtain ⟨z, ns, xs, rel, dd⟩ := dt_of I.hok hD
  have few2 : (putK kvs k v).length ≤ sizeLine := Nat.le_trans (length_putK kvs k v) few
  refine wpAny_dictSet_heap (hsz := by rw [← Paired.length rel]; exact z) (show (tupleKind _).room A from Nat.lt_of_succ_lt un) (key_of I.hok hb) dd fun h2 dd2 same => go _ ?_
  obtain ⟨o, es, ep, ho, a1, a2, a3, _, a5⟩ := dd2
  refine d_write I (by rw [hD]; exact True.intro) same ⟨o, ho⟩ ⟨few2, ns, _, (rel.put k hb rv).keeps fun c ys ec => ?_, o, es, ep, ho, a1, a2, a3, a5⟩
  have ne : c ≠ D := fun e => by rw [e, hD] at ec; cases ec
  rw [upd_ne ne]
  exact ec
/-- {k: v for target in iter if ..}, keys tuples of ints and texts: D the new dict -/
def tDct (wi : TI) (g : TG) (tt : TT) (tk tv : TE) (vs : List Nat) : TE := fun σ H Q => wi σ H fun J H1 => ∀ D, H1 D = none → ∃ W : Nat → Nat → Hp → Prop, (∃ m, W 0 m (upd H1 D (.dT []))) ∧ ∀ i m G, W i m G →
  (J.stop i G ∧ Q (.ref D) G) ∨ (J.go i G ∧ ∃ N : Hp → Prop, (∀ G', N G' → ∃ m', m' < m ∧ W (i + 1) m' G') ∧ ∀ x G', J.yld i G x G' → g x (wipe σ vs) G' fun σ2 G2 => wipe σ2 vs = wipe σ vs ∧ tt σ2 G2 fun c G3 =>
    if c = true then tk σ2 G3 fun y G4 => tv σ2 G4 fun u G5 => ∃ b kvs k, y = .ref b ∧ G5 D = some (.dT kvs) ∧ G5 b = some (.tup (k.map kV)) ∧ kvs.length < sizeLine ∧ N (upd G5 D (.dT (putK kvs k u))) else N G3)
section
variable {X : Cx} {kx vx tg iter : Expr} {ifs : List Expr} {scope : Scope} {own : List (Str × Nat)} {wi : TI} {g : TG} {tt : TT} {tk tv : TE}
/-- the parts' readings in the comprehension's own frame -/
structure DctParts (X : Cx) (kx vx tg : Expr) (ifs : List Expr) (scope : Scope) (g : TG) (tt : TT) (tk tv : TE) : Prop where
  tgt : ∀ (s : Shared) (H : Hp) (C : Addr) (cl : List (Str × Addr)) (fp : List Addr), PG (X.blk s H scope (compEnvC scope cl C X.env) fp) tg g
  tst : ∀ (s : Shared) (H : Hp) (C : Addr) (cl : List (Str × Addr)) (fp : List Addr), PTs (X.blk s H scope (compEnvC scope cl C X.env) fp) ifs tt
  key : ∀ (s : Shared) (H : Hp) (C : Addr) (cl : List (Str × Addr)) (fp : List Addr), PE (X.blk s H scope (compEnvC scope cl C X.env) fp) kx tk
  val : ∀ (s : Shared) (H : Hp) (C : Addr) (cl : List (Str × Addr)) (fp : List Addr), PE (X.blk s H scope (compEnvC scope cl C X.env) fp) vx tv
theorem pe_dct {pos : Pos} (un : X.A.units + 1 < cLine) (calm : X.calm = true) (nd : X.N.Nodup) (pi : PI X tg iter wi) (bk : BlkOk X.N X.env.scope scope own) (pp : DctParts X kx vx tg ifs scope g tt tk tv) (fs : ∀ x, foldedSetIterable iter X.env x = pure x := by intro _; rfl) :
    PE X (.DictComp kx vx [⟨tg, iter, ifs, 0⟩] scope pos) (tDct wi g tt tk tv (own.map (·.2))) := by
  refine ⟨fun pins s σ H Q I h => ?_⟩
  rw [arm_eval_DictComp]
  have has : ∀ y ∈ scope.names, y.2 = .free → ∃ c, X.env.cells.lookup y.1 = some c := fun y hy e => I.ok.has _ (bk.free y hy e)
  refine wpAny_comprehension_free (use := none) rfl fs (closure_ok has) bk.kind (fun y hy e => by rw [bk.uniq y hy, e]) (thn (pi.run pins s σ H _ I h) fun xv s1 q1 => thn q1 fun itv s2 q2 => ?_)
  obtain ⟨it, fp, tn, J, H2, rfl, I2, T, at0, fp2, q⟩ := q2
  refine wpAny_newObj_type (newEnv_comp ?_)
  -- the dict
  obtain ⟨D, eD⟩ : ∃ D, s2.heap.objs.size = D := ⟨_, rfl⟩
  have freeD : H2 D = none := I2.hok.fresh (Nat.le_of_eq eD)
  obtain ⟨W, ⟨m0, begin_⟩, turn⟩ := q D freeD
  have freshH : ObjOk X.prog X.w (upd H2 D (.dT [])) (s2.heap.push { cls := Value.type "dict", data := Data.dict #[] }) D (.dT []) := eD ▸ dt_empty s2.heap I2.big
  have J3 : Inv X pins σ (upd H2 D (.dT [])) (Shared.mk (s2.heap.push { cls := Value.type "dict", data := Data.dict #[] }) s2.gens s2.drawn s2.toks s2.os) :=
    I2.laid (t' := s2.toks) (fun b o e => Heap.get?_push_of_some _ e) (Nat.le_of_eq eD) freshH
  have small : ∀ b ∈ fp, b < s2.heap.objs.size := fun b hb => (T.obj _ _ at0 b hb).elim fun o h => Heap.lt_size h.1
  generalize e3 : Shared.mk (s2.heap.push { cls := Value.type "dict", data := Data.dict #[] }) s2.gens s2.drawn s2.toks s2.os = s3 at J3 ⊢
  have hp3 : s3.heap = s2.heap.push { cls := Value.type "dict", data := Data.dict #[] } := by rw [← e3]
  generalize eH : upd H2 D (HO.dT []) = H3 at J3 begin_
  have fp3 : ∀ b ∈ fp, FpOk X pins H3 b ∧ b < s3.heap.objs.size := fun b hb => by
    have lt := small b hb
    have ne : b ≠ D := by rw [← eD]; exact Nat.ne_of_lt lt
    refine ⟨⟨by rw [← eH, upd_ne ne]; exact (fp2 b hb).1, (fp2 b hb).2⟩, ?_⟩
    rw [hp3, Heap.size_push]
    exact Nat.lt_succ_of_lt lt
  have none3 : ∀ b ∈ fp, H3 b = none := fun b hb => (fp3 b hb).1.1
  have at3 : tn 0 s3.heap := T.keep _ _ _ at0 fun b _ o e => by rw [hp3]; exact Heap.get?_push_of_some _ e
  have J4 := block_start J3 bk nd fp3
  have pg := pp.tgt s3 H3 s3.heap.objs.size (cellsFrom (s3.heap.objs.size + 1) scope.names (cloFrom X.env.cells scope.names [])) fp
  have pt := pp.tst s3 H3 s3.heap.objs.size (cellsFrom (s3.heap.objs.size + 1) scope.names (cloFrom X.env.cells scope.names [])) fp
  have pk := pp.key s3 H3 s3.heap.objs.size (cellsFrom (s3.heap.objs.size + 1) scope.names (cloFrom X.env.cells scope.names [])) fp
  have pv := pp.val s3 H3 s3.heap.objs.size (cellsFrom (s3.heap.objs.size + 1) scope.names (cloFrom X.env.cells scope.names [])) fp
  have whole : ∀ ce : Env, ce = compEnvC scope (cellsFrom (s3.heap.objs.size + 1) scope.names (cloFrom X.env.cells scope.names [])) s3.heap.objs.size X.env → ∀ s4 : Shared, s4 = Shared.mk (pushCells (s3.heap.push { cls := Value.type "dict", data := Data.dict #[] }) scope.names) s3.gens s3.drawn s3.toks s3.os →
      codeAny (model X.prog X.w) X.A (.compStart (.DictComp kx vx [⟨tg, iter, ifs, 0⟩] scope pos) 0 (.ref it) (.ref D) ce) (compPost (model X.prog X.w) X.A X.xe none (EP X pins σ Q) (.ref D) s3.heap.objs.size) s4 := by
    intro ce ece s4 es4
    rw [← ece] at J4 pg pt pk pv
    have cL : ce.locals = s3.heap.objs.size := by rw [ece]; rfl
    have at4 : tn 0 s4.heap := T.keep _ _ _ at3 fun b _ o e => by rw [es4]; exact pushCells_keeps _ _ _ _ (Heap.get?_push_of_some _ e)
    have J4 : Inv (X.blk s3 H3 scope ce fp) [] (wipe σ (own.map (·.2))) H3 s4 := by rw [es4]; exact J4
    clear es4
    -- what the walked thing lays stays out of sight
    have out : ∀ {τ : L2.St} {G : Hp} {s' : Shared}, Inv (X.blk s3 H3 scope ce fp) [] τ G s' → (∀ b ∈ fp, G b = none) → ∀ b ∈ fp, FpOk (X.blk s3 H3 scope ce fp) [] G b := fun {τ G s'} K no b hb =>
      ⟨no b hb, (K.ok.exf b hb).1, K.ok.exfs b hb, .inl hb, (fun x c e => (K.ok.exf b hb).2 x c e), fun p z => absurd (show p ∈ ([] : List (Addr × Obj)) ++ [] from z) (by simp)⟩
    have loop : codeAny (model X.prog X.w) X.A (.compLoop (.DictComp kx vx [⟨tg, iter, ifs, 0⟩] scope pos) 0 (.ref it) (.ref D) ce) (compPost (model X.prog X.w) X.A X.xe none (EP X pins σ Q) (.ref D) s3.heap.objs.size) s4 := by
      refine compLoop_anyD (fun n s' => ∃ i G, Inv (X.blk s3 H3 scope ce fp) [] (wipe σ (own.map (·.2))) G s' ∧ tn i s'.heap ∧ (∀ b ∈ fp, G b = none) ∧ W i n G) ?_ m0 ⟨0, H3, J4, at4, none3, begin_⟩
      rintro n s5 ⟨i, G5, J5, at5, no5, w5⟩
      rcases turn i n G5 w5 with ⟨stop, fin⟩ | ⟨more, N, less, step⟩
      · refine thnF (T.done (X.blk s3 H3 scope ce fp) rfl rfl rfl calm i [] s5 _ G5 (fun _ _ => False) J5 (out J5 no5) at5 stop) fun r s6 ⟨er, J6⟩ => ?_
        subst er
        have back : Inv X pins σ G5 s6 := J3.call' (ch := fp) J6.os J6.base J6.hok J6.bare fun b hb => ⟨(fp3 b hb).1.2.2.2.1, (fp3 b hb).1.2.1, (fp3 b hb).1.2.2.2.2.1, (fp3 b hb).1.2.2.2.2.2⟩
        have nC : G5 s3.heap.objs.size = none := cL ▸ (show G5 ce.locals = none from J6.free)
        obtain ⟨mm, hn, _⟩ := J6.loc
        have hn : s6.heap.Ns s3.heap.objs.size mm := cL ▸ (show s6.heap.Ns ce.locals mm from hn)
        refine ⟨mm, hn, fun h2 same => ?_⟩
        obtain ⟨f0, f1, f2, f3, f4, f5⟩ := J3.fpOk (Nat.le_refl _) nC
        exact ⟨.ref D, G5, back.turned (t' := s6.toks) (fun b o hb e => (same.2 b hb).trans e) f0 f1 f3 f4 f5, rfl, fin⟩
      · refine thnF (T.item (X.blk s3 H3 scope ce fp) rfl rfl rfl calm i [] s5 _ G5 (fun _ _ => False) J5 (out J5 no5) at5 more) fun r s6 ⟨u, er, q6⟩ => ?_
        subst er
        refine thnF q6 fun _ s7 ⟨x, G7, J7, rx, yx, at7, no7⟩ => ?_
        refine thnF (pg.run _ s7 _ G7 x u _ (J7.pinned (out J7 no7) (T.obj _ _ at7)) rx (step x G7 yx)) fun _ s8 ⟨τ, G8, J8, wp, q8⟩ => ?_
        refine thnF (pt.run _ s8 τ G8 _ J8 q8) fun b s9 ⟨G9, J9, q9⟩ => ?_
        have close : ∀ {s' : Shared} {G' : Hp}, Inv (X.blk s3 H3 scope ce fp) ([] ++ pinsAt fp s7.heap) τ G' s' → N G' → ∃ m, m < n ∧ ∃ i G, Inv (X.blk s3 H3 scope ce fp) [] (wipe σ (own.map (·.2))) G s' ∧ tn i s'.heap ∧ (∀ b ∈ fp, G b = none) ∧ W i m G := fun {s' G'} K nx => by
          obtain ⟨m1, lt1, w1⟩ := less G' nx
          have pin : ∀ b ∈ fp, ∀ o, s7.heap.get? b = some o → s'.heap.get? b = some o ∧ G' b = none := fun b hb o e => by
            have z := K.pin (b, o) (List.mem_append_right _ (List.mem_append_right _ (mem_pinsAt hb e)))
            exact ⟨z.1, z.2.1⟩
          have ll : (wipe σ (own.map (·.2))).length = τ.length := by rw [← wp, wipe_length]
          refine ⟨m1, lt1, i + 1, G', (K.unpinned (pins := [])).weak ll (fun j v e => (wipe_some (wp ▸ e)).1), T.keep _ _ _ at7 fun b hb o e => (pin b hb o e).1, fun b hb => ?_, w1⟩
          obtain ⟨o, e, _⟩ := T.obj _ _ at7 b hb
          exact (pin b hb o e).2
        cases b with
        | false => exact close J9 (by simpa using q9)
        | true =>
          have q9 := (if_pos rfl).mp q9
          refine thnF (pk.run _ s9 τ G9 _ J9 q9) fun kv s10 ⟨y, G10, J10, ry, q10⟩ => ?_
          refine thnF (pv.run _ s10 τ G10 _ J10 q10) fun vv s11 ⟨z, G11, J11, rz, b, kvs, k, ey, hD, hb, few, nx⟩ => ?_
          subst ey
          cases (show kv = Value.ref b from ry)
          exact tset_ok (X := X.blk s3 H3 scope ce fp) un J11 hD hb few rz fun s12 J12 => close J12 nx
    exact codeAny_compStart_dict loop (T.self X.A 0 _ _ _ at4 loop)
  subst eD
  exact whole _ rfl _ rfl
end
end KpR

/-! Kp: walks over the values and the pairs of a dict whose keys are tuples. -/
namespace KpR
open PySem PySem.Spec PyProof.Rows L2
theorem lockT {X : Cx} {pins : List (Addr × Obj)} {σ : L2.St} {H : Hp} {s : Shared} {d : Addr} {o : Obj} {kvs : List (List L2.Key × V)} (I : Inv X pins σ H s) (h : H d = some (.frz o (.dT kvs))) :
    (d == sysModules) = false ∧ ∃ (es : Array DictEntry) (ep : Nat), o.data = .dict es ep ∧ s.heap.DictRaw d es ep ∧ es.size = kvs.length ∧
      ∀ (i : Nat) (k : List L2.Key) (v : V), kvs[i]? = some (k, v) → ∃ (en : DictEntry) (q : Addr), es[i]? = some en ∧ en.key = .ref q ∧ H q = some (.tup (k.map kV)) ∧ RelV v en.val := by
  obtain ⟨hd, z, ns, xs, pr, o2, es, ep, ho, hx, dt, he, _⟩ := I.hok d _ h
  cases hd.symm.trans ho
  refine ⟨ns, es, ep, dt, ⟨o, hd, hx, dt⟩, (size_of_entries he).trans (Paired.length pr).symm, fun i k v e => ?_⟩
  obtain ⟨b, hb, _, e2, e3⟩ := paired_get pr e
  have q := entry_at he i
  rw [hb] at q
  exact ⟨_, b.2.1, q, rfl, e2, e3⟩
/-- the values, in their order -/
def ItVT (d : Addr) (o : Obj) (kvs : List (List L2.Key × V)) : It :=
  ⟨fun i H => H d = some (.frz o (.dT kvs)) ∧ i < kvs.length, fun i H x G => G = H ∧ ∃ k, kvs[i]? = some (k, x), fun i H => H d = some (.frz o (.dT kvs)) ∧ kvs.length ≤ i⟩
/-- the pairs, each a new tuple of the key's own tuple and the value -/
def ItIT (d : Addr) (o : Obj) (kvs : List (List L2.Key × V)) : It :=
  ⟨fun i H => H d = some (.frz o (.dT kvs)) ∧ i < kvs.length, fun i H x G => ∃ (t q : Addr) (k : List L2.Key) (v : V), kvs[i]? = some (k, v) ∧ H q = some (.tup (k.map kV)) ∧ x = .ref t ∧ H t = none ∧ G = upd H t (.tup [.ref q, v]), fun i H => H d = some (.frz o (.dT kvs)) ∧ kvs.length ≤ i⟩
theorem one_dict {o : Obj} {es es' : Array DictEntry} {ep ep' : Nat} (h : o.data = .dict es ep) (h' : o.data = .dict es' ep') : es' = es ∧ ep' = ep := by
  injection h'.symm.trans h with a b
  exact ⟨a, b⟩
section
variable {P : Program} {w : World} {K : PySem.W.Frag} {tg : Expr} {d : Addr} {o : Obj} {es : Array DictEntry} {ep : Nat} {kvs : List (List L2.Key × V)}
theorem turnVT (it : Addr) (od : o.data = .dict es ep) : Turn P w K tg (ItVT d o kvs) [it] it (fun i h => h.IsValIter it d i kvs.length ep) := by
  refine ⟨List.mem_singleton.mpr rfl, fun i h st b hb => ?_, fun i h h2 st k => st.at fun oi e => k it (List.mem_singleton.mpr rfl) oi e, ?_, ?_, fun A i s Q E st h => wpAny_pyIter_valiter st h⟩
  · obtain rfl := List.mem_singleton.mp hb
    obtain ⟨oi, e, _, dd⟩ := st
    exact ⟨oi, e, fun v z => by rw [dd] at z; cases z⟩
  · rintro X rfl rfl rfl calm i pins s σ H E I hf st ⟨hd, hi⟩
    obtain ⟨f0, f1, f2, f3, f4, f5⟩ := hf it (List.mem_singleton.mpr rfl)
    obtain ⟨ns, es', ep', dt, raw, sz, ent⟩ := lockT I hd
    obtain ⟨rfl, rfl⟩ := one_dict od dt
    obtain ⟨⟨k, v⟩, hkv⟩ : ∃ p, kvs[i]? = some p := ⟨kvs[i], List.getElem?_eq_getElem hi⟩
    obtain ⟨en, q, hen, _, _, rv⟩ := ent i k v hkv
    obtain ⟨lt, een⟩ := Array.getElem?_eq_some_iff.mp hen
    rw [← sz] at st
    refine wpAny_pyNext_values_item_raw st raw lt fun h2 st2 sb => ?_
    obtain ⟨oi, e, c, dd⟩ := id st2
    refine ⟨_, rfl, go_of (s := { s with heap := h2 }) e c dd (by decide) ⟨v, H, I.turned (t' := s.toks) (fun b ob hb e => (sb.2 b hb).trans e) f0 f1 f3 f4 f5, by rw [een]; exact rv, ⟨rfl, k, hkv⟩, by rw [← sz]; exact st2, fun b hb => (hf b hb).1⟩⟩
  · rintro X rfl rfl rfl calm i pins s σ H E I hf st ⟨hd, hi⟩
    obtain ⟨f0, f1, f2, f3, f4, f5⟩ := hf it (List.mem_singleton.mpr rfl)
    obtain ⟨ns, es', ep', dt, raw, sz, _⟩ := lockT I hd
    obtain ⟨rfl, rfl⟩ := one_dict od dt
    rw [← sz] at st hi
    exact wpAny_pyNext_values_end_raw (I.ok.hd calm) st raw hi fun h2 eb => ⟨rfl, I.turned (t' := s.toks) (fun b ob hb e => eb b ob hb e) f0 f1 f3 f4 f5⟩
theorem turnIT {elts : List Expr} {kk : Nat} {tpos : Pos} (it : Addr) (od : o.data = .dict es ep) : Turn P w K (.Tuple elts kk tpos) (ItIT d o kvs) [it] it (fun i h => ∃ a b, IsItemIter h it d i kvs.length ep a b) := by
  refine ⟨List.mem_singleton.mpr rfl, fun i h st b hb => ?_, fun i h h2 ⟨a, b, e⟩ k => ⟨a, b, k it (List.mem_singleton.mpr rfl) _ e⟩, ?_, ?_, fun A i s Q E ⟨a, b, st⟩ h => wpAny_pyIter_itemiter st h⟩
  · obtain rfl := List.mem_singleton.mp hb
    obtain ⟨_, _, e⟩ := st
    exact ⟨_, e, fun v z => nomatch z⟩
  · rintro X rfl rfl rfl calm i pins s σ H E I hf ⟨ka, kb, st⟩ ⟨hd, hi⟩
    obtain ⟨ns, es', ep', dt, raw, sz, ent⟩ := lockT I hd
    obtain ⟨rfl, rfl⟩ := one_dict od dt
    obtain ⟨⟨k, v⟩, hkv⟩ : ∃ p, kvs[i]? = some p := ⟨kvs[i], List.getElem?_eq_getElem hi⟩
    obtain ⟨en, q, hen, ek, hq, rv⟩ := ent i k v hkv
    obtain ⟨lt, een⟩ := Array.getElem?_eq_some_iff.mp hen
    rw [← sz] at st
    have itl : it < s.heap.objs.size := Heap.lt_size st
    refine wpAny_pyNext_items_item_raw st raw lt fun h2 out tup size kept => ?_
    refine ⟨_, rfl, wpAny_letOwnedTupleGo_items (s := { s with heap := h2 }) out fun h3 st3 sb => ?_⟩
    have tup3 : h3.get? s.heap.objs.size = some { cls := .type "tuple", data := .seq #[.ref q, en.val] } := by
      rw [← ek, ← een]
      exact (sb.2 _ (Nat.ne_of_gt itl)).trans tup
    have new : ObjOk X.prog X.w (upd H s.heap.objs.size (.tup [.ref q, v])) h3 s.heap.objs.size (.tup [.ref q, v]) :=
      ⟨by show 2 ≤ sizeLine; decide, [.ref q, en.val], .cons rfl (.cons rv .nil), ⟨_, tup3, rfl, _, rfl⟩⟩
    have I3 := I.turnedNew (t' := s.toks) (ch := [it]) (fun b ob hb e => (sb.2 b (by simpa using hb)).trans (kept b ob (by simpa using hb) e)) hf (Nat.le_refl _) new
    refine ⟨.ref s.heap.objs.size, _, I3, rfl, ⟨_, q, k, v, hkv, hq, rfl, I.hok.fresh (Nat.le_refl _), rfl⟩, ⟨_, _, by rw [← sz]; exact st3⟩, fun b hb => ?_⟩
    obtain rfl := List.mem_singleton.mp hb
    rw [upd_ne (Nat.ne_of_lt itl)]
    exact (hf b hb).1
  · rintro X rfl rfl rfl calm i pins s σ H E I hf ⟨ka, kb, st⟩ ⟨hd, hi⟩
    obtain ⟨f0, f1, f2, f3, f4, f5⟩ := hf it (List.mem_singleton.mpr rfl)
    obtain ⟨ns, es', ep', dt, raw, sz, _⟩ := lockT I hd
    obtain ⟨rfl, rfl⟩ := one_dict od dt
    rw [← sz] at st hi
    exact wpAny_pyNext_items_end_raw (I.ok.hd calm) st raw hi fun h2 eb => ⟨rfl, I.turned (t' := s.toks) (fun b ob hb e => eb b ob hb e) f0 f1 f3 f4 f5⟩
end
def iValsT (td : TE) : TI := fun σ H R => td σ H fun x G => ∃ d o kvs, x = .ref d ∧ G d = some (.frz o (.dT kvs)) ∧ R (ItVT d o kvs) G
def iItemsT (td : TE) : TI := fun σ H R => td σ H fun x G => ∃ d o kvs, x = .ref d ∧ G d = some (.frz o (.dT kvs)) ∧ R (ItIT d o kvs) G
section
variable {X : Cx} {tg e : Expr} {td : TE} {apos cpos : Pos}
theorem pi_valuesT (he : PE X e td) (hbase : attributeBase e "values" X.env (eval e X.env) = eval e X.env := by rfl) (hline : (apos.endLine == cpos.line) = true := by rfl) : PI X tg (.Call (.Attribute e "values" apos) [] [] cpos) (iValsT td) := by
  refine ⟨fun pins s σ H R I h => ?_⟩
  refine wpAny_Call_method (T := "dict") (id := "dict.values") hbase rfl hline F.plainAttrs_dict F.slot_dict_values F.type_dict_values (thn (he.run pins s σ H _ I h) fun u s1 ⟨x, H1, I1, rx, d, o, kvs, ex, hd, q⟩ => ?_)
  subst ex
  obtain rfl : u = Value.ref d := rx
  obtain ⟨ns, es, ep, dt, raw, sz, _⟩ := lockT I1 hd
  refine ⟨raw.typeIs, ?_, ?_⟩
  · rintro b ⟨⟩
    obtain ⟨o, ho, x, _⟩ := raw
    exact ⟨o, ho, x.2.1⟩
  have I2 : Inv X pins σ H1 { s1 with heap := s1.heap.push { cls := .type "dict_values", data := .fields #[.ref d] } } := I1.kept (t' := s1.toks) fun b ob e => Heap.get?_push_of_some _ e
  have fin : wpAny (model X.prog X.w) X.A (pyIter (.ref s1.heap.objs.size)) (PIE X pins σ tg R) X.xe { s1 with heap := s1.heap.push { cls := .type "dict_values", data := .fields #[.ref d] } } := by
    refine wpAny_pyIter_values_raw (d := d) ⟨_, Heap.get?_push_size _ rfl, rfl, rfl⟩ (raw.at fun o e => Heap.get?_push_of_some _ e) (pi_one (tk := s1.toks) I2 _ (turnVT _ dt) ⟨_, Heap.get?_push_size _ rfl, rfl, ?_⟩ q)
    rw [sz] <;> rfl
  show wpAny _ _ (callWith cpos (.builtin "dict.values") [.ref d] [] []) _ X.xe s1
  exact method_meetsIn F.slot_dict_values F.entry_dict_values rfl (PySem.evalArgs_none ⟨rfl, raw.typeIs, F.args_dict_values_1 _, _, meets_dict_values_raw d ns, ⟨es, ep, raw⟩, fin⟩)
theorem pi_itemsT {elts : List Expr} {kk : Nat} {tpos : Pos} (he : PE X e td) (hbase : attributeBase e "items" X.env (eval e X.env) = eval e X.env := by rfl) (hline : (apos.endLine == cpos.line) = true := by rfl) :
    PI X (.Tuple elts kk tpos) (.Call (.Attribute e "items" apos) [] [] cpos) (iItemsT td) := by
  refine ⟨fun pins s σ H R I h => ?_⟩
  refine wpAny_Call_method (T := "dict") (id := "dict.items") hbase rfl hline F.plainAttrs_dict F.slot_dict_items F.type_dict_items (thn (he.run pins s σ H _ I h) fun u s1 ⟨x, H1, I1, rx, d, o, kvs, ex, hd, q⟩ => ?_)
  subst ex
  obtain rfl : u = Value.ref d := rx
  obtain ⟨ns, es, ep, dt, raw, sz, _⟩ := lockT I1 hd
  refine ⟨raw.typeIs, ?_, ?_⟩
  · rintro b ⟨⟩
    obtain ⟨o, ho, x, _⟩ := raw
    exact ⟨o, ho, x.2.1⟩
  have I2 : Inv X pins σ H1 { s1 with heap := s1.heap.push { cls := .type "dict_items", data := .fields #[.ref d] } } := I1.kept (t' := s1.toks) fun b ob e => Heap.get?_push_of_some _ e
  have fin : wpAny (model X.prog X.w) X.A (pyIter (.ref s1.heap.objs.size)) (PIE X pins σ (.Tuple elts kk tpos) R) X.xe { s1 with heap := s1.heap.push { cls := .type "dict_items", data := .fields #[.ref d] } } := by
    refine wpAny_pyIter_items_raw (d := d) ⟨_, Heap.get?_push_size _ rfl, rfl, rfl⟩ (raw.at fun o e => Heap.get?_push_of_some _ e) (pi_one (tk := s1.toks) I2 _ (turnIT _ dt) ⟨.none, .none, ?_⟩ q)
    rw [← sz]
    exact Heap.get?_push_size _ rfl
  show wpAny _ _ (callWith cpos (.builtin "dict.items") [.ref d] [] []) _ X.xe s1
  exact method_meetsIn F.slot_dict_items F.entry_dict_items rfl (PySem.evalArgs_none ⟨rfl, raw.typeIs, F.args_dict_items_1 _, _, meets_dict_items_raw d ns, ⟨es, ep, raw⟩, fin⟩)
end
/-! ### the bookkeeping -/
section
variable {K : PySem.W.Frag} {a D : Addr} {xs : List V} {g : TG} {tt : TT} {tk tv te : TE} {vs : List Nat} {σ : L2.St} {H1 : Hp} {Qd : Hp → Prop} {kvs : List (List L2.Key × V)} {o : Obj} {d : Addr}
/-- a list comprehension over the values of a dict of tuples -/
theorem lc_valsT (Pv : Nat → Hp → Prop) (h0 : Pv 0 (upd H1 D (.lst []))) (hl : ∀ i H, i ≤ kvs.length → Pv i H → H d = some (.frz o (.dT kvs)))
    (hs : ∀ i k x H, kvs[i]? = some (k, x) → Pv i H → g x (wipe σ vs) H fun τ G => wipe τ vs = wipe σ vs ∧ tt τ G fun b G2 =>
      if b = true then te τ G2 fun y G3 => ∃ acc, G3 D = some (.lst acc) ∧ acc.length < sizeLine ∧ Pv (i + 1) (upd G3 D (.lst (acc ++ [y]))) else Pv (i + 1) G2) (hd : ∀ H, Pv kvs.length H → Qd H) :
    ∃ W : Nat → Nat → Hp → Prop, (∃ m, W 0 m (upd H1 D (.lst []))) ∧ ∀ i m H, W i m H →
      ((ItVT d o kvs).stop i H ∧ Qd H) ∨ ((ItVT d o kvs).go i H ∧ ∃ Nx : Hp → Prop, (∀ H', Nx H' → ∃ m', m' < m ∧ W (i + 1) m' H') ∧ ∀ x H', (ItVT d o kvs).yld i H x H' → g x (wipe σ vs) H' fun σ2 H2 => wipe σ2 vs = wipe σ vs ∧ tt σ2 H2 fun b H3 =>
        if b = true then te σ2 H3 fun y H4 => ∃ acc, H4 D = some (.lst acc) ∧ acc.length < sizeLine ∧ Nx (upd H4 D (.lst (acc ++ [y]))) else Nx H3) := by
  refine ⟨fun i m H => m + i = kvs.length ∧ Pv i H, ⟨kvs.length, rfl, h0⟩, ?_⟩
  rintro i m H ⟨hm, p⟩
  by_cases lt : i < kvs.length
  · refine .inr ⟨⟨hl i H (by omega) p, lt⟩, Pv (i + 1), fun G q => ⟨m - 1, by omega, by omega, q⟩, ?_⟩
    rintro x G ⟨rfl, k, hk⟩
    exact hs i k x _ hk p
  · have e : i = kvs.length := by omega
    subst e
    exact .inl ⟨⟨hl _ H (Nat.le_refl _) p, Nat.le_refl _⟩, hd H p⟩
/-- a dict comprehension of tuples over a list -/
theorem dct_list (Pv : Nat → Hp → Prop) (h0 : Pv 0 (upd H1 D (.dT []))) (hl : ∀ i H, i ≤ xs.length → Pv i H → SqL K H a xs)
    (hs : ∀ i x H, xs[i]? = some x → Pv i H → g x (wipe σ vs) H fun τ G => wipe τ vs = wipe σ vs ∧ tt τ G fun c G3 =>
      if c = true then tk τ G3 fun y G4 => tv τ G4 fun u G5 => ∃ b es k, y = .ref b ∧ G5 D = some (.dT es) ∧ G5 b = some (.tup (k.map kV)) ∧ es.length < sizeLine ∧ Pv (i + 1) (upd G5 D (.dT (putK es k u))) else Pv (i + 1) G3) (hd : ∀ H, Pv xs.length H → Qd H) :
    ∃ W : Nat → Nat → Hp → Prop, (∃ m, W 0 m (upd H1 D (.dT []))) ∧ ∀ i m G, W i m G →
      ((Itl K a).stop i G ∧ Qd G) ∨ ((Itl K a).go i G ∧ ∃ N : Hp → Prop, (∀ G', N G' → ∃ m', m' < m ∧ W (i + 1) m' G') ∧ ∀ x G', (Itl K a).yld i G x G' → g x (wipe σ vs) G' fun σ2 G2 => wipe σ2 vs = wipe σ vs ∧ tt σ2 G2 fun c G3 =>
        if c = true then tk σ2 G3 fun y G4 => tv σ2 G4 fun u G5 => ∃ b es k, y = .ref b ∧ G5 D = some (.dT es) ∧ G5 b = some (.tup (k.map kV)) ∧ es.length < sizeLine ∧ N (upd G5 D (.dT (putK es k u))) else N G3) := by
  refine ⟨fun i m H => m + i = xs.length ∧ Pv i H, ⟨xs.length, rfl, h0⟩, ?_⟩
  rintro i m H ⟨hm, p⟩
  by_cases lt : i < xs.length
  · have sq := hl i H (by omega) p
    refine .inr ⟨⟨xs, xs[i], sq, List.getElem?_eq_getElem lt⟩, Pv (i + 1), fun G q => ⟨m - 1, by omega, by omega, q⟩, ?_⟩
    rintro x G ⟨rfl, y⟩
    exact hs i x _ (y xs sq) p
  · have e : i = xs.length := by omega
    subst e
    exact .inl ⟨⟨xs, hl _ H (Nat.le_refl _) p, Nat.le_refl _⟩, hd H p⟩
/-- a dict comprehension of tuples over the pairs of another -/
theorem dct_items (Pv : Nat → Hp → Prop) (h0 : Pv 0 (upd H1 D (.dT []))) (hl : ∀ i H, i ≤ kvs.length → Pv i H → H d = some (.frz o (.dT kvs)))
    (hs : ∀ i k x q t H, kvs[i]? = some (k, x) → H q = some (.tup (k.map kV)) → H t = none → Pv i H → g (.ref t) (wipe σ vs) (upd H t (.tup [.ref q, x])) fun τ G => wipe τ vs = wipe σ vs ∧ tt τ G fun c G3 =>
      if c = true then tk τ G3 fun y G4 => tv τ G4 fun u G5 => ∃ b es k, y = .ref b ∧ G5 D = some (.dT es) ∧ G5 b = some (.tup (k.map kV)) ∧ es.length < sizeLine ∧ Pv (i + 1) (upd G5 D (.dT (putK es k u))) else Pv (i + 1) G3) (hd : ∀ H, Pv kvs.length H → Qd H) :
    ∃ W : Nat → Nat → Hp → Prop, (∃ m, W 0 m (upd H1 D (.dT []))) ∧ ∀ i m G, W i m G →
      ((ItIT d o kvs).stop i G ∧ Qd G) ∨ ((ItIT d o kvs).go i G ∧ ∃ N : Hp → Prop, (∀ G', N G' → ∃ m', m' < m ∧ W (i + 1) m' G') ∧ ∀ x G', (ItIT d o kvs).yld i G x G' → g x (wipe σ vs) G' fun σ2 G2 => wipe σ2 vs = wipe σ vs ∧ tt σ2 G2 fun c G3 =>
        if c = true then tk σ2 G3 fun y G4 => tv σ2 G4 fun u G5 => ∃ b es k, y = .ref b ∧ G5 D = some (.dT es) ∧ G5 b = some (.tup (k.map kV)) ∧ es.length < sizeLine ∧ N (upd G5 D (.dT (putK es k u))) else N G3) := by
  refine ⟨fun i m H => m + i = kvs.length ∧ Pv i H, ⟨kvs.length, rfl, h0⟩, ?_⟩
  rintro i m H ⟨hm, p⟩
  by_cases lt : i < kvs.length
  · refine .inr ⟨⟨hl i H (by omega) p, lt⟩, Pv (i + 1), fun G q => ⟨m - 1, by omega, by omega, q⟩, ?_⟩
    rintro x G ⟨t, q, k, v, hk, hq, rfl, ht, rfl⟩
    exact hs i k v q t H hk hq ht p
  · have e : i = kvs.length := by omega
    subst e
    exact .inl ⟨⟨hl _ H (Nat.le_refl _) p, Nat.le_refl _⟩, hd H p⟩
end
end KpR

/-! Kp: the bookkeeping of for over the tuples that are a dict's keys, and over a list from its end. -/
namespace KpR
open PySem PySem.Spec PyProof.Rows L2
section
variable {K : PySem.W.Frag} {a d : Addr} {o : Obj} {xs : List V} {kvs : List (List L2.Key × V)} {g : TG} {tb : TS} {D : Ends} {σ : L2.St} {H : Hp}
theorem for_keysT (Pv : Nat → L2.St → Hp → Prop) (h0 : Pv 0 σ H) (hl : ∀ i σ H, i ≤ kvs.length → Pv i σ H → H d = some (.frz o (.dT kvs)))
    (hs : ∀ i k v q σ H, kvs[i]? = some (k, v) → H q = some (.tup (k.map kV)) → Pv i σ H → g (.ref q) σ H fun τ G => tb { D with nx := Pv (i + 1), ct := Pv (i + 1), bk := D.nx } τ G) (hd : ∀ σ H, Pv kvs.length σ H → D.nx σ H) :
    ∃ W : Nat → Nat → L2.St → Hp → Prop, (∃ m, W 0 m σ H) ∧ ∀ i m σ H, W i m σ H →
      ((Itkt d o kvs).stop i H ∧ D.nx σ H) ∨ ((Itkt d o kvs).go i H ∧ ∃ N : L2.St → Hp → Prop, (∀ τ G, N τ G → ∃ m', m' < m ∧ W (i + 1) m' τ G) ∧ ∀ x G, (Itkt d o kvs).yld i H x G → g x σ G fun τ G2 => tb { D with nx := N, ct := N, bk := D.nx } τ G2) := by
  refine ⟨fun i m σ H => m + i = kvs.length ∧ Pv i σ H, ⟨kvs.length, rfl, h0⟩, ?_⟩
  rintro i m σ H ⟨hm, p⟩
  by_cases lt : i < kvs.length
  · refine .inr ⟨⟨hl i σ H (by omega) p, lt⟩, Pv (i + 1), fun τ G q => ⟨m - 1, by omega, by omega, q⟩, ?_⟩
    rintro x G ⟨rfl, k, v, q, hk, rfl, hq⟩
    exact hs i k v q σ _ hk hq p
  · have e : i = kvs.length := by omega
    subst e
    exact .inl ⟨⟨hl _ σ H (Nat.le_refl _) p, Nat.le_refl _⟩, hd σ H p⟩
theorem for_rev (Pv : Nat → L2.St → Hp → Prop) (h0 : Pv 0 σ H) (hl : ∀ i σ H, i ≤ xs.length → Pv i σ H → SqL K H a xs)
    (hs : ∀ i x σ H, i < xs.length → xs[xs.length - 1 - i]? = some x → Pv i σ H → g x σ H fun τ G => tb { D with nx := Pv (i + 1), ct := Pv (i + 1), bk := D.nx } τ G) (hd : ∀ σ H, Pv xs.length σ H → D.nx σ H) :
    ∃ W : Nat → Nat → L2.St → Hp → Prop, (∃ m, W 0 m σ H) ∧ ∀ i m σ H, W i m σ H →
      ((Itv K a xs.length).stop i H ∧ D.nx σ H) ∨ ((Itv K a xs.length).go i H ∧ ∃ N : L2.St → Hp → Prop, (∀ τ G, N τ G → ∃ m', m' < m ∧ W (i + 1) m' τ G) ∧ ∀ x G, (Itv K a xs.length).yld i H x G → g x σ G fun τ G2 => tb { D with nx := N, ct := N, bk := D.nx } τ G2) := by
  refine ⟨fun i m σ H => m + i = xs.length ∧ Pv i σ H, ⟨xs.length, rfl, h0⟩, ?_⟩
  rintro i m σ H ⟨hm, p⟩
  by_cases lt : i < xs.length
  · have sq := hl i σ H (by omega) p
    have lt2 : xs.length - 1 - i < xs.length := by omega
    refine .inr ⟨⟨lt, xs, xs[xs.length - 1 - i], sq, List.getElem?_eq_getElem lt2⟩, Pv (i + 1), fun τ G q => ⟨m - 1, by omega, by omega, q⟩, ?_⟩
    rintro x G ⟨rfl, y⟩
    exact hs i x σ _ lt (y xs sq) p
  · have e : i = xs.length := by omega
    subst e
    exact .inl ⟨Nat.le_refl _, hd σ H p⟩
end
end KpR

namespace KpR
open PySem PySem.Spec PySem.Calls PyProof.Rows L2
theorem kitAny_no2 {K : PySem.W.Frag} {t c1 c2 : Value} (h1 : PySem.W.kitOne K t c1 = some false) (h2 : PySem.W.kitOne K t c2 = some false) : PySem.W.kitAny K t [c1, c2] = some false := by
  simp only [PySem.W.kitAny, h1, h2]
/-- isinstance(e, (c1, c2)), e the exception that the suite holds, of whatever fields -/
def rIsXT (K : PySem.W.Frag) (a D : Addr) (cls : Value) (d : Option Addr) : List V → Hp → VK → Prop := fun xs H Q => ∃ (tp : Addr) (cs : List V) (ws : List Value) (b : Bool) (dd : Addr) (fs : List (Str × V)), xs = [.ref a, .ref tp] ∧ H tp = some (.tup cs) ∧ Paired ClsV cs ws ∧ PySem.W.kitAny K (.ref D) ws = some b ∧ cls = .ref D ∧ d = some dd ∧ H dd = some (.xd fs) ∧ Q (.bl b) H
theorem call_isXT {X : Cx} {a D : Addr} {oe : Obj} {d : Option Addr} {pn : List (Addr × Obj)} {cls : Value} (C : ExcC X.K D) (hz : Zc cls d oe) (hf : ∃ vs, oe.data = .fields vs) :
    CallR (X.suite a ((a, oe) :: pn)) (.builtin "isinstance") (rIsXT X.K a D cls d) := by
  intro pins s σ H xs us Q I r h
  obtain ⟨tp, cs, ws, b, dd, fs, rfl, hT, k, e, rfl, rfl, hdd, q⟩ := h
  cases r with
  | cons rx rr =>
    cases rr with
    | cons rt rr =>
      cases rr
      cases rx
      cases rt
      obtain ⟨hget, _⟩ := I.pin (a, oe) (List.mem_append_left _ List.mem_cons_self)
      obtain ⟨vs, hv⟩ := hf
      have okd : ObjOk X.prog X.w H s.heap dd (.xd fs) := I.hok dd _ hdd
      obtain ⟨mA, hns, _⟩ := okd
      obtain ⟨od, ho, _⟩ := lookIn_ns hns
      have J : PySem.W.InstAt s.heap a oe D (some od) := ⟨hget, hz.1, by unfold PySem.W.notCls; rw [hv] <;> rfl, by rw [hz.2]; exact ho⟩
      have okt : ObjOk X.prog X.w H s.heap tp (.tup cs) := I.hok tp _ hT
      obtain ⟨_, its, rv, o, g1, g2, n, g3⟩ := okt
      obtain rfl := ClsV.all k rv
      cases o
      cases g2
      cases g3
      exact PySem.W.kia_tup (kit_exd C) I.kIn ⟨_, _, J⟩ g1 e (fun z => nomatch z) fun tk => ⟨.bl b, H, I.kept (t' := tk) fun _ _ z => z, rfl, q⟩
end KpR
namespace KpR
open PySem PySem.Spec PyProof.Rows L2 LamX
/-- the end: ys, the defs whose tables are known to be empty -/
theorem walk_ofTabs {ol : PySem.W.OpenLaw} {most k : Nat} {q : Program} {loose : List Str} {XP : (Str → Option Value) → Heap → Prop} {YP : World → Heap → Prop} {d : DefRec} {K : Params → PySem.W.Frag} {CX : World → CXT} {x : Str} {ys : List Str}
    (hm : ol.most = some most) (hm2 : most ≤ sizeLine) (hdf : d.params.defaults = []) (room : Room k callerA) (hrec : ∀ y ∈ ys, ((recsOf q).any fun e => e.name == y) = true) (hY : ∀ (w : World) (h : Heap), YP w h → (K w.params).In h)
    (F : ∀ (w : World) (mg : Str → Option Value) (fa : Addr) (h : Heap), (K w.params).In h → h.Ns mainGlobals mg → mg d.name = some (.ref fa) → (∀ y ∈ ys, ∀ fy, mg y = some (.ref fy) → OwnTab (K w.params) fy h) → LawAtS ol w (K w.params) (CX w) k most x mg fa h)
    (hCX : ∀ (w : World) (H : Hp) (s : Shared) (e : Value) (s' : Shared), CX w [] H s (fun _ _ _ => False) e s' → False) :
    PySem.W.WalkO q loose XP YP ol.row.toRowW d [] (fun f vs => PySem.call f vs) := by
  refine Att.attach_callB hm hdf fun w s₀ st mg mb fa o pm cd doc a vs ns G Y ho hd hcd hmg hobj hints hlen hbits hg => ?_
  have kin := hY w _ Y
  have tabs : ∀ y ∈ ys, ∀ fy, mg y = some (.ref fy) → OwnTab (K w.params) fy st.heap := fun y hy fy hfy c P ob fd e dd us sl k1 k2 k3 k4 k5 => by
    obtain ⟨r, rin, reqn⟩ := List.any_eq_true.mp (hrec y hy)
    have rn : r.name = y := beq_iff_eq.mp reqn
    obtain ⟨a1, o1, fd1, c1, P1, t1, t2, t3, t4, t5, t6⟩ := G.T.tab r rin
    have u1 : some (Value.ref a1) = some (Value.ref fy) := by rw [← t1, rn, hfy]
    cases u1
    have u2 := (kin _ _ k1).symm.trans t2
    cases u2
    have u3 := k2.symm.trans t3
    cases u3
    have u4 := k3.symm.trans t4
    cases u4
    obtain ⟨⟨oc, vc, v1, _, v3, v4⟩, empty⟩ := t6
    have u5 := (kin _ _ k4).symm.trans v1
    cases u5
    cases v3
    have u6 := k5.symm.trans v4
    cases u6
    exact empty
  obtain ⟨fd, cs, sp, hT, nT, C, hb, hsp, hF⟩ := F w mg fa _ kin G.T.g hmg tabs
  exact law_callTs kin G.T.g G.T.b G.T.builtins G.T.nolimit hg hT nT C G.T.bmain hobj hints (Nat.le_trans hlen hm2) room hF hb (fun H hH hS => hsp H a ns hlen hbits hH hS) fun H e s' => hCX w H st e s'
end KpR








namespace Kp
open PySem PySem.Spec PyProof.Rows L2 KpR
def topS (i : Nat) : Stmt := PySem.Challenge.pw_wholedrops_k60_what_is_no_round.main.body.getD i (.Pass ⟨0, 0, 0, 0⟩)
abbrev scheckmuch : Stmt := topS 20
abbrev scheckjar : Stmt := topS 21
abbrev scheckdeed : Stmt := topS 22
abbrev sJarsInit : Stmt := inClass (topS 13) 0
abbrev sPourInit : Stmt := inClass (topS 15) 0
abbrev sPutInit : Stmt := inClass (topS 16) 0
abbrev sDrawInit : Stmt := inClass (topS 17) 0
abbrev sChangeInit : Stmt := inClass (topS 18) 0
abbrev sRowInit : Stmt := inClass (topS 19) 0
abbrev sWideInit : Stmt := inClass (topS 8) 0
abbrev sBadCountInit : Stmt := inClass (topS 3) 0
abbrev sBadStartInit : Stmt := inClass (topS 7) 0
abbrev scheckstart : Stmt := topS 24
abbrev sbehinddeed : Stmt := topS 25
abbrev sbehindround : Stmt := topS 26
abbrev sfate : Stmt := topS 31
abbrev sTurningInit : Stmt := inClass (topS 30) 0
abbrev sTurningRings : Stmt := inClass (topS 30) 1
abbrev sTurningRingsset : Stmt := inClass (topS 30) 2
abbrev scheckmany : Stmt := topS 33
abbrev swholestarts : Stmt := topS 34
abbrev sfatesof : Stmt := topS 35
abbrev sturning : Stmt := topS 32
abbrev sLcellat : Stmt := topS 37
abbrev sLwell : Stmt := topS 38
abbrev sLdraw : Stmt := topS 39
abbrev sLof : Stmt := topS 40
abbrev sLsizes : Stmt := topS 41
abbrev sLdeed : Stmt := topS 42
abbrev sLdeeds : Stmt := topS 43
abbrev sLdeedmade : Stmt := topS 44
abbrev sLrow : Stmt := topS 45
abbrev sLstart : Stmt := topS 46
abbrev sLgreat : Stmt := topS 47
abbrev sLsaid : Stmt := topS 48
abbrev sLoddstart : Stmt := topS 49
abbrev sLstartsright : Stmt := topS 50
abbrev sLmanyright : Stmt := topS 51
abbrev sLlongright : Stmt := topS 52
abbrev sLallright : Stmt := topS 53
abbrev slaw : Stmt := topS 54
theorem sccheckmuch : FnScope ["what", "much"] ["what", "much"] (defScope scheckmuch) := ⟨rfl, rfl, rfl, by decide +kernel, rfl, by decide +kernel, by decide +kernel⟩
theorem sccheckjar : FnScope ["jars", "jar"] ["jars", "jar"] (defScope scheckjar) := ⟨rfl, rfl, rfl, by decide +kernel, rfl, by decide +kernel, by decide +kernel⟩
theorem sccheckdeed : FnScope ["jars", "deed"] ["jars", "deed"] (defScope scheckdeed) := ⟨rfl, rfl, rfl, by decide +kernel, rfl, by decide +kernel, by decide +kernel⟩
theorem scJarsInit : FnScope ["self", "sizes", "size"] ["self", "sizes"] (defScope sJarsInit) := ⟨rfl, rfl, rfl, by decide +kernel, rfl, by decide +kernel, by decide +kernel⟩
theorem scPourInit : FnScope ["self", "a", "b"] ["self", "a", "b"] (defScope sPourInit) := ⟨rfl, rfl, rfl, by decide +kernel, rfl, by decide +kernel, by decide +kernel⟩
theorem scPutInit : FnScope ["self", "a", "k"] ["self", "a", "k"] (defScope sPutInit) := ⟨rfl, rfl, rfl, by decide +kernel, rfl, by decide +kernel, by decide +kernel⟩
theorem scDrawInit : FnScope ["self", "a", "k"] ["self", "a", "k"] (defScope sDrawInit) := ⟨rfl, rfl, rfl, by decide +kernel, rfl, by decide +kernel, by decide +kernel⟩
theorem scChangeInit : FnScope ["self", "a", "b"] ["self", "a", "b"] (defScope sChangeInit) := ⟨rfl, rfl, rfl, by decide +kernel, rfl, by decide +kernel, by decide +kernel⟩
theorem scRowInit : FnScope ["self", "jars", "deeds", "deed"] ["self", "jars", "deeds"] (defScope sRowInit) := ⟨rfl, rfl, rfl, by decide +kernel, rfl, by decide +kernel, by decide +kernel⟩
theorem scWideInit : FnScope ["self", "count"] ["self", "count"] (defScope sWideInit) := ⟨rfl, rfl, rfl, by decide +kernel, rfl, by decide +kernel, by decide +kernel⟩
theorem scBadCountInit : FnScope ["self", "what", "count"] ["self", "what", "count"] (defScope sBadCountInit) := ⟨rfl, rfl, rfl, by decide +kernel, rfl, by decide +kernel, by decide +kernel⟩
theorem scBadStartInit : FnScope ["self", "jar"] ["self", "jar"] (defScope sBadStartInit) := ⟨rfl, rfl, rfl, by decide +kernel, rfl, by decide +kernel, by decide +kernel⟩
theorem sccheckstart : FnScope ["jars", "start", "parts", "jar", "size"] ["jars", "start", "parts"] (defScope scheckstart) := ⟨rfl, rfl, rfl, by decide +kernel, rfl, by decide +kernel, by decide +kernel⟩
theorem scbehinddeed : FnScope ["jars", "deed", "stand", "parts", "after", "a", "b", "moved"] ["jars", "deed", "stand", "parts"] (defScope sbehinddeed) := ⟨rfl, rfl, rfl, by decide +kernel, rfl, by decide +kernel, by decide +kernel⟩
theorem scbehindround : FnScope ["row", "stand", "parts", "after", "deed"] ["row", "stand", "parts"] (defScope sbehindround) := ⟨rfl, rfl, rfl, by decide +kernel, rfl, by decide +kernel, by decide +kernel⟩
theorem scfate : FnScope ["row", "start", "parts", "stand", "seen", "rounds"] ["row", "start", "parts"] (defScope sfate) := ⟨rfl, rfl, rfl, by decide +kernel, rfl, by decide +kernel, by decide +kernel⟩
theorem scTurningInit : FnScope ["self", "tail", "ring", "late", "rings"] ["self", "tail", "ring", "late", "rings"] (defScope sTurningInit) := ⟨rfl, rfl, rfl, by decide +kernel, rfl, by decide +kernel, by decide +kernel⟩
theorem scTurningRings : FnScope ["self"] ["self"] (defScope sTurningRings) := ⟨rfl, rfl, rfl, by decide +kernel, rfl, by decide +kernel, by decide +kernel⟩
theorem scTurningRingsset : FnScope ["self", "value", "start"] ["self", "value"] (defScope sTurningRingsset) := ⟨rfl, rfl, rfl, by decide +kernel, rfl, by decide +kernel, by decide +kernel⟩
theorem sccheckmany : FnScope ["jars", "many", "size"] ["jars"] (defScope scheckmany) := ⟨rfl, rfl, rfl, by decide +kernel, rfl, by decide +kernel, by decide +kernel⟩
theorem scwholestarts : FnScope ["jars", "found", "size", "start", "number"] ["jars"] (defScope swholestarts) := ⟨rfl, rfl, rfl, by decide +kernel, rfl, by decide +kernel, by decide +kernel⟩
theorem scfatesof : FnScope ["after", "fates", "first", "path", "places", "stand", "ring", "one", "tail"] ["after"] (defScope sfatesof) := ⟨rfl, rfl, rfl, by decide +kernel, rfl, by decide +kernel, by decide +kernel⟩
theorem scturning : FnScope ["row", "starts", "fates", "start", "late", "ring", "rings", "tail", "own"] ["row"] (defScope sturning) := ⟨rfl, rfl, rfl, by decide +kernel, rfl, by decide +kernel, by decide +kernel⟩
theorem scLcellat : FnScope ["_law_script", "_law_k"] ["_law_script", "_law_k"] (defScope sLcellat) := ⟨rfl, rfl, rfl, by decide +kernel, rfl, by decide +kernel, by decide +kernel⟩
theorem scLwell : FnScope ["_law_cell"] ["_law_cell"] (defScope sLwell) := ⟨rfl, rfl, rfl, by decide +kernel, rfl, by decide +kernel, by decide +kernel⟩
theorem scLdraw : FnScope ["_law_well_here", "_law_size", "_law_digit", "_law_mixed"] ["_law_well_here", "_law_size"] (defScope sLdraw) := ⟨rfl, rfl, rfl, by decide +kernel, rfl, by decide +kernel, by decide +kernel⟩
theorem scLof : FnScope ["_law_well_here", "_law_some"] ["_law_well_here", "_law_some"] (defScope sLof) := ⟨rfl, rfl, rfl, by decide +kernel, rfl, by decide +kernel, by decide +kernel⟩
theorem scLsizes : FnScope ["_law_well_here", "_law_jars", "_law_most", "_law_first", "_law_k"] ["_law_well_here", "_law_jars", "_law_most"] (defScope sLsizes) := ⟨rfl, rfl, rfl, by decide +kernel, rfl, by decide +kernel, by decide +kernel⟩
theorem scLdeed : FnScope ["_law_well_here", "_law_sizes_here", "_law_a", "_law_b", "_law_way", "_law_much"] ["_law_well_here", "_law_sizes_here"] (defScope sLdeed) := ⟨rfl, rfl, rfl, by decide +kernel, rfl, by decide +kernel, by decide +kernel⟩
theorem scLdeeds : FnScope ["_law_well_here", "_law_sizes_here", "_law_most", "_law_found", "_law_k", "_law_deed_here"] ["_law_well_here", "_law_sizes_here", "_law_most"] (defScope sLdeeds) := ⟨rfl, rfl, rfl, by decide +kernel, rfl, by decide +kernel, by decide +kernel⟩
theorem scLdeedmade : FnScope ["_law_word", "_law_a", "_law_last"] ["_law_word", "_law_a", "_law_last"] (defScope sLdeedmade) := ⟨rfl, rfl, rfl, by decide +kernel, rfl, by decide +kernel, by decide +kernel⟩
theorem scLrow : FnScope ["_law_sizes_here", "_law_deeds_here", "_law_word", "_law_a", "_law_last"] ["_law_sizes_here", "_law_deeds_here"] (defScope sLrow) := ⟨rfl, rfl, rfl, by decide +kernel, rfl, by decide +kernel, by decide +kernel⟩
theorem scLstart : FnScope ["_law_well_here", "_law_sizes_here", "_law_shares", "_law_size"] ["_law_well_here", "_law_sizes_here", "_law_shares"] (defScope sLstart) := ⟨rfl, rfl, rfl, by decide +kernel, rfl, by decide +kernel, by decide +kernel⟩
theorem scLgreat : FnScope ["_law_well_here"] ["_law_well_here"] (defScope sLgreat) := ⟨rfl, rfl, rfl, by decide +kernel, rfl, by decide +kernel, by decide +kernel⟩
theorem scLsaid : FnScope ["_law_ask", "e"] ["_law_ask"] (defScope sLsaid) := ⟨rfl, rfl, rfl, by decide +kernel, rfl, by decide +kernel, by decide +kernel⟩
theorem scLoddstart : FnScope ["_law_well_here", "_law_sizes_here", "_law_shares", "_law_start_here", "_law_way", "_law_turn", "_law_jar", "_law_odd"] ["_law_well_here", "_law_sizes_here", "_law_shares"] (defScope sLoddstart) := ⟨rfl, rfl, rfl, by decide +kernel, rfl, by decide +kernel, by decide +kernel⟩
theorem scLstartsright : FnScope ["_law_well_here", "_law_sizes_here", "_law_row_here", "_law_shares", "_law_start_here", "_law_due", "_law_handed", "_law_none"] ["_law_well_here"] (defScope sLstartsright) := ⟨rfl, rfl, rfl, by decide +kernel, rfl, by decide +kernel, by decide +kernel⟩
theorem scLmanyright : FnScope ["_law_well_here", "_law_first", "_law_sizes_here", "_law_row_here"] ["_law_well_here"] (defScope sLmanyright) := ⟨rfl, rfl, rfl, by decide +kernel, rfl, by decide +kernel, by decide +kernel⟩
theorem scLlongright : FnScope ["_law_well_here", "_law_is_more", "_law_much", "_law_size", "_law_row_here"] ["_law_well_here", "_law_is_more"] (defScope sLlongright) := ⟨rfl, rfl, rfl, by decide +kernel, rfl, by decide +kernel, by decide +kernel⟩
theorem scLallright : FnScope ["_law_found"] [] (defScope sLallright) := ⟨rfl, rfl, rfl, by decide +kernel, rfl, by decide +kernel, by decide +kernel⟩
theorem sclaw : FnScope ["_law_script", "_law_well_here", "_law_way"] ["_law_script"] (defScope slaw) := ⟨rfl, rfl, rfl, by decide +kernel, rfl, by decide +kernel, by decide +kernel⟩
structure TyIns (K : PySem.W.Frag) (C : Addr) : Prop where
  ha : PySem.W.findIn K (.ref C) "__class__" = some (some (.builtin "object.__class__"))
  hn : PySem.W.specialIn K (.builtin "object.__class__") "__get__" = some (some (.builtin "getset_descriptor.__get__"))
  ht : PySem.W.takesIn K (.builtin "object.__class__") = some true
  hm : PySem.W.mroIn K C (.type "object") = some true
structure Tx (K : PySem.W.Frag) (mg : Str → Option Value) : Type where
  cJars : Addr
  cPour : Addr
  cPut : Addr
  cDraw : Addr
  cChange : Addr
  cRow : Addr
  cTurning : Addr
  acheckmuch : Addr
  dcheckmuch : FuncData
  acheckjar : Addr
  dcheckjar : FuncData
  acheckdeed : Addr
  dcheckdeed : FuncData
  aJarsInit : Addr
  dJarsInit : FuncData
  aPourInit : Addr
  dPourInit : FuncData
  aPutInit : Addr
  dPutInit : FuncData
  aDrawInit : Addr
  dDrawInit : FuncData
  aChangeInit : Addr
  dChangeInit : FuncData
  aRowInit : Addr
  dRowInit : FuncData
  aWideInit : Addr
  dWideInit : FuncData
  aBadCountInit : Addr
  dBadCountInit : FuncData
  aBadStartInit : Addr
  dBadStartInit : FuncData
  acheckstart : Addr
  dcheckstart : FuncData
  abehinddeed : Addr
  dbehinddeed : FuncData
  abehindround : Addr
  dbehindround : FuncData
  afate : Addr
  dfate : FuncData
  aTurningInit : Addr
  dTurningInit : FuncData
  aTurningRings : Addr
  dTurningRings : FuncData
  aTurningRingsset : Addr
  dTurningRingsset : FuncData
  acheckmany : Addr
  dcheckmany : FuncData
  awholestarts : Addr
  dwholestarts : FuncData
  afatesof : Addr
  dfatesof : FuncData
  aturning : Addr
  dturning : FuncData
  aLcellat : Addr
  dLcellat : FuncData
  aLwell : Addr
  dLwell : FuncData
  aLdraw : Addr
  dLdraw : FuncData
  aLof : Addr
  dLof : FuncData
  aLsizes : Addr
  dLsizes : FuncData
  aLdeed : Addr
  dLdeed : FuncData
  aLdeeds : Addr
  dLdeeds : FuncData
  aLdeedmade : Addr
  dLdeedmade : FuncData
  aLrow : Addr
  dLrow : FuncData
  aLstart : Addr
  dLstart : FuncData
  aLgreat : Addr
  dLgreat : FuncData
  aLsaid : Addr
  dLsaid : FuncData
  aLoddstart : Addr
  dLoddstart : FuncData
  aLstartsright : Addr
  dLstartsright : FuncData
  aLmanyright : Addr
  dLmanyright : FuncData
  aLlongright : Addr
  dLlongright : FuncData
  aLallright : Addr
  dLallright : FuncData
  alaw : Addr
  dlaw : FuncData
  tMOSTJARS : Tok
  tMOSTDEEDS : Tok
  tMOSTMUCH : Tok
  tMOSTROUNDS : Tok
  tMOSTSTARTS : Tok
  cWide : Addr
  cBadCount : Addr
  cBadStart : Addr
  fcheckmuch : Fun K "check_much" "check_much" scheckmuch acheckmuch dcheckmuch
  bcheckmuch : Binds K dcheckmuch ["what", "much"] []
  gcheckmuch : mg "check_much" = some (.ref acheckmuch)
  fcheckjar : Fun K "check_jar" "check_jar" scheckjar acheckjar dcheckjar
  bcheckjar : Binds K dcheckjar ["jars", "jar"] []
  gcheckjar : mg "check_jar" = some (.ref acheckjar)
  fcheckdeed : Fun K "check_deed" "check_deed" scheckdeed acheckdeed dcheckdeed
  bcheckdeed : Binds K dcheckdeed ["jars", "deed"] []
  gcheckdeed : mg "check_deed" = some (.ref acheckdeed)
  fJarsInit : Fun K "__init__" "Jars.__init__" sJarsInit aJarsInit dJarsInit
  bJarsInit : Binds K dJarsInit ["self", "sizes"] []
  fPourInit : Fun K "__init__" "Pour.__init__" sPourInit aPourInit dPourInit
  bPourInit : Binds K dPourInit ["self", "a", "b"] []
  fPutInit : Fun K "__init__" "Put.__init__" sPutInit aPutInit dPutInit
  bPutInit : Binds K dPutInit ["self", "a", "k"] []
  fDrawInit : Fun K "__init__" "Draw.__init__" sDrawInit aDrawInit dDrawInit
  bDrawInit : Binds K dDrawInit ["self", "a", "k"] []
  fChangeInit : Fun K "__init__" "Change.__init__" sChangeInit aChangeInit dChangeInit
  bChangeInit : Binds K dChangeInit ["self", "a", "b"] []
  fRowInit : Fun K "__init__" "Row.__init__" sRowInit aRowInit dRowInit
  bRowInit : Binds K dRowInit ["self", "jars", "deeds"] []
  fWideInit : Fun K "__init__" "Wide.__init__" sWideInit aWideInit dWideInit
  bWideInit : Binds K dWideInit ["self", "count"] []
  iWide : PySem.W.findIn K (.ref cWide) "__init__" = some (some (.ref aWideInit))
  tWide : PySem.W.typeIn K (.ref aWideInit) = some (.type "function")
  fBadCountInit : Fun K "__init__" "BadCount.__init__" sBadCountInit aBadCountInit dBadCountInit
  bBadCountInit : Binds K dBadCountInit ["self", "what", "count"] []
  iBadCount : PySem.W.findIn K (.ref cBadCount) "__init__" = some (some (.ref aBadCountInit))
  tBadCount : PySem.W.typeIn K (.ref aBadCountInit) = some (.type "function")
  fBadStartInit : Fun K "__init__" "BadStart.__init__" sBadStartInit aBadStartInit dBadStartInit
  bBadStartInit : Binds K dBadStartInit ["self", "jar"] []
  iBadStart : PySem.W.findIn K (.ref cBadStart) "__init__" = some (some (.ref aBadStartInit))
  tBadStart : PySem.W.typeIn K (.ref aBadStartInit) = some (.type "function")
  fcheckstart : Fun K "check_start" "check_start" scheckstart acheckstart dcheckstart
  bcheckstart : Binds K dcheckstart ["jars", "start", "parts"] []
  gcheckstart : mg "check_start" = some (.ref acheckstart)
  fbehinddeed : Fun K "behind_deed" "behind_deed" sbehinddeed abehinddeed dbehinddeed
  bbehinddeed : Binds K dbehinddeed ["jars", "deed", "stand", "parts"] []
  gbehinddeed : mg "behind_deed" = some (.ref abehinddeed)
  fbehindround : Fun K "behind_round" "behind_round" sbehindround abehindround dbehindround
  bbehindround : Binds K dbehindround ["row", "stand", "parts"] []
  gbehindround : mg "behind_round" = some (.ref abehindround)
  ffate : FunD K "fate" "fate" (defArgs sfate) (defBody sfate) (defScope sfate) [] [("parts", .int 1)] afate dfate
  gfate : mg "fate" = some (.ref afate)
  fTurningInit : Fun K "__init__" "Turning.__init__" sTurningInit aTurningInit dTurningInit
  bTurningInit : Binds K dTurningInit ["self", "tail", "ring", "late", "rings"] []
  fTurningRings : Fun K "rings" "Turning.rings" sTurningRings aTurningRings dTurningRings
  bTurningRings : Binds K dTurningRings ["self"] []
  pTurning_rings : Addr
  pgTurningRings : PropOf K cTurning "rings" pTurning_rings aTurningRings
  fTurningRingsset : Fun K "rings" "Turning.rings" sTurningRingsset aTurningRingsset dTurningRingsset
  bTurningRingsset : Binds K dTurningRingsset ["self", "value"] []
  psTurningRingsset : PropSet K cTurning "rings" pTurning_rings aTurningRingsset
  fcheckmany : Fun K "check_many" "check_many" scheckmany acheckmany dcheckmany
  bcheckmany : Binds K dcheckmany ["jars"] []
  gcheckmany : mg "check_many" = some (.ref acheckmany)
  fwholestarts : Fun K "whole_starts" "whole_starts" swholestarts awholestarts dwholestarts
  bwholestarts : Binds K dwholestarts ["jars"] []
  gwholestarts : mg "whole_starts" = some (.ref awholestarts)
  ffatesof : Fun K "fates_of" "fates_of" sfatesof afatesof dfatesof
  bfatesof : Binds K dfatesof ["after"] []
  gfatesof : mg "fates_of" = some (.ref afatesof)
  fturning : Fun K "turning" "turning" sturning aturning dturning
  bturning : Binds K dturning ["row"] []
  gturning : mg "turning" = some (.ref aturning)
  fLcellat : Fun K "_law_cell_at" "_law_cell_at" sLcellat aLcellat dLcellat
  bLcellat : Binds K dLcellat ["_law_script", "_law_k"] []
  gLcellat : mg "_law_cell_at" = some (.ref aLcellat)
  fLwell : Fun K "_law_well" "_law_well" sLwell aLwell dLwell
  bLwell : Binds K dLwell ["_law_cell"] []
  gLwell : mg "_law_well" = some (.ref aLwell)
  fLdraw : Fun K "_law_draw" "_law_draw" sLdraw aLdraw dLdraw
  bLdraw : Binds K dLdraw ["_law_well_here", "_law_size"] []
  gLdraw : mg "_law_draw" = some (.ref aLdraw)
  fLof : Fun K "_law_of" "_law_of" sLof aLof dLof
  bLof : Binds K dLof ["_law_well_here", "_law_some"] []
  gLof : mg "_law_of" = some (.ref aLof)
  fLsizes : Fun K "_law_sizes" "_law_sizes" sLsizes aLsizes dLsizes
  bLsizes : Binds K dLsizes ["_law_well_here", "_law_jars", "_law_most"] []
  gLsizes : mg "_law_sizes" = some (.ref aLsizes)
  fLdeed : Fun K "_law_deed" "_law_deed" sLdeed aLdeed dLdeed
  bLdeed : Binds K dLdeed ["_law_well_here", "_law_sizes_here"] []
  gLdeed : mg "_law_deed" = some (.ref aLdeed)
  fLdeeds : Fun K "_law_deeds" "_law_deeds" sLdeeds aLdeeds dLdeeds
  bLdeeds : Binds K dLdeeds ["_law_well_here", "_law_sizes_here", "_law_most"] []
  gLdeeds : mg "_law_deeds" = some (.ref aLdeeds)
  fLdeedmade : Fun K "_law_deed_made" "_law_deed_made" sLdeedmade aLdeedmade dLdeedmade
  bLdeedmade : Binds K dLdeedmade ["_law_word", "_law_a", "_law_last"] []
  gLdeedmade : mg "_law_deed_made" = some (.ref aLdeedmade)
  fLrow : Fun K "_law_row" "_law_row" sLrow aLrow dLrow
  bLrow : Binds K dLrow ["_law_sizes_here", "_law_deeds_here"] []
  gLrow : mg "_law_row" = some (.ref aLrow)
  fLstart : Fun K "_law_start" "_law_start" sLstart aLstart dLstart
  bLstart : Binds K dLstart ["_law_well_here", "_law_sizes_here", "_law_shares"] []
  gLstart : mg "_law_start" = some (.ref aLstart)
  fLgreat : Fun K "_law_great" "_law_great" sLgreat aLgreat dLgreat
  bLgreat : Binds K dLgreat ["_law_well_here"] []
  gLgreat : mg "_law_great" = some (.ref aLgreat)
  fLsaid : Fun K "_law_said" "_law_said" sLsaid aLsaid dLsaid
  bLsaid : Binds K dLsaid ["_law_ask"] []
  gLsaid : mg "_law_said" = some (.ref aLsaid)
  fLoddstart : Fun K "_law_odd_start" "_law_odd_start" sLoddstart aLoddstart dLoddstart
  bLoddstart : Binds K dLoddstart ["_law_well_here", "_law_sizes_here", "_law_shares"] []
  gLoddstart : mg "_law_odd_start" = some (.ref aLoddstart)
  fLstartsright : Fun K "_law_starts_right" "_law_starts_right" sLstartsright aLstartsright dLstartsright
  bLstartsright : Binds K dLstartsright ["_law_well_here"] []
  gLstartsright : mg "_law_starts_right" = some (.ref aLstartsright)
  fLmanyright : Fun K "_law_many_right" "_law_many_right" sLmanyright aLmanyright dLmanyright
  bLmanyright : Binds K dLmanyright ["_law_well_here"] []
  gLmanyright : mg "_law_many_right" = some (.ref aLmanyright)
  fLlongright : Fun K "_law_long_right" "_law_long_right" sLlongright aLlongright dLlongright
  bLlongright : Binds K dLlongright ["_law_well_here", "_law_is_more"] []
  gLlongright : mg "_law_long_right" = some (.ref aLlongright)
  fLallright : Fun K "_law_all_right" "_law_all_right" sLallright aLallright dLallright
  bLallright : Binds K dLallright [] []
  gLallright : mg "_law_all_right" = some (.ref aLallright)
  flaw : Fun K "law" "law" slaw alaw dlaw
  blaw : Binds K dlaw ["_law_script"] []
  glaw : mg "law" = some (.ref alaw)
  mJars : mg "Jars" = some (.ref cJars)
  lJars : Cls K cJars
  kJars : Mk K cJars aJarsInit
  nJars_sizes : NoAttr K cJars "sizes"
  mPour : mg "Pour" = some (.ref cPour)
  lPour : Cls K cPour
  kPour : Mk K cPour aPourInit
  nPour_a : NoAttr K cPour "a"
  nPour_b : NoAttr K cPour "b"
  mPut : mg "Put" = some (.ref cPut)
  lPut : Cls K cPut
  kPut : Mk K cPut aPutInit
  nPut_a : NoAttr K cPut "a"
  nPut_k : NoAttr K cPut "k"
  mDraw : mg "Draw" = some (.ref cDraw)
  lDraw : Cls K cDraw
  kDraw : Mk K cDraw aDrawInit
  nDraw_a : NoAttr K cDraw "a"
  nDraw_k : NoAttr K cDraw "k"
  mChange : mg "Change" = some (.ref cChange)
  lChange : Cls K cChange
  kChange : Mk K cChange aChangeInit
  nChange_a : NoAttr K cChange "a"
  nChange_b : NoAttr K cChange "b"
  mRow : mg "Row" = some (.ref cRow)
  lRow : Cls K cRow
  kRow : Mk K cRow aRowInit
  nRow_jars : NoAttr K cRow "jars"
  nRow_deeds : NoAttr K cRow "deeds"
  mTurning : mg "Turning" = some (.ref cTurning)
  lTurning : Cls K cTurning
  kTurning : Mk K cTurning aTurningInit
  nTurning_tail : NoAttr K cTurning "tail"
  nTurning_ring : NoAttr K cTurning "ring"
  nTurning_late : NoAttr K cTurning "late"
  nTurning__rings : NoAttr K cTurning "_rings"
  mWide : mg "Wide" = some (.ref cWide)
  oWide : OexC K cWide
  xfWide : XfC K cWide
  nWide_count : PySem.W.findIn K (.ref cWide) "count" = some none
  emWide_Wide : PySem.W.exmOne K (.ref cWide) (.ref cWide) = some true
  emWide_BadCount : PySem.W.exmOne K (.ref cWide) (.ref cBadCount) = some false
  emWide_BadStart : PySem.W.exmOne K (.ref cWide) (.ref cBadStart) = some false
  mBadCount : mg "BadCount" = some (.ref cBadCount)
  oBadCount : OexC K cBadCount
  xfBadCount : XfC K cBadCount
  nBadCount_what : PySem.W.findIn K (.ref cBadCount) "what" = some none
  nBadCount_count : PySem.W.findIn K (.ref cBadCount) "count" = some none
  emBadCount_Wide : PySem.W.exmOne K (.ref cBadCount) (.ref cWide) = some false
  emBadCount_BadCount : PySem.W.exmOne K (.ref cBadCount) (.ref cBadCount) = some true
  emBadCount_BadStart : PySem.W.exmOne K (.ref cBadCount) (.ref cBadStart) = some false
  mBadStart : mg "BadStart" = some (.ref cBadStart)
  oBadStart : OexC K cBadStart
  xfBadStart : XfC K cBadStart
  nBadStart_jar : PySem.W.findIn K (.ref cBadStart) "jar" = some none
  emBadStart_Wide : PySem.W.exmOne K (.ref cBadStart) (.ref cWide) = some false
  emBadStart_BadCount : PySem.W.exmOne K (.ref cBadStart) (.ref cBadCount) = some false
  emBadStart_BadStart : PySem.W.exmOne K (.ref cBadStart) (.ref cBadStart) = some true
  xcBadCount : ExcC K cBadCount
  ixBadCount_BadStart : PySem.W.kitOne K (.ref cBadCount) (.ref cBadStart) = some false
  ixBadCount_Wide : PySem.W.kitOne K (.ref cBadCount) (.ref cWide) = some false
  xcBadStart : ExcC K cBadStart
  ixBadStart_Wide : PySem.W.kitOne K (.ref cBadStart) (.ref cWide) = some false
  yChange : TyIns K cChange
  yDraw : TyIns K cDraw
  yPour : TyIns K cPour
  yPut : TyIns K cPut
  iPour_Put : PySem.W.kitOne K (.ref cPour) (.ref cPut) = some false
  iPour_Draw : PySem.W.kitOne K (.ref cPour) (.ref cDraw) = some false
  iPour_Pour : PySem.W.kitOne K (.ref cPour) (.ref cPour) = some true
  iPour_Change : PySem.W.kitOne K (.ref cPour) (.ref cChange) = some false
  iPut_Put : PySem.W.kitOne K (.ref cPut) (.ref cPut) = some true
  iPut_Draw : PySem.W.kitOne K (.ref cPut) (.ref cDraw) = some false
  iPut_Pour : PySem.W.kitOne K (.ref cPut) (.ref cPour) = some false
  iPut_Change : PySem.W.kitOne K (.ref cPut) (.ref cChange) = some false
  iDraw_Put : PySem.W.kitOne K (.ref cDraw) (.ref cPut) = some false
  iDraw_Draw : PySem.W.kitOne K (.ref cDraw) (.ref cDraw) = some true
  iDraw_Pour : PySem.W.kitOne K (.ref cDraw) (.ref cPour) = some false
  iDraw_Change : PySem.W.kitOne K (.ref cDraw) (.ref cChange) = some false
  iChange_Put : PySem.W.kitOne K (.ref cChange) (.ref cPut) = some false
  iChange_Draw : PySem.W.kitOne K (.ref cChange) (.ref cDraw) = some false
  iChange_Pour : PySem.W.kitOne K (.ref cChange) (.ref cPour) = some false
  iChange_Change : PySem.W.kitOne K (.ref cChange) (.ref cChange) = some true
  cMOSTJARS : mg "MOST_JARS" = some (.int 6 tMOSTJARS)
  cMOSTDEEDS : mg "MOST_DEEDS" = some (.int 20 tMOSTDEEDS)
  cMOSTMUCH : mg "MOST_MUCH" = some (.int 1000000000000 tMOSTMUCH)
  cMOSTROUNDS : mg "MOST_ROUNDS" = some (.int 20000 tMOSTROUNDS)
  cMOSTSTARTS : mg "MOST_STARTS" = some (.int 2000 tMOSTSTARTS)
  nenumerate : mg "enumerate" = none
  nint : mg "int" = none
  nisinstance : mg "isinstance" = none
  nlen : mg "len" = none
  nlist : mg "list" = none
  nmax : mg "max" = none
  nmin : mg "min" = none
  nrange : mg "range" = none
  nreversed : mg "reversed" = none
  ntuple : mg "tuple" = none
  nlcm : mg "lcm" = some (.builtin "math.lcm")
/-! ### fields -/
theorem put2 {a b : Str} {u v : V} (h : ¬ a = b) : putF b v (putF a u []) = ([(a, u), (b, v)] : List (Str × V)) := by
  show (if a = b then [(a, v)] else (a, u) :: putF b v []) = [(a, u), (b, v)]
  rw [if_neg h]
  rfl
theorem put_app {b : Str} {v : V} : ∀ {l : List (Str × V)}, (∀ p ∈ l, ¬ p.1 = b) → putF b v l = l ++ [(b, v)]
  | [], _ => rfl
  | (a, u) :: r, h => by
    show (if a = b then (a, v) :: r else (a, u) :: putF b v r) = (a, u) :: (r ++ [(b, v)])
    rw [if_neg (h (a, u) (List.mem_cons_self ..)), put_app fun p hp => h p (List.mem_cons_of_mem _ hp)]
theorem lk1 {a : Str} {x : V} {r : List (Str × V)} : List.lookup a ((a, x) :: r) = some x := by simp [List.lookup]
theorem lkS {a b : Str} {x : V} {r : List (Str × V)} (h : ¬ b = a) : List.lookup b ((a, x) :: r) = List.lookup b r := by
  have : (b == a) = false := by simpa using h
  simp [List.lookup, this]
theorem lk2 {a b : Str} {x y : V} {r : List (Str × V)} (h : ¬ b = a) : List.lookup b ((a, x) :: (b, y) :: r) = some y := (lkS h).trans lk1
theorem lk3 {a b c : Str} {x y z : V} {r : List (Str × V)} (h : ¬ c = a) (h2 : ¬ c = b) : List.lookup c ((a, x) :: (b, y) :: (c, z) :: r) = some z := (lkS h).trans ((lkS h2).trans lk1)
theorem lk4 {a b c d : Str} {x y z w : V} {r : List (Str × V)} (h : ¬ d = a) (h2 : ¬ d = b) (h3 : ¬ d = c) : List.lookup d ((a, x) :: (b, y) :: (c, z) :: (d, w) :: r) = some w := (lkS h).trans ((lkS h2).trans ((lkS h3).trans lk1))
theorem lk5 {a b c d e : Str} {x y z w q : V} {r : List (Str × V)} (h : ¬ e = a) (h2 : ¬ e = b) (h3 : ¬ e = c) (h4 : ¬ e = d) : List.lookup e ((a, x) :: (b, y) :: (c, z) :: (d, w) :: (e, q) :: r) = some q := (lkS h).trans ((lkS h2).trans ((lkS h3).trans ((lkS h4).trans lk1)))
def rLenK (K : PySem.W.Frag) : List V → Hp → VK → Prop := fun xs H Q => ∃ p ys, xs = [V.ref p] ∧ (SqL K H p ys ∨ SqT K H p ys) ∧ Q (V.int (ys.length : Nat)) H
/-! ### things in the heap -/
section
variable {K : PySem.W.Frag} {mg : Str → Option Value}
def f1s (a : Str) (x : V) : List (Str × V) := [(a, x)]
def f2s (a : Str) (x : V) (b : Str) (y : V) : List (Str × V) := [(a, x), (b, y)]
/-- what a grower holds -/
def fgs (x y : V) (n : Int) : List (Str × V) := [("jars", x), ("deeds", y), ("leaves", .int n)]
def DeedAt (T : Tx K mg) (H : Hp) (v : V) (d : D) : Prop := ∃ p dx, v = .ref p ∧ match d with
  | .pour a b => H p = some (.ins T.cPour dx (f2s "a" (.int a) "b" (.int b)))
  | .put a k => H p = some (.ins T.cPut dx (f2s "a" (.int a) "k" (.int k)))
  | .draw a k => H p = some (.ins T.cDraw dx (f2s "a" (.int a) "k" (.int k)))
  | .change a b => H p = some (.ins T.cChange dx (f2s "a" (.int a) "b" (.int b)))
def JarsAt (T : Tx K mg) (H : Hp) (p : Addr) (caps : List Int) : Prop := ∃ dx t, H p = some (.ins T.cJars dx (f1s "sizes" (.ref t))) ∧ H t = some (.tup (vi caps))
def RowAt (T : Tx K mg) (H : Hp) (r : Addr) (caps : List Int) (ds : List D) : Prop := ∃ dx j t vs, H r = some (.ins T.cRow dx (f2s "jars" (.ref j) "deeds" (.ref t))) ∧ JarsAt T H j caps ∧ H t = some (.tup vs) ∧ A2 (DeedAt T H) vs ds
theorem DeedAt.same {T : Tx K mg} {H H' : Hp} {v : V} {d : D} (e : Same H H') (h : DeedAt T H v d) : DeedAt T H' v d := by
  obtain ⟨p, dx, rfl, h⟩ := h
  refine ⟨p, dx, rfl, ?_⟩
  cases d <;> exact e _ _ h
theorem JarsAt.same {T : Tx K mg} {H H' : Hp} {p : Addr} {caps : List Int} (e : Same H H') (h : JarsAt T H p caps) : JarsAt T H' p caps := by
  obtain ⟨dx, t, h1, h2⟩ := h
  exact ⟨dx, t, e _ _ h1, e _ _ h2⟩
theorem RowAt.same {T : Tx K mg} {H H' : Hp} {p : Addr} {caps : List Int} {ds : List D} (e : Same H H') (h : RowAt T H p caps ds) : RowAt T H' p caps ds := by
  obtain ⟨dx, j, t, vs, h1, h2, h3, h4⟩ := h
  exact ⟨dx, j, t, vs, e _ _ h1, h2.same e, e _ _ h3, A2.mono (fun _ _ q => q.same e) h4⟩
/-- a list, an instance without fields, or a grower: what a def may change -/
def Blank (o : HO) : Prop := (∃ ws, o = .lst ws) ∨ (∃ C dx, o = .ins C dx []) ∨ (∃ C dx x y n, o = .ins C dx (fgs x y n)) ∨ ∃ kvs, o = .dK kvs
theorem bl_l {ws : List V} : Blank (.lst ws) := .inl ⟨ws, rfl⟩
theorem bl_i {C dx : Addr} : Blank (.ins C dx []) := .inr (.inl ⟨C, dx, rfl⟩)
theorem bl_g {C dx : Addr} {x y : V} {n : Int} : Blank (.ins C dx (fgs x y n)) := .inr (.inr (.inl ⟨C, dx, x, y, n, rfl⟩))
theorem bl_d {kvs : List (Key × V)} : Blank (.dK kvs) := .inr (.inr (.inr ⟨kvs, rfl⟩))
theorem nbI {C dx : Addr} {fs : List (Str × V)} (h0 : fs ≠ []) (h : ∀ x y n, fs ≠ fgs x y n) : ¬ Blank (.ins C dx fs) := by
  rintro (⟨_, z⟩ | ⟨_, _, z⟩ | ⟨_, _, x, y, n, z⟩ | ⟨_, z⟩)
  · cases z
  · injection z with _ _ z
    exact h0 z
  · injection z with _ _ z
    exact h x y n z
  · cases z
theorem nb1 {C dx : Addr} {a : Str} {x : V} : ¬ Blank (.ins C dx (f1s a x)) := nbI (fun z => by cases z) fun _ _ _ z => by simp [f1s, fgs] at z
theorem nb2 {C dx : Addr} {a b : Str} {x y : V} : ¬ Blank (.ins C dx (f2s a x b y)) := nbI (fun z => by cases z) fun _ _ _ z => by simp [f2s, fgs] at z
theorem nbT {xs : List V} : ¬ Blank (.tup xs) := by
  rintro (⟨_, z⟩ | ⟨_, _, z⟩ | ⟨_, _, _, _, _, z⟩ | ⟨_, z⟩) <;> cases z
/-- all but one thing at w stays: what is no list stays -/
theorem fr_no {w : Addr} {H H' : Hp} {u : HO} {b : Addr} {o : HO} (e : Fr w H H') (hw : H w = some u) (hb : Blank u) (h : H b = some o) (n : ¬ Blank o) : H' b = some o :=
  e b o (fun z => by rw [z, hw] at h; cases h; exact n hb) h
theorem DeedAt.fr {T : Tx K mg} {w : Addr} {H H' : Hp} {u : HO} {v : V} {d : D} (e : Fr w H H') (hw : H w = some u) (hb : Blank u) (h : DeedAt T H v d) : DeedAt T H' v d := by
  obtain ⟨p, dx, rfl, h⟩ := h
  refine ⟨p, dx, rfl, ?_⟩
  cases d <;> exact fr_no e hw hb h nb2
theorem JarsAt.fr {T : Tx K mg} {w : Addr} {H H' : Hp} {u : HO} {p : Addr} {caps : List Int} (e : Fr w H H') (hw : H w = some u) (hb : Blank u) (h : JarsAt T H p caps) : JarsAt T H' p caps := by
  obtain ⟨dx, t, h1, h2⟩ := h
  exact ⟨dx, t, fr_no e hw hb h1 nb1, fr_no e hw hb h2 nbT⟩
theorem RowAt.fr {T : Tx K mg} {w : Addr} {H H' : Hp} {u : HO} {p : Addr} {caps : List Int} {ds : List D} (e : Fr w H H') (hw : H w = some u) (hb : Blank u) (h : RowAt T H p caps ds) : RowAt T H' p caps ds := by
  obtain ⟨dx, j, t, vs, h1, h2, h3, h4⟩ := h
  exact ⟨dx, j, t, vs, fr_no e hw hb h1 nb2, h2.fr e hw hb, fr_no e hw hb h3 nbT, A2.mono (fun _ _ q => q.fr e hw hb) h4⟩
/-! ### the promises of the program's defs -/
def spcheckmuch (T : Tx K mg) : Sp := fun vs H Q _ => ∃ (x : Str) (n : Int), vs = [.str x, .int n] ∧ 1 ≤ n ∧ n ≤ 1000000000000 ∧ Q .non H
def spcheckjar (T : Tx K mg) : Sp := fun vs H Q _ => ∃ (j : Addr) (caps : List Int) (i : Nat), vs = [.ref j, .int i] ∧ JarsAt T H j caps ∧ i < caps.length ∧ Q .non H
def spcheckdeed (T : Tx K mg) : Sp := fun vs H Q _ => ∃ (j : Addr) (caps : List Int) (v : V) (d : D), vs = [.ref j, v] ∧ JarsAt T H j caps ∧ DeedAt T H v d ∧ d.ok caps ∧ Q .non H
def spJarsInit (T : Tx K mg) : Sp := fun vs H Q _ => ∃ (p dx a : Addr) (caps : List Int), vs = [.ref p, .ref a] ∧ H p = some (.ins T.cJars dx []) ∧ H a = some (.tup (vi caps)) ∧ Caps caps ∧
  ∀ H', JarsAt T H' p caps → Fr p H H' → Q .non H'
/-- an __init__ that stores two ints -/
def spTwo (C : Addr) (f g : Str) : Sp := fun vs H Q _ => ∃ (p dx : Addr) (u v : V), vs = [.ref p, u, v] ∧ H p = some (.ins C dx []) ∧ ∀ H', H' p = some (.ins C dx (f2s f u g v)) → Fr p H H' → Q .non H'
def spPourInit (T : Tx K mg) : Sp := spTwo T.cPour "a" "b"
def spPutInit (T : Tx K mg) : Sp := spTwo T.cPut "a" "k"
def spDrawInit (T : Tx K mg) : Sp := spTwo T.cDraw "a" "k"
def spChangeInit (T : Tx K mg) : Sp := spTwo T.cChange "a" "b"
def spRowInit (T : Tx K mg) : Sp := fun vs H Q _ => ∃ (p dx j a : Addr) (caps : List Int) (us : List V) (ds : List D), vs = [.ref p, .ref j, .ref a] ∧ H p = some (.ins T.cRow dx []) ∧ JarsAt T H j caps ∧ H a = some (.lst us) ∧ A2 (DeedAt T H) us ds ∧
  ds.length ≤ 20 ∧ (∀ d ∈ ds, d.ok caps) ∧ ∀ H', RowAt T H' p caps ds → Fr p H H' → Q .non H'
end
section
variable {P : Program} {w : World} {K : PySem.W.Frag} {mg : Str → Option Value} {base : Heap}
/-! ### the program's bodies -/
theorem okcheckmuch (T : Tx K mg) : FnOk P w K mg base CX0 1 T.acheckmuch T.dcheckmuch ["what", "much"] (spcheckmuch T) := by
  refine T.fcheckmuch.ok sccheckmuch (fun vs H Q E h => ?_) (fun cdv A outer s H vs Q E hr h => ?_)
  · obtain ⟨x, n, rfl, _⟩ := h
    rfl
  · obtain ⟨x, n, rfl, h1, h2, hq⟩ := h
    refine ⟨_, (pss_one (ps_if (pt_not (pt_chain op_le op_le pe_int (pv 1) (pe_glob (v := .int 1000000000000) rfl T.cMOSTMUCH ⟨_, rfl⟩))) (pss_one ps_never) pss_nil)), ?_⟩
    refine ⟨_, rfl, _, _, rfl, rfl, _, rfl, ifT (decide_eq_true h1) ?_⟩
    exact ⟨_, _, rfl, rfl, _, rfl, iteNS h2 hq⟩
theorem okcheckjar (T : Tx K mg) : FnOk P w K mg base CX0 1 T.acheckjar T.dcheckjar ["jars", "jar"] (spcheckjar T) := by
  refine T.fcheckjar.ok sccheckjar (fun vs H Q E h => ?_) (fun cdv A outer s H vs Q E hr h => ?_)
  · obtain ⟨j, caps, i, rfl, _⟩ := h
    rfl
  · obtain ⟨j, caps, i, rfl, ⟨dx, t, e1, e2⟩, hi, hq⟩ := h
    refine ⟨_, (pss_one (ps_if (pt_not (pt_chain op_le op_lt pe_int (pv 1) (pe_callB call_len_seq rfl T.nlen PySem.boot_len (pa_cons (pe_fld (pv 0) rfl) pa_nil)))) (pss_one ps_never) pss_nil)), ?_⟩
    refine ⟨_, rfl, _, _, rfl, rfl, _, rfl, ifT (decide_eq_true (by omega)) ?_⟩
    refine ⟨_, rfl, j, _, dx, _, _, rfl, e1, T.lJars, T.nJars_sizes, lk1, t, _, rfl, .inr (SqT.of e2), _, _, rfl, rfl, _, rfl, iteNS (by rw [List.length_map]; omega) hq⟩
theorem okPourInit (T : Tx K mg) : FnOk P w K mg base CX0 1 T.aPourInit T.dPourInit ["self", "a", "b"] (spPourInit T) := by
  refine T.fPourInit.ok scPourInit (fun vs H Q E h => ?_) (fun cdv A outer s H vs Q E hr h => ?_)
  · obtain ⟨p, dx, u, v, rfl, _⟩ := h
    rfl
  · obtain ⟨p, dx, u, v, rfl, hp, hq⟩ := h
    refine ⟨_, (pss_cons (ps_fld (pv 0) (pv 1) rfl)
      (pss_one (ps_fld (pv 0) (pv 2) rfl))), ?_⟩
    refine ⟨_, rfl, _, rfl, p, _, dx, _, rfl, hp, T.lPour, T.nPour_a, (by show 0 < 1000; decide), ?_⟩
    refine ⟨_, rfl, _, rfl, p, _, dx, _, rfl, upd_same, T.lPour, T.nPour_b, (by show 1 < 1000; decide), ?_⟩
    refine hq _ ?_ (fr_mut (fr_mut (Fr.refl _ _)))
    rw [upd_same, put2 (by decide +kernel)]
    rfl
theorem okPutInit (T : Tx K mg) : FnOk P w K mg base CX0 1 T.aPutInit T.dPutInit ["self", "a", "k"] (spPutInit T) := by
  refine T.fPutInit.ok scPutInit (fun vs H Q E h => ?_) (fun cdv A outer s H vs Q E hr h => ?_)
  · obtain ⟨p, dx, u, v, rfl, _⟩ := h
    rfl
  · obtain ⟨p, dx, u, v, rfl, hp, hq⟩ := h
    refine ⟨_, (pss_cons (ps_fld (pv 0) (pv 1) rfl)
      (pss_one (ps_fld (pv 0) (pv 2) rfl))), ?_⟩
    refine ⟨_, rfl, _, rfl, p, _, dx, _, rfl, hp, T.lPut, T.nPut_a, (by show 0 < 1000; decide), ?_⟩
    refine ⟨_, rfl, _, rfl, p, _, dx, _, rfl, upd_same, T.lPut, T.nPut_k, (by show 1 < 1000; decide), ?_⟩
    refine hq _ ?_ (fr_mut (fr_mut (Fr.refl _ _)))
    rw [upd_same, put2 (by decide +kernel)]
    rfl
theorem okDrawInit (T : Tx K mg) : FnOk P w K mg base CX0 1 T.aDrawInit T.dDrawInit ["self", "a", "k"] (spDrawInit T) := by
  refine T.fDrawInit.ok scDrawInit (fun vs H Q E h => ?_) (fun cdv A outer s H vs Q E hr h => ?_)
  · obtain ⟨p, dx, u, v, rfl, _⟩ := h
    rfl
  · obtain ⟨p, dx, u, v, rfl, hp, hq⟩ := h
    refine ⟨_, (pss_cons (ps_fld (pv 0) (pv 1) rfl)
      (pss_one (ps_fld (pv 0) (pv 2) rfl))), ?_⟩
    refine ⟨_, rfl, _, rfl, p, _, dx, _, rfl, hp, T.lDraw, T.nDraw_a, (by show 0 < 1000; decide), ?_⟩
    refine ⟨_, rfl, _, rfl, p, _, dx, _, rfl, upd_same, T.lDraw, T.nDraw_k, (by show 1 < 1000; decide), ?_⟩
    refine hq _ ?_ (fr_mut (fr_mut (Fr.refl _ _)))
    rw [upd_same, put2 (by decide +kernel)]
    rfl
theorem okChangeInit (T : Tx K mg) : FnOk P w K mg base CX0 1 T.aChangeInit T.dChangeInit ["self", "a", "b"] (spChangeInit T) := by
  refine T.fChangeInit.ok scChangeInit (fun vs H Q E h => ?_) (fun cdv A outer s H vs Q E hr h => ?_)
  · obtain ⟨p, dx, u, v, rfl, _⟩ := h
    rfl
  · obtain ⟨p, dx, u, v, rfl, hp, hq⟩ := h
    refine ⟨_, (pss_cons (ps_fld (pv 0) (pv 1) rfl)
      (pss_one (ps_fld (pv 0) (pv 2) rfl))), ?_⟩
    refine ⟨_, rfl, _, rfl, p, _, dx, _, rfl, hp, T.lChange, T.nChange_a, (by show 0 < 1000; decide), ?_⟩
    refine ⟨_, rfl, _, rfl, p, _, dx, _, rfl, upd_same, T.lChange, T.nChange_b, (by show 1 < 1000; decide), ?_⟩
    refine hq _ ?_ (fr_mut (fr_mut (Fr.refl _ _)))
    rw [upd_same, put2 (by decide +kernel)]
    rfl
end
end Kp

namespace Kp
open PySem PySem.Spec PyProof.Rows L2 KpR
section
variable {P : Program} {w : World} {K : PySem.W.Frag} {mg : Str → Option Value} {base : Heap}
/-! ### isinstance of a deed -/
def D.cls (T : Tx K mg) : D → Addr
  | .pour _ _ => T.cPour
  | .put _ _ => T.cPut
  | .draw _ _ => T.cDraw
  | .change _ _ => T.cChange
def D.fst : D → Nat
  | .pour a _ => a
  | .put a _ => a
  | .draw a _ => a
  | .change a _ => a
def D.fs : D → List (Str × V)
  | .pour a b => f2s "a" (.int a) "b" (.int b)
  | .put a k => f2s "a" (.int a) "k" (.int k)
  | .draw a k => f2s "a" (.int a) "k" (.int k)
  | .change a b => f2s "a" (.int a) "b" (.int b)
theorem deed_at {T : Tx K mg} {H : Hp} {v : V} {d : D} (h : DeedAt T H v d) : ∃ p dx, v = .ref p ∧ H p = some (.ins (d.cls T) dx d.fs) := by
  obtain ⟨p, dx, rfl, h⟩ := h
  cases d <;> exact ⟨p, dx, rfl, h⟩
theorem cls_cls (T : Tx K mg) (d : D) : Cls K (d.cls T) := by
  cases d
  · exact T.lPour
  · exact T.lPut
  · exact T.lDraw
  · exact T.lChange
theorem no_a (T : Tx K mg) (d : D) : NoAttr K (d.cls T) "a" := by
  cases d
  · exact T.nPour_a
  · exact T.nPut_a
  · exact T.nDraw_a
  · exact T.nChange_a
theorem fs_a (d : D) : d.fs.lookup ("a" : Str) = some (.int d.fst) := by
  cases d <;> exact lk1
theorem ty_deed {T : Tx K mg} {H : Hp} {p dx : Addr} {d : D} (h : H p = some (.ins (d.cls T) dx d.fs)) : TyX K H (.ref p) (.ref (d.cls T)) := by
  refine .base ?_
  cases d
  · exact .ins h T.lPour T.yPour.ha T.yPour.hn T.yPour.ht T.yPour.hm
  · exact .ins h T.lPut T.yPut.ha T.yPut.hn T.yPut.ht T.yPut.hm
  · exact .ins h T.lDraw T.yDraw.ha T.yDraw.hn T.yDraw.ht T.yDraw.hm
  · exact .ins h T.lChange T.yChange.ha T.yChange.hn T.yChange.ht T.yChange.hm
def D.isPut : D → Bool
  | .put _ _ => true
  | _ => false
def D.isDraw : D → Bool
  | .draw _ _ => true
  | _ => false
def D.isPour : D → Bool
  | .pour _ _ => true
  | _ => false
def D.isChange : D → Bool
  | .change _ _ => true
  | _ => false
theorem is_put (T : Tx K mg) (d : D) : PySem.W.kitOne K (.ref (d.cls T)) (.ref T.cPut) = some d.isPut := by
  cases d
  · exact T.iPour_Put
  · exact T.iPut_Put
  · exact T.iDraw_Put
  · exact T.iChange_Put
theorem is_draw (T : Tx K mg) (d : D) : PySem.W.kitOne K (.ref (d.cls T)) (.ref T.cDraw) = some d.isDraw := by
  cases d
  · exact T.iPour_Draw
  · exact T.iPut_Draw
  · exact T.iDraw_Draw
  · exact T.iChange_Draw
theorem is_pour (T : Tx K mg) (d : D) : PySem.W.kitOne K (.ref (d.cls T)) (.ref T.cPour) = some d.isPour := by
  cases d
  · exact T.iPour_Pour
  · exact T.iPut_Pour
  · exact T.iDraw_Pour
  · exact T.iChange_Pour
theorem is_change (T : Tx K mg) (d : D) : PySem.W.kitOne K (.ref (d.cls T)) (.ref T.cChange) = some d.isChange := by
  cases d
  · exact T.iPour_Change
  · exact T.iPut_Change
  · exact T.iDraw_Change
  · exact T.iChange_Change
theorem okcheckdeed (T : Tx K mg) : FnOk P w K mg base CX0 2 T.acheckdeed T.dcheckdeed ["jars", "deed"] (spcheckdeed T) := by
  refine T.fcheckdeed.ok sccheckdeed (fun vs H Q E h => ?_) (fun cdv A outer s H vs Q E hr h => ?_)
  · obtain ⟨j, caps, v, d, rfl, _⟩ := h
    rfl
  · obtain ⟨j, caps, v, d, rfl, hJ, hD, ok, hq⟩ := h
    refine ⟨_, (pss_cons (ps_expr (pe_call (okcheckjar T) (hr.mono (by decide)) rfl T.gcheckjar T.fcheckjar.kp T.bcheckjar .nil pass0 (pa_cons (pv 0) (pa_cons (pe_fld (pv 1) rfl) pa_nil))))
      (pss_cons (ps_if (PW.pt (pw_or (pt_val (pe_callB call_isi rfl T.nisinstance (by decide +kernel) (pa_cons (pv 1) (pa_cons (pe_glob (v := .ref T.cPut) rfl T.mPut rfl) pa_nil)))) (pw_or1 (pt_val (pe_callB call_isi rfl T.nisinstance (by decide +kernel) (pa_cons (pv 1) (pa_cons (pe_glob (v := .ref T.cDraw) rfl T.mDraw rfl) pa_nil))))))) (pss_cons (ps_expr (pe_call (okcheckmuch T) (hr.mono (by decide)) rfl T.gcheckmuch T.fcheckmuch.kp T.bcheckmuch .nil pass0 (pa_cons pe_str (pa_cons (pe_fld (pv 1) rfl) pa_nil))))
      (pss_one ps_retN)) pss_nil)
      (pss_cons (ps_expr (pe_call (okcheckjar T) (hr.mono (by decide)) rfl T.gcheckjar T.fcheckjar.kp T.bcheckjar .nil pass0 (pa_cons (pv 0) (pa_cons (pe_fld (pv 1) rfl) pa_nil))))
      (pss_cons (ps_if (pt_cmpR op_eq (pe_fld (pv 1) rfl) (pe_fld (pv 1) rfl) (nomark _)) (pss_one ps_never) pss_nil)
      (pss_one (ps_if (PW.pt (pw_and (pt_val (pe_callB call_isi rfl T.nisinstance (by decide +kernel) (pa_cons (pv 1) (pa_cons (pe_glob (v := .ref T.cChange) rfl T.mChange rfl) pa_nil)))) (pw_and1 (pt_cmpR op_ne (pe_ix (r := rIxT K) ix_tup (pe_fld (pv 0) rfl) (pe_fld (pv 1) rfl) (fun _ _ => rfl)) (pe_ix (r := rIxT K) ix_tup (pe_fld (pv 0) rfl) (pe_fld (pv 1) rfl) (fun _ _ => rfl)) (nomark _))))) (pss_one ps_never) pss_nil)))))), ?_⟩
    obtain ⟨p, dx, rfl, hp⟩ := deed_at hD
    have ty := ty_deed hp
    have ha : d.fst < caps.length := by cases d <;> exact ok.1
    refine ⟨_, rfl, _, rfl, p, _, dx, _, _, rfl, hp, cls_cls T d, no_a T d, fs_a d, j, caps, d.fst, rfl, hJ, ha, ?_⟩
    obtain ⟨jx, t, e1, e2⟩ := hJ
    refine ⟨_, rfl, .ref p, .ref T.cPut, _, _, _, rfl, .own _, ty, is_put T d, _, rfl, ?_⟩
    cases d with
    | put a k =>
      refine ifT rfl (ifT rfl ?_)
      exact ⟨_, rfl, p, _, dx, _, _, rfl, hp, T.lPut, T.nPut_k, lk2 (by decide +kernel), "much", k, rfl, ok.2.1, ok.2.2, hq⟩
    | draw a k =>
      refine ifF rfl ⟨_, rfl, .ref p, .ref T.cDraw, _, _, _, rfl, .own _, ty, T.iDraw_Draw, _, rfl, ifT rfl ?_⟩
      exact ⟨_, rfl, p, _, dx, _, _, rfl, hp, T.lDraw, T.nDraw_k, lk2 (by decide +kernel), "much", k, rfl, ok.2.1, ok.2.2, hq⟩
    | pour a b =>
      refine ifF rfl ⟨_, rfl, .ref p, .ref T.cDraw, _, _, _, rfl, .own _, ty, T.iPour_Draw, _, rfl, ifF rfl ?_⟩
      refine ⟨_, rfl, _, rfl, p, _, dx, _, _, rfl, hp, T.lPour, T.nPour_b, lk2 (by decide +kernel), j, caps, b, rfl, ⟨jx, t, e1, e2⟩, ok.2.1, ?_⟩
      refine ⟨_, rfl, p, _, dx, _, _, rfl, hp, T.lPour, T.nPour_a, lk1, _, rfl, p, _, dx, _, _, rfl, hp, T.lPour, T.nPour_b, lk2 (by decide +kernel), rfl, _, rfl, ifF (decide_eq_false fun z => ok.2.2 (by injection z with z; omega)) ?_⟩
      exact ⟨_, rfl, .ref p, .ref T.cChange, _, _, _, rfl, .own _, ty, T.iPour_Change, _, rfl, ifF rfl (ifF rfl hq)⟩
    | change a b =>
      refine ifF rfl ⟨_, rfl, .ref p, .ref T.cDraw, _, _, _, rfl, .own _, ty, T.iChange_Draw, _, rfl, ifF rfl ?_⟩
      refine ⟨_, rfl, _, rfl, p, _, dx, _, _, rfl, hp, T.lChange, T.nChange_b, lk2 (by decide +kernel), j, caps, b, rfl, ⟨jx, t, e1, e2⟩, ok.2.1, ?_⟩
      refine ⟨_, rfl, p, _, dx, _, _, rfl, hp, T.lChange, T.nChange_a, lk1, _, rfl, p, _, dx, _, _, rfl, hp, T.lChange, T.nChange_b, lk2 (by decide +kernel), rfl, _, rfl, ifF (decide_eq_false fun z => ok.2.2.1 (by injection z with z; omega)) ?_⟩
      refine ⟨_, rfl, .ref p, .ref T.cChange, _, _, _, rfl, .own _, ty, T.iChange_Change, _, rfl, ifT rfl ?_⟩
      refine ⟨_, rfl, j, _, jx, _, _, rfl, e1, T.lJars, T.nJars_sizes, lk1, _, rfl, p, _, dx, _, _, rfl, hp, T.lChange, T.nChange_a, lk1, t, _, _, _, rfl, rfl, SqT.of e2, vi_at ok.1, ?_⟩
      refine ⟨_, rfl, j, _, jx, _, _, rfl, e1, T.lJars, T.nJars_sizes, lk1, _, rfl, p, _, dx, _, _, rfl, hp, T.lChange, T.nChange_b, lk2 (by decide +kernel), t, _, _, _, rfl, rfl, SqT.of e2, vi_at ok.2.1, ?_⟩
      exact ⟨rfl, _, rfl, iteNS (congrArg V.int ok.2.2.2) hq⟩
theorem okJarsInit (T : Tx K mg) : FnOk P w K mg base CX0 2 T.aJarsInit T.dJarsInit ["self", "sizes"] (spJarsInit T) := by
  refine T.fJarsInit.ok scJarsInit (fun vs H Q E h => ?_) (fun cdv A outer s H vs Q E hr h => ?_)
  · obtain ⟨p, dx, a, caps, rfl, _⟩ := h
    rfl
  · obtain ⟨p, dx, a, caps, rfl, hp, hS0, hC, hq⟩ := h
    have hS : SqT K H a (vi caps) := SqT.of hS0
    have c1 := hC.l1
    have c6 := hC.l6
    refine ⟨_, (pss_cons (ps_if (pt_not (pt_chain op_le op_le pe_int (pe_callB call_len_seq rfl T.nlen PySem.boot_len (pa_cons (pv 1) pa_nil)) (pe_glob (v := .int 6) rfl T.cMOSTJARS ⟨_, rfl⟩))) (pss_one ps_never) pss_nil)
      (pss_cons (ps_for PassesOwn.never rfl (pi_tup (pv 1)) (pg_name (i := 2) scJarsInit.nd rfl (by first | exact Or.inl rfl | exact Or.inr rfl)) (pss_one (ps_expr (pe_call (okcheckmuch T) (hr.mono (by decide)) rfl T.gcheckmuch T.fcheckmuch.kp T.bcheckmuch .nil pass0 (pa_cons pe_str (pa_cons (pv 2) pa_nil))))))
      (pss_one (ps_fld (pv 0) (pe_callTy call_tuple_of rfl T.ntuple (by decide +kernel) (pa_cons (pv 1) pa_nil)) rfl)))), ?_⟩
    refine ⟨_, rfl, a, _, rfl, (.inr hS), 1, _, rfl, rfl, _, rfl, ifT (decide_eq_true (by rw [List.length_map]; omega)) ?_⟩
    refine ⟨_, _, rfl, rfl, _, rfl, iteNS (by rw [List.length_map]; omega) ?_⟩
    refine ⟨_, rfl, a, rfl, ⟨_, hS⟩, for_tup (K := K) (a := a) (xs := vi caps) (fun i σ H' => ∃ v : Option V, σ = [some (.ref p), some (.ref a), v] ∧ H' = H) ⟨none, rfl, rfl⟩ (fun i σ H' _ ⟨_, _, e⟩ => by rw [e]; exact hS) ?_ ?_⟩
    · rintro i y σ H' hi ⟨v, rfl, rfl⟩
      obtain ⟨z, hz, rfl⟩ := vi_get hi
      have lt : i < caps.length := (List.getElem?_eq_some_iff.mp hz).1
      have ez := at0_of hz
      refine ⟨_, rfl, "size", z, rfl, ?_, ?_, some (.int z), rfl, rfl⟩
      · rw [← ez]; exact hC.lo i lt
      · rw [← ez]; exact hC.hi i lt
    · rintro σ H' ⟨v, rfl, rfl⟩
      refine ⟨_, rfl, a, _, rfl, .inr ⟨hS, ?_⟩⟩
      have n : a ≠ p := fun z => by rw [z, hp] at hS0; cases hS0
      refine ⟨_, rfl, p, _, dx, _, rfl, hp, T.lJars, T.nJars_sizes, (by show 0 < 1000; decide), ?_⟩
      exact hq _ ⟨dx, a, upd_same, by rw [upd_ne n]; exact hS0⟩ (fr_mut (Fr.refl _ _))
theorem okRowInit (T : Tx K mg) : FnOk P w K mg base CX0 3 T.aRowInit T.dRowInit ["self", "jars", "deeds"] (spRowInit T) := by
  refine T.fRowInit.ok scRowInit (fun vs H Q E h => ?_) (fun cdv A outer s H vs Q E hr h => ?_)
  · obtain ⟨p, dx, j, a, caps, us, ds, rfl, _⟩ := h
    rfl
  · obtain ⟨p, dx, j, a, caps, us, ds, rfl, hp, hJ, hS, hA, hl, ok, hq⟩ := h
    refine ⟨_, (pss_cons (ps_if (pt_cmpR op_gt (pe_callB call_len_seq rfl T.nlen PySem.boot_len (pa_cons (pv 2) pa_nil)) (pe_glob (v := .int 20) rfl T.cMOSTDEEDS ⟨_, rfl⟩) (nomark _)) (pss_one ps_never) pss_nil)
      (pss_cons (ps_for PassesOwn.never rfl (pi_list (pv 2)) (pg_name (i := 3) scRowInit.nd rfl (by first | exact Or.inl rfl | exact Or.inr rfl)) (pss_one (ps_expr (pe_call (okcheckdeed T) (hr.mono (by decide)) rfl T.gcheckdeed T.fcheckdeed.kp T.bcheckdeed .nil pass0 (pa_cons (pv 1) (pa_cons (pv 3) pa_nil))))))
      (pss_cons (ps_fld (pv 0) (pv 1) rfl)
      (pss_one (ps_fld (pv 0) (pe_callTy call_tuple_of rfl T.ntuple (by decide +kernel) (pa_cons (pv 2) pa_nil)) rfl))))), ?_⟩
    refine ⟨_, rfl, a, _, rfl, .inl (SqL.of hS), _, _, rfl, rfl, _, rfl, ifF (decide_eq_false (by rw [hA.len]; omega)) ?_⟩
    refine ⟨_, rfl, a, rfl, ⟨_, SqL.of hS⟩, for_list (K := K) (a := a) (xs := us) (fun i σ H' => ∃ v : Option V, σ = [some (.ref p), some (.ref j), some (.ref a), v] ∧ H' = H) ⟨none, rfl, rfl⟩ (fun i σ H' _ ⟨_, _, e⟩ => by rw [e]; exact SqL.of hS) ?_ ?_⟩
    · rintro i y σ H' hi ⟨v, rfl, rfl⟩
      obtain ⟨d, hd, hv⟩ := hA.get hi
      exact ⟨_, rfl, _, rfl, j, caps, y, d, rfl, hJ, hv, ok d (List.mem_of_getElem? hd), some y, rfl, rfl⟩
    · rintro σ H' ⟨v, rfl, rfl⟩
      refine ⟨_, rfl, _, rfl, p, _, dx, _, rfl, hp, T.lRow, T.nRow_jars, (by show 0 < 1000; decide), ?_⟩
      have f1 : Fr p H' (upd H' p (.ins T.cRow dx (putF "jars" (.ref j) []))) := fr_mut (Fr.refl _ _)
      have na : a ≠ p := ne_of hS hp (by intro z; cases z)
      refine ⟨_, rfl, a, _, rfl, .inl ⟨f1.sqL na (SqL.of hS), fun t ht => ?_⟩⟩
      have n : p ≠ t := fun z => by rw [← z, upd_same] at ht; cases ht
      have ht0 : H' t = none := fr_free f1 n.symm ht
      refine ⟨_, rfl, p, _, dx, _, rfl, (by rw [upd_ne n]; exact upd_same), T.lRow, T.nRow_deeds, (by show 1 < 1000; decide), ?_⟩
      have fr : Fr p H' (upd (upd (upd H' p (.ins T.cRow dx (putF "jars" (.ref j) []))) t (.tup us)) p (.ins T.cRow dx (putF "deeds" (.ref t) (putF "jars" (.ref j) [])))) := fr_mut (fr_new f1 ht0)
      refine hq _ ⟨dx, j, t, us, ?_, ?_, ?_, ?_⟩ fr
      · rw [upd_same, put2 (by decide +kernel)]
        rfl
      · exact hJ.fr fr hp bl_i
      · rw [upd_ne n.symm]; exact upd_same
      · exact A2.mono (fun _ _ q => q.fr fr hp bl_i) hA
end
end Kp

namespace Kp
open PySem PySem.Spec PyProof.Rows L2 KpR
section
variable {K : PySem.W.Frag} {mg : Str → Option Value}
def spbehinddeed (T : Tx K mg) : Sp := fun vs H Q _ => ∃ (j a : Addr) (v : V) (d : D) (caps st : List Int) (p : Int), vs = [.ref j, v, .ref a, .int p] ∧ JarsAt T H j caps ∧ DeedAt T H v d ∧ d.ok caps ∧ SqL K H a (vi st) ∧ 1 ≤ p ∧ p < 2 ^ 62 ∧ st.length = caps.length ∧
  ∀ (H' : Hp) (q : Addr), H q = none → H' q = some (.lst (vi (d.act caps p st))) → Same H H' → Q (.ref q) H'
def spbehindround (T : Tx K mg) : Sp := fun vs H Q _ => ∃ (r a : Addr) (ds : List D) (caps st : List Int) (p : Int), vs = [.ref r, .ref a, .int p] ∧ RowAt T H r caps ds ∧ (∀ d ∈ ds, d.ok caps) ∧ (SqL K H a (vi st) ∨ SqT K H a (vi st)) ∧ 1 ≤ p ∧ p < 2 ^ 62 ∧ st.length = caps.length ∧
  ∀ (H' : Hp) (q : Addr), H q = none → H' q = some (.lst (vi (run caps p ds st))) → Same H H' → Q (.ref q) H'
end
end Kp
namespace Kp
open PySem PySem.Spec PyProof.Rows L2 KpR
section
variable {P : Program} {w : World} {K : PySem.W.Frag} {mg : Str → Option Value} {base : Heap}
def SqA (K : PySem.W.Frag) (H : Hp) (a : Addr) (xs : List V) : Prop := SqL K H a xs ∨ SqT K H a xs
theorem sameA {K : PySem.W.Frag} {H H' : Hp} {a : Addr} {xs : List V} (e : Same H H') (h : SqA K H a xs) : SqA K H' a xs := h.elim (fun h => .inl (e.seq h)) (fun h => .inr (sameT e h))
theorem rix_any {K : PySem.W.Frag} {H : Hp} {a : Addr} {xs : List V} {i : Int} {v : V} {Q : VK} (h : SqA K H a xs) (e : atI xs i = some v) (q : Q v H) : rIx K (.ref a) (.int i) H Q :=
  h.elim (fun h => .inl ⟨a, xs, i, v, rfl, rfl, h, e, q⟩) (fun h => .inr (.inl ⟨a, xs, i, v, rfl, rfl, h, e, q⟩))
theorem mulP {p : Int} (h1 : 1 ≤ p) (h2 : p < 2 ^ 62) : -(2 ^ 64) < p ∧ p < 2 ^ 64 := ⟨by omega, by omega⟩
theorem vi_set {l : List Int} {i : Nat} {z : Int} : (vi l).set i (.int z) = vi (l.set i z) := (List.map_set ..).symm
theorem ixN_nat {n i : Nat} (h : i < n) : ixN n (i : Int) = some i := by
  have e : atI (List.range n) (i : Int) = some i := atI_nat (by simp [h])
  unfold atI at e
  cases z : ixN (List.range n).length (i : Int) with
  | none => rw [z] at e; cases e
  | some j =>
    rw [z] at e
    have e2 : (List.range n)[j]? = some i := e
    have hj := (List.getElem?_eq_some_iff.mp e2).2
    rw [List.getElem_range] at hj
    subst hj
    simpa using z
theorem ixN_last {n : Nat} : ixN (n + 1) (-1) = some n := by
  have e : atI (List.range n ++ [n]) (-1) = some n := atI_last _ _
  unfold atI at e
  have hl : (List.range n ++ [n]).length = n + 1 := by simp
  rw [hl] at e
  cases z : ixN (n + 1) (-1) with
  | none => rw [z] at e; cases e
  | some j =>
    rw [z, ← List.range_succ] at e
    have e2 : (List.range (n + 1))[j]? = some n := e
    have hj := (List.getElem?_eq_some_iff.mp e2).2
    rw [List.getElem_range] at hj
    exact congrArg some hj
theorem okbehinddeed (T : Tx K mg) : FnOk P w K mg base CX0 1 T.abehinddeed T.dbehinddeed ["jars", "deed", "stand", "parts"] (spbehinddeed T) := by
  refine T.fbehinddeed.ok scbehinddeed (fun vs H Q E h => ?_) (fun cdv A outer s H vs Q E hr h => ?_)
  · obtain ⟨j, a, v, d, caps, st, p, rfl, _⟩ := h
    rfl
  · obtain ⟨j, a, v, d, caps, st, p, rfl, hJ, hD, ok, hS, p1, p2, hl, hq⟩ := h
    refine ⟨_, (pss_cons (ps_set (i := 4) scbehinddeed.nd rfl (by first | exact Or.inl rfl | exact Or.inr rfl) (pe_callTy call_list_of rfl T.nlist (by decide +kernel) (pa_cons (pv 2) pa_nil)))
      (pss_cons (ps_set (i := 5) scbehinddeed.nd rfl (by first | exact Or.inl rfl | exact Or.inr rfl) (pe_fld (pv 1) rfl))
      (pss_cons (ps_if (pt_val (pe_callB call_isi rfl T.nisinstance (by decide +kernel) (pa_cons (pv 1) (pa_cons (pe_glob (v := .ref T.cPut) rfl T.mPut rfl) pa_nil)))) (pss_cons (ps_asg (pe_callB (call_min2 rfl) rfl T.nmin (by decide +kernel) (pa_cons (pe_op op_add (pe_ix (r := rIxL K) ix_list (pv 2) (pv 5) (fun _ _ => rfl)) (pe_op op_mul (pe_fld (pv 1) rfl) (pv 3))) (pa_cons (pe_op op_mul (pe_ix (r := rIxT K) ix_tup (pe_fld (pv 0) rfl) (pv 5) (fun _ _ => rfl)) (pv 3)) pa_nil))) (pg_sub (pv 4) (pv 5) set_list))
      (pss_one (ps_ret (pv 4)))) pss_nil)
      (pss_cons (ps_if (pt_val (pe_callB call_isi rfl T.nisinstance (by decide +kernel) (pa_cons (pv 1) (pa_cons (pe_glob (v := .ref T.cDraw) rfl T.mDraw rfl) pa_nil)))) (pss_cons (ps_asg (pe_callB (call_max2 rfl) rfl T.nmax (by decide +kernel) (pa_cons (pe_op op_sub (pe_ix (r := rIxL K) ix_list (pv 2) (pv 5) (fun _ _ => rfl)) (pe_op op_mul (pe_fld (pv 1) rfl) (pv 3))) (pa_cons pe_int pa_nil))) (pg_sub (pv 4) (pv 5) set_list))
      (pss_one (ps_ret (pv 4)))) pss_nil)
      (pss_cons (ps_set (i := 6) scbehinddeed.nd rfl (by first | exact Or.inl rfl | exact Or.inr rfl) (pe_fld (pv 1) rfl))
      (pss_cons (ps_if (pt_val (pe_callB call_isi rfl T.nisinstance (by decide +kernel) (pa_cons (pv 1) (pa_cons (pe_glob (v := .ref T.cPour) rfl T.mPour rfl) pa_nil)))) (pss_cons (ps_set (i := 7) scbehinddeed.nd rfl (by first | exact Or.inl rfl | exact Or.inr rfl) (pe_callB (call_min2 rfl) rfl T.nmin (by decide +kernel) (pa_cons (pe_ix (r := rIxL K) ix_list (pv 2) (pv 5) (fun _ _ => rfl)) (pa_cons (pe_op op_sub (pe_op op_mul (pe_ix (r := rIxT K) ix_tup (pe_fld (pv 0) rfl) (pv 6) (fun _ _ => rfl)) (pv 3)) (pe_ix (r := rIxL K) ix_list (pv 2) (pv 6) (fun _ _ => rfl))) pa_nil))))
      (pss_cons (ps_asg (pe_op op_sub (pe_ix (r := rIxL K) ix_list (pv 2) (pv 5) (fun _ _ => rfl)) (pv 7)) (pg_sub (pv 4) (pv 5) set_list))
      (pss_cons (ps_asg (pe_op op_add (pe_ix (r := rIxL K) ix_list (pv 2) (pv 6) (fun _ _ => rfl)) (pv 7)) (pg_sub (pv 4) (pv 6) set_list))
      (pss_one (ps_ret (pv 4)))))) pss_nil)
      (pss_cons (ps_asg (pe_ix (r := rIxL K) ix_list (pv 2) (pv 6) (fun _ _ => rfl)) (pg_sub (pv 4) (pv 5) set_list))
      (pss_cons (ps_asg (pe_ix (r := rIxL K) ix_list (pv 2) (pv 5) (fun _ _ => rfl)) (pg_sub (pv 4) (pv 6) set_list))
      (pss_one (ps_ret (pv 4))))))))))), ?_⟩
    obtain ⟨q, dx, rfl, hp⟩ := deed_at hD
    have ha : d.fst < caps.length := by cases d <;> exact ok.1
    refine ⟨_, rfl, a, _, rfl, .inl hS, fun l hn => ?_⟩
    have s1 : Same H (upd H l (.lst (vi st))) := same_new hn
    have hp1 := s1 _ _ hp
    have hS1 := s1.seq hS
    obtain ⟨jx, t, e1, e2⟩ := hJ.same s1
    have ty := ty_deed hp1
    refine ⟨_, rfl, q, _, dx, _, _, rfl, hp1, cls_cls T d, no_a T d, fs_a d, ?_⟩
    refine ⟨_, rfl, .ref q, .ref T.cPut, _, _, _, rfl, .own _, ty, is_put T d, _, rfl, ?_⟩
    have l2 : d.fst < st.length := by rw [hl]; exact ha
    cases d with
    | put x k =>
      refine ifT rfl ?_
      refine ⟨_, rfl, _, rfl, a, _, _, _, rfl, rfl, hS1, vi_at l2, _, rfl, q, _, dx, _, _, rfl, hp1, T.lPut, T.nPut_k, lk2 (by decide +kernel), _, rfl, _, _, rfl, rfl, .inr (mulP p1 p2), _, _, rfl, rfl, ?_⟩
      refine ⟨_, rfl, j, _, jx, _, _, rfl, e1, T.lJars, T.nJars_sizes, lk1, _, rfl, t, _, _, _, rfl, rfl, SqT.of e2, vi_at ha, _, rfl, _, _, rfl, rfl, .inr (mulP p1 p2), _, _, rfl, ?_⟩
      refine ⟨_, rfl, _, rfl, l, _, _, x, rfl, rfl, upd_same, ixN_nat (by rw [List.length_map]; exact l2), _, rfl, ?_⟩
      refine hq _ l hn ?_ (same_mut s1 hn)
      rw [upd_same, vi_set]
      rfl
    | draw x k =>
      refine ifF rfl ⟨_, rfl, .ref q, .ref T.cDraw, _, _, _, rfl, .own _, ty, T.iDraw_Draw, _, rfl, ifT rfl ?_⟩
      refine ⟨_, rfl, _, rfl, a, _, _, _, rfl, rfl, hS1, vi_at l2, _, rfl, q, _, dx, _, _, rfl, hp1, T.lDraw, T.nDraw_k, lk2 (by decide +kernel), _, rfl, _, _, rfl, rfl, .inr (mulP p1 p2), _, _, rfl, rfl, ?_⟩
      refine ⟨_, _, rfl, ?_⟩
      refine ⟨_, rfl, _, rfl, l, _, _, x, rfl, rfl, upd_same, ixN_nat (by rw [List.length_map]; exact l2), _, rfl, ?_⟩
      refine hq _ l hn ?_ (same_mut s1 hn)
      rw [upd_same, vi_set]
      rfl
    | pour x b =>
      have lb : b < st.length := by rw [hl]; exact ok.2.1
      refine ifF rfl ⟨_, rfl, .ref q, .ref T.cDraw, _, _, _, rfl, .own _, ty, T.iPour_Draw, _, rfl, ifF rfl ?_⟩
      refine ⟨_, rfl, q, _, dx, _, _, rfl, hp1, T.lPour, T.nPour_b, lk2 (by decide +kernel), ?_⟩
      refine ⟨_, rfl, .ref q, .ref T.cPour, _, _, _, rfl, .own _, ty, T.iPour_Pour, _, rfl, ifT rfl ?_⟩
      refine ⟨_, rfl, _, rfl, a, _, _, _, rfl, rfl, hS1, vi_at l2, _, rfl, j, _, jx, _, _, rfl, e1, T.lJars, T.nJars_sizes, lk1, ?_⟩
      refine ⟨_, rfl, t, _, _, _, rfl, rfl, SqT.of e2, vi_at ok.2.1, _, rfl, _, _, rfl, rfl, .inr (mulP p1 p2), _, rfl, _, rfl, a, _, _, _, rfl, rfl, hS1, vi_at lb, _, _, rfl, rfl, _, _, rfl, ?_⟩
      refine ⟨_, rfl, _, rfl, a, _, _, _, rfl, rfl, hS1, vi_at l2, _, rfl, _, _, rfl, rfl, _, rfl, _, rfl, l, _, _, x, rfl, rfl, upd_same, ixN_nat (by rw [List.length_map]; exact l2), ?_⟩
      have hS2 := (same_mut (o := .lst ((vi st).set x (.int (at0 st x - (if at0 caps b * p - at0 st b < at0 st x then at0 caps b * p - at0 st b else at0 st x))))) s1 hn).seq hS
      refine ⟨_, rfl, _, rfl, a, _, _, _, rfl, rfl, hS2, vi_at lb, _, rfl, _, _, rfl, rfl, _, rfl, _, rfl, l, _, _, b, rfl, rfl, upd_same, ixN_nat (by rw [List.length_set, List.length_map]; exact lb), _, rfl, ?_⟩
      refine hq _ l hn ?_ (same_mut (same_mut s1 hn) hn)
      rw [upd_same, vi_set, vi_set]
      rfl
    | change x b =>
      have lb : b < st.length := by rw [hl]; exact ok.2.1
      refine ifF rfl ⟨_, rfl, .ref q, .ref T.cDraw, _, _, _, rfl, .own _, ty, T.iChange_Draw, _, rfl, ifF rfl ?_⟩
      refine ⟨_, rfl, q, _, dx, _, _, rfl, hp1, T.lChange, T.nChange_b, lk2 (by decide +kernel), ?_⟩
      refine ⟨_, rfl, .ref q, .ref T.cPour, _, _, _, rfl, .own _, ty, T.iChange_Pour, _, rfl, ifF rfl ?_⟩
      refine ⟨_, rfl, _, rfl, a, _, _, _, rfl, rfl, hS1, vi_at lb, _, rfl, _, rfl, l, _, _, x, rfl, rfl, upd_same, ixN_nat (by rw [List.length_map]; exact l2), ?_⟩
      have hS2 := (same_mut (o := .lst ((vi st).set x (.int (at0 st b)))) s1 hn).seq hS
      refine ⟨_, rfl, _, rfl, a, _, _, _, rfl, rfl, hS2, vi_at l2, _, rfl, _, rfl, l, _, _, b, rfl, rfl, upd_same, ixN_nat (by rw [List.length_set, List.length_map]; exact lb), _, rfl, ?_⟩
      refine hq _ l hn ?_ (same_mut (same_mut s1 hn) hn)
      rw [upd_same, vi_set, vi_set]
      rfl
theorem okbehindround (T : Tx K mg) : FnOk P w K mg base CX0 2 T.abehindround T.dbehindround ["row", "stand", "parts"] (spbehindround T) := by
  refine T.fbehindround.ok scbehindround (fun vs H Q E h => ?_) (fun cdv A outer s H vs Q E hr h => ?_)
  · obtain ⟨r, a, ds, caps, st, p, rfl, _⟩ := h
    rfl
  · obtain ⟨r, a, ds, caps, st, p, rfl, hR, ok, hS, p1, p2, hl, hq⟩ := h
    refine ⟨_, (pss_cons (ps_set (i := 3) scbehindround.nd rfl (by first | exact Or.inl rfl | exact Or.inr rfl) (pe_callTy call_list_of rfl T.nlist (by decide +kernel) (pa_cons (pv 1) pa_nil)))
      (pss_cons (ps_for PassesOwn.never rfl (pi_tup (pe_fld (pv 0) rfl)) (pg_name (i := 4) scbehindround.nd rfl (by first | exact Or.inl rfl | exact Or.inr rfl)) (pss_one (ps_set (i := 3) scbehindround.nd rfl (by first | exact Or.inl rfl | exact Or.inr rfl) (pe_call (okbehinddeed T) (hr.mono (by decide)) rfl T.gbehinddeed T.fbehinddeed.kp T.bbehinddeed .nil pass0 (pa_cons (pe_fld (pv 0) rfl) (pa_cons (pv 4) (pa_cons (pv 3) (pa_cons (pv 2) pa_nil))))))))
      (pss_one (ps_ret (pv 3))))), ?_⟩
    refine ⟨_, rfl, a, _, rfl, hS, fun l hn => ?_⟩
    have s1 : Same H (upd H l (.lst (vi st))) := same_new hn
    obtain ⟨rx, j, t, us, r1, r2, r3, r4⟩ := id hR
    refine ⟨_, rfl, r, _, rx, _, _, rfl, s1 _ _ r1, T.lRow, T.nRow_deeds, lk2 (by decide +kernel), t, rfl, ⟨_, SqT.of (s1 _ _ r3)⟩, ?_⟩
    refine for_tup (K := K) (a := t) (xs := us) (fun i σ H' => ∃ (m : Addr) (v : Option V), σ = [some (.ref r), some (.ref a), some (.int p), some (.ref m), v] ∧ H m = none ∧ H' m = some (.lst (vi (run caps p (ds.take i) st))) ∧ Same H H')
      ⟨l, none, rfl, hn, by rw [upd_same]; rfl, s1⟩ (fun i σ H' _ ⟨_, _, _, _, _, e⟩ => sameT e (SqT.of r3)) ?_ ?_
    · rintro i y σ H' hi ⟨m, v, rfl, hm, hm', sm⟩
      obtain ⟨d, hd, hv⟩ := r4.get hi
      refine ⟨_, rfl, r, _, rx, _, _, rfl, sm _ _ r1, T.lRow, T.nRow_jars, lk1, _, rfl, _, rfl, _, rfl, ?_⟩
      refine ⟨j, m, y, d, caps, _, p, rfl, r2.same sm, hv.same sm, ok d (List.mem_of_getElem? hd), SqL.of hm', p1, p2, ?_, fun H2 q q1 q2 s2 => ?_⟩
      · rw [run_len]
        exact hl
      · refine ⟨q, some y, rfl, sm.free q1, ?_, sm.trans s2⟩
        rw [q2, run_snoc hd]
    · rintro σ H' ⟨m, v, rfl, hm, hm', sm⟩
      refine ⟨_, rfl, hq _ m hm ?_ sm⟩
      rw [hm', r4.len, List.take_length]
end
end Kp

namespace Kp
open PySem PySem.Spec PyProof.Rows L2 KpR
def D.word : D → Str
  | .pour _ _ => "pour"
  | .put _ _ => "put"
  | .draw _ _ => "draw"
  | .change _ _ => "change"
def D.last : D → Int
  | .pour _ b => b
  | .put _ k => k
  | .draw _ k => k
  | .change _ b => b
def FactAt (H : Hp) (v : V) (d : D) : Prop := ∃ t, v = .ref t ∧ H t = some (.tup [.str d.word, .int d.fst, .int d.last])
theorem FactAt.same {H H' : Hp} {v : V} {d : D} (e : Same H H') (h : FactAt H v d) : FactAt H' v d := by
  obtain ⟨t, rfl, h⟩ := h
  exact ⟨t, rfl, e _ _ h⟩
theorem FactAt.fr {w : Addr} {H H' : Hp} {u : HO} {v : V} {d : D} (e : Fr w H H') (hw : H w = some u) (hb : Blank u) (h : FactAt H v d) : FactAt H' v d := by
  obtain ⟨t, rfl, h⟩ := h
  exact ⟨t, rfl, fr_no e hw hb h nbT⟩
theorem made_same {H H' : Hp} {x dx : Addr} {o1 o2 : HO} (hx : H x = none) (hdx : H dx = none) (fr : Fr x (upd (upd H dx o1) x o2) H') : Same H H' := fun b o e => by
  have n1 : b ≠ x := ne_of_none e hx
  refine fr b o n1 ?_
  rw [upd_ne n1, upd_ne (ne_of_none e hdx)]
  exact e
/-- a well out of which c numbers have been drawn -/
def WellAt (n : Nat) (H : Hp) (w : Addr) : Prop := ∃ x y z : Int, H w = some (.lst [.int x, .int y, .int z]) ∧ 0 ≤ y ∧ y ≤ 2147483629 ∧ 0 ≤ z ∧ z ≤ n
theorem WellAt.mono {n m : Nat} {H : Hp} {w : Addr} (h : WellAt n H w) (k : n ≤ m) : WellAt m H w := by
  obtain ⟨x, y, z, q, r1, r2, r3, r4⟩ := h
  exact ⟨x, y, z, q, r1, r2, r3, by omega⟩
theorem WellAt.ex {n : Nat} {H : Hp} {w : Addr} (h : WellAt n H w) : ∃ u, H w = some u ∧ Blank u := by
  obtain ⟨a, b, c, q, _⟩ := h
  exact ⟨_, q, bl_l⟩
theorem WellAt.new {n : Nat} {H : Hp} {w p : Addr} {o : HO} (h : WellAt n H w) (e : H p = none) : WellAt n (upd H p o) w := by
  obtain ⟨a, b, c, q, r⟩ := h
  exact ⟨a, b, c, (same_new e) _ _ q, r⟩
theorem WellAt.ne {n : Nat} {H : Hp} {w p : Addr} (h : WellAt n H w) (e : H p = none) : p ≠ w := fun z => by
  obtain ⟨a, b, c, q, r⟩ := h
  rw [← z, e] at q
  cases q
theorem WellAt.mut {n : Nat} {H : Hp} {w p : Addr} {o : HO} (h : WellAt n H w) (e : p ≠ w) : WellAt n (upd H p o) w := by
  obtain ⟨a, b, c, q, r⟩ := h
  exact ⟨a, b, c, by rw [upd_ne e.symm]; exact q, r⟩
theorem WellAt.same {n : Nat} {H H' : Hp} {w : Addr} (h : WellAt n H w) (e : Same H H') : WellAt n H' w := by
  obtain ⟨a, b, c, q, r⟩ := h
  exact ⟨a, b, c, e _ _ q, r⟩
section
variable {K : PySem.W.Frag} {mg : Str → Option Value}
def spLwell (T : Tx K mg) : Sp := fun vs H Q _ => ∃ n : Int, vs = [.int n] ∧ ∀ (H' : Hp) (p : Addr), H p = none → WellAt 0 H' p → Same H H' → Q (.ref p) H'
def spLdraw (T : Tx K mg) : Sp := fun vs H Q _ => ∃ (w : Addr) (m : Int) (n : Nat), vs = [.ref w, .int m] ∧ WellAt n H w ∧ n ≤ 10000 ∧ 1 ≤ m ∧ m < 2 ^ 100 ∧ ∀ (H' : Hp) (v : Nat), (v : Int) < m → WellAt (n + 1) H' w → Fr w H H' → Q (.int v) H'
def spLof (T : Tx K mg) : Sp := fun vs H Q _ => ∃ (w a : Addr) (l : List Int) (n : Nat), vs = [.ref w, .ref a] ∧ WellAt n H w ∧ n ≤ 10000 ∧ H a = some (.lst (vi l)) ∧ a ≠ w ∧ 1 ≤ l.length ∧ l.length ≤ 20 ∧ ∀ (H' : Hp) (x : Int), x ∈ l → WellAt (n + 1) H' w → Fr w H H' → Q (.int x) H'
def spLdeedmade (T : Tx K mg) : Sp := fun vs H Q _ => ∃ d : D, vs = [.str d.word, .int d.fst, .int d.last] ∧ ∀ (H' : Hp) (p : Addr), H p = none → DeedAt T H' (.ref p) d → Same H H' → Q (.ref p) H'
def spLrow (T : Tx K mg) : Sp := fun vs H Q _ => ∃ (c f : Addr) (caps : List Int) (ts : List V) (ds : List D), vs = [.ref c, .ref f] ∧ H c = some (.tup (vi caps)) ∧ Caps caps ∧ H f = some (.lst ts) ∧ A2 (FactAt H) ts ds ∧ ds.length ≤ 20 ∧ (∀ d ∈ ds, d.ok caps) ∧
  ∀ (H' : Hp) (r : Addr), H r = none → RowAt T H' r caps ds → Same H H' → Q (.ref r) H'
def spLonce (T : Tx K mg) : Sp := fun vs H Q _ => ∃ (c f a : Addr) (caps st : List Int) (ts : List V) (ds : List D) (p : Int), vs = [.ref c, .ref f, .ref a, .int p] ∧ H c = some (.tup (vi caps)) ∧ H f = some (.lst ts) ∧ A2 (FactAt H) ts ds ∧ (∀ d ∈ ds, d.ok caps) ∧ H a = some (.tup (vi st)) ∧ st.length = caps.length ∧ 1 ≤ p ∧ p < 2 ^ 62 ∧
  ∀ (H' : Hp) (r : Addr), H r = none → H' r = some (.tup (vi (run caps p ds st))) → Same H H' → Q (.ref r) H'
def spLgreat (T : Tx K mg) : Sp := fun vs H Q _ => ∃ (w : Addr) (n : Nat), vs = [.ref w] ∧ WellAt n H w ∧ n ≤ 9999 ∧ ∀ (H' : Hp) (v : Nat), (v : Int) < 1000000000000 → WellAt (n + 2) H' w → Fr w H H' → Q (.int v) H'
def spLover (T : Tx K mg) : Sp := fun vs H Q _ => ∃ a d : Int, vs = [.int a, .int d] ∧ 1 ≤ d ∧ d < 2 ^ 100 ∧ Q (.int (over a d)) H
def spLcellat (T : Tx K mg) : Sp := fun vs H Q _ => ∃ (a : Addr) (ns : List Int) (k : Nat), vs = [.ref a, .int k] ∧ SqL K H a (vi ns) ∧ ∀ n : Int, Q (.int n) H
end
section
variable {P : Program} {w : World} {K : PySem.W.Frag} {mg : Str → Option Value} {base : Heap}
theorem okLcellat (T : Tx K mg) : FnOk P w K mg base CX0 1 T.aLcellat T.dLcellat ["_law_script", "_law_k"] (spLcellat T) := by
  refine T.fLcellat.ok scLcellat (fun vs H Q E h => ?_) (fun cdv A outer s H vs Q E hr h => ?_)
  · obtain ⟨a, ns, k, rfl, _⟩ := h
    rfl
  · obtain ⟨a, ns, k, rfl, hS, hq⟩ := h
    refine ⟨_, (pss_cons (ps_if (pt_cmpR op_lt (pv 1) (pe_callB call_len_seq rfl T.nlen PySem.boot_len (pa_cons (pv 0) pa_nil)) (nomark _)) (pss_one (ps_ret (pe_ix (r := rIxL K) ix_list (pv 0) (pv 1) (fun _ _ => rfl)))) pss_nil)
      (pss_one (ps_ret pe_int))), ?_⟩
    refine ⟨_, rfl, _, rfl, a, _, rfl, .inl hS, _, _, rfl, rfl, _, rfl, ifD (fun g => ?_) (fun _ => hq 0)⟩
    rw [List.length_map] at g
    exact ⟨_, rfl, _, rfl, a, _, _, _, rfl, rfl, hS, vi_at (by omega), hq _⟩
theorem okLwell (T : Tx K mg) : FnOk P w K mg base CX0 1 T.aLwell T.dLwell ["_law_cell"] (spLwell T) := by
  refine T.fLwell.ok scLwell (fun vs H Q E h => ?_) (fun cdv A outer s H vs Q E hr h => ?_)
  · obtain ⟨n, rfl, _⟩ := h
    rfl
  · obtain ⟨n, rfl, hq⟩ := h
    refine ⟨_, (pss_one (ps_ret (pe_lst (pa_cons (pe_op op_mul (pv 0) (pe_callTy call_int1 rfl T.nint (by decide +kernel) (pa_cons (pe_cmpR op_ge (pv 0) (pe_op op_pow pe_int pe_int) (nomark _)) pa_nil))) (pa_cons (pe_op op_mod (pv 0) pe_int) (pa_cons pe_int pa_nil)))))), ?_⟩
    refine ⟨_, rfl, _, rfl, _, _, rfl, rfl, ⟨by decide, by decide, by decide⟩, _, _, rfl, rfl, .inr ⟨_, rfl, _, _, rfl, rfl, .inr ?_, _, rfl, _, _, rfl, rfl, (by show (0 : Int) < 2147483629; decide), (by show 3 ≤ sizeLine; decide), fun p hp => hq _ p hp ⟨_, _, _, upd_same, Int.emod_nonneg _ (by decide), Int.le_of_lt (Int.emod_lt_of_pos _ (by decide)), by decide, by decide⟩ (same_new hp)⟩⟩
    split <;> exact ⟨by decide, by decide⟩
theorem okLdraw (T : Tx K mg) : FnOk P w K mg base CX0 1 T.aLdraw T.dLdraw ["_law_well_here", "_law_size"] (spLdraw T) := by
  refine T.fLdraw.ok scLdraw (fun vs H Q E h => ?_) (fun cdv A outer s H vs Q E hr h => ?_)
  · obtain ⟨u, m, n, rfl, _⟩ := h
    rfl
  · obtain ⟨u, m, n, rfl, ⟨a, b, c, hw, b0, b1, c0, c1⟩, n1, m1, m2, hq⟩ := h
    refine ⟨_, (pss_cons (ps_if (pt_cmpR op_gt (pe_ix (r := rIxL K) ix_list (pv 0) pe_int (fun _ _ => rfl)) pe_int (nomark _)) (pss_cons (ps_set (i := 2) scLdraw.nd rfl (by first | exact Or.inl rfl | exact Or.inr rfl) (pe_op op_mod (pe_ix (r := rIxL K) ix_list (pv 0) pe_int (fun _ _ => rfl)) (pv 1)))
      (pss_cons (ps_asg (pe_op op_fdivW (pe_ix (r := rIxL K) ix_list (pv 0) pe_int (fun _ _ => rfl)) (pv 1)) (pg_sub (pv 0) pe_int set_list))
      (pss_one (ps_ret (pv 2))))) pss_nil)
      (pss_cons (ps_asg (pe_op op_add (pe_ix (r := rIxL K) ix_list (pv 0) pe_int (fun _ _ => rfl)) pe_int) (pg_sub (pv 0) pe_int set_list))
      (pss_cons (ps_set (i := 3) scLdraw.nd rfl (by first | exact Or.inl rfl | exact Or.inr rfl) (pe_op op_mod (pe_op op_pow (pe_op op_add (pe_op op_add (pe_ix (r := rIxL K) ix_list (pv 0) pe_int (fun _ _ => rfl)) (pe_op op_mul pe_int (pe_ix (r := rIxL K) ix_list (pv 0) pe_int (fun _ _ => rfl)))) pe_int) pe_int) pe_int))
      (pss_cons (ps_set (i := 3) scLdraw.nd rfl (by first | exact Or.inl rfl | exact Or.inr rfl) (pe_op op_mod (pe_op op_add (pe_op op_fdivW (pv 3) pe_int) (pe_op op_mul (pv 3) (pe_op op_add (pe_ix (r := rIxL K) ix_list (pv 0) pe_int (fun _ _ => rfl)) pe_int))) pe_int))
      (pss_cons (ps_set (i := 3) scLdraw.nd rfl (by first | exact Or.inl rfl | exact Or.inr rfl) (pe_op op_mod (pe_op op_mul (pv 3) (pe_op op_add (pe_op op_fdivW (pv 3) pe_int) pe_int)) pe_int))
      (pss_one (ps_ret (pe_op op_mod (pe_op op_fdivW (pv 3) pe_int) (pv 1))))))))), ?_⟩
    have wd : CDivW a m := wide_div (b := 100) (by omega) (by omega) (by decide) (by decide)
    have back : ∀ (x : Int) (H' : Hp), WellAt (n + 1) H' u → Fr u H H' → Q (.int (x % m)) H' := fun x H' h1 h2 => by
      have q0 := Int.emod_nonneg x (show m ≠ 0 by omega)
      have q1 := Int.emod_lt_of_pos x (show 0 < m by omega)
      have e : x % m = ((x % m).toNat : Int) := by omega
      rw [e]
      exact hq H' _ (by omega) h1 h2
    refine ⟨_, rfl, u, _, _, _, rfl, rfl, SqL.of hw, rfl, _, _, rfl, rfl, _, rfl, ifD (fun _ => ?_) (fun _ => ?_)⟩
    · refine ⟨_, rfl, u, _, _, _, rfl, rfl, SqL.of hw, rfl, _, rfl, _, _, rfl, rfl, (by show 0 < m; omega), ?_⟩
      refine ⟨_, rfl, u, _, _, _, rfl, rfl, SqL.of hw, rfl, _, rfl, _, _, rfl, rfl, wd, _, rfl, u, _, _, 0, rfl, rfl, hw, rfl, _, rfl, ?_⟩
      exact back a _ ⟨_, _, _, upd_same, b0, b1, c0, by omega⟩ (fr_mut (Fr.refl _ _))
    · refine ⟨_, rfl, u, _, _, _, rfl, rfl, SqL.of hw, rfl, _, _, rfl, rfl, _, rfl, u, _, _, 2, rfl, rfl, hw, rfl, ?_⟩
      refine ⟨_, rfl, u, _, _, _, rfl, rfl, SqL.of upd_same, rfl, _, rfl, u, _, _, _, rfl, rfl, SqL.of upd_same, rfl, _, _, rfl, rfl, .inl ⟨by decide, by decide⟩, _, _, rfl, rfl, _, _, rfl, rfl, _, _, rfl, rfl, ⟨by decide, by decide, by omega⟩, _, _, rfl, rfl, (by show (0 : Int) < 2147483647; decide), ?_⟩
      refine ⟨_, rfl, _, _, rfl, rfl, ⟨by decide, by decide⟩, _, rfl, _, rfl, u, _, _, _, rfl, rfl, SqL.of upd_same, rfl, _, _, rfl, rfl, _, _, rfl, rfl, .inr ⟨by omega, by omega⟩, _, _, rfl, rfl, _, _, rfl, rfl, (by show (0 : Int) < 2147483587; decide), ?_⟩
      refine ⟨_, rfl, _, rfl, _, _, rfl, rfl, ⟨by decide, by decide⟩, _, _, rfl, rfl, _, _, rfl, rfl, ?_, _, _, rfl, rfl, (by show (0 : Int) < 2147483563; decide), ?_⟩
      · exact .inl ⟨Int.lt_of_lt_of_le (by decide) (Int.emod_nonneg _ (by decide)), Int.lt_trans (Int.emod_lt_of_pos _ (by decide)) (by decide)⟩
      refine ⟨_, rfl, _, _, rfl, rfl, ⟨by decide, by decide⟩, _, rfl, _, _, rfl, rfl, (by show 0 < m; omega), ?_⟩
      exact back _ _ ⟨_, _, _, upd_same, b0, b1, by omega, by omega⟩ (fr_mut (Fr.refl _ _))
theorem okLdeedmade (T : Tx K mg) : FnOk P w K mg base CX0 3 T.aLdeedmade T.dLdeedmade ["_law_word", "_law_a", "_law_last"] (spLdeedmade T) := by
  refine T.fLdeedmade.ok scLdeedmade (fun vs H Q E h => ?_) (fun cdv A outer s H vs Q E hr h => ?_)
  · obtain ⟨d, rfl, _⟩ := h
    rfl
  · obtain ⟨d, rfl, hq⟩ := h
    refine ⟨_, (pss_cons (ps_if (pt_cmpR op_eq (pv 0) pe_str (nomark _)) (pss_one (ps_ret (pe_make T.kPour (okPourInit T) (hr.mono (by decide)) rfl T.mPour T.bPourInit .nil pass0 (pa_cons (pv 1) (pa_cons (pv 2) pa_nil))))) pss_nil)
      (pss_cons (ps_if (pt_cmpR op_eq (pv 0) pe_str (nomark _)) (pss_one (ps_ret (pe_make T.kPut (okPutInit T) (hr.mono (by decide)) rfl T.mPut T.bPutInit .nil pass0 (pa_cons (pv 1) (pa_cons (pv 2) pa_nil))))) pss_nil)
      (pss_cons (ps_if (pt_cmpR op_eq (pv 0) pe_str (nomark _)) (pss_one (ps_ret (pe_make T.kDraw (okDrawInit T) (hr.mono (by decide)) rfl T.mDraw T.bDrawInit .nil pass0 (pa_cons (pv 1) (pa_cons (pv 2) pa_nil))))) pss_nil)
      (pss_one (ps_ret (pe_make T.kChange (okChangeInit T) (hr.mono (by decide)) rfl T.mChange T.bChangeInit .nil pass0 (pa_cons (pv 1) (pa_cons (pv 2) pa_nil)))))))), ?_⟩
    refine ⟨_, rfl, rfl, _, rfl, ?_⟩
    have fin : ∀ (x dx : Addr) (C : Addr) (fs : List (Str × V)) (H2 : Hp), H x = none → H dx = none → dx ≠ x → (H2 x = some (.ins C dx fs)) → Fr x (upd (upd H dx (.own x)) x (.ins C dx [])) H2 → (DeedAt T H2 (.ref x) d) → Q (.ref x) H2 := fun x dx C fs H2 hx hdx ne h2 fr hd => hq H2 x hx hd (made_same hx hdx fr)
    cases d with
    | pour a b =>
      refine ifT (show decide (V.str "pour" = V.str "pour") = true by decide +kernel) ⟨_, rfl, _, rfl, fun x dx hx hdx ne => ⟨x, dx, _, _, rfl, upd_same, fun H2 h2 fr => ⟨rfl, ?_⟩⟩⟩
      exact fin x dx _ _ H2 hx hdx ne h2 fr ⟨x, dx, rfl, h2⟩
    | put a k =>
      refine ifF (show decide (V.str "put" = V.str "pour") = false by decide +kernel) ⟨_, rfl, rfl, _, rfl, ifT (show decide (V.str "put" = V.str "put") = true by decide +kernel) ⟨_, rfl, _, rfl, fun x dx hx hdx ne => ⟨x, dx, _, _, rfl, upd_same, fun H2 h2 fr => ⟨rfl, ?_⟩⟩⟩⟩
      exact fin x dx _ _ H2 hx hdx ne h2 fr ⟨x, dx, rfl, h2⟩
    | draw a k =>
      refine ifF (show decide (V.str "draw" = V.str "pour") = false by decide +kernel) ⟨_, rfl, rfl, _, rfl, ifF (show decide (V.str "draw" = V.str "put") = false by decide +kernel) ⟨_, rfl, rfl, _, rfl, ifT (show decide (V.str "draw" = V.str "draw") = true by decide +kernel) ⟨_, rfl, _, rfl, fun x dx hx hdx ne => ⟨x, dx, _, _, rfl, upd_same, fun H2 h2 fr => ⟨rfl, ?_⟩⟩⟩⟩⟩
      exact fin x dx _ _ H2 hx hdx ne h2 fr ⟨x, dx, rfl, h2⟩
    | change a k =>
      refine ifF (show decide (V.str "change" = V.str "pour") = false by decide +kernel) ⟨_, rfl, rfl, _, rfl, ifF (show decide (V.str "change" = V.str "put") = false by decide +kernel) ⟨_, rfl, rfl, _, rfl, ifF (show decide (V.str "change" = V.str "draw") = false by decide +kernel) ⟨_, rfl, _, rfl, fun x dx hx hdx ne => ⟨x, dx, _, _, rfl, upd_same, fun H2 h2 fr => ⟨rfl, ?_⟩⟩⟩⟩⟩
      exact fin x dx _ _ H2 hx hdx ne h2 fr ⟨x, dx, rfl, h2⟩
theorem okLrow (T : Tx K mg) : FnOk P w K mg base CX0 5 T.aLrow T.dLrow ["_law_sizes_here", "_law_deeds_here"] (spLrow T) := by
  refine T.fLrow.ok scLrow (fun vs H Q E h => ?_) (fun cdv A outer s H vs Q E hr h => ?_)
  · obtain ⟨c, f, caps, ts, ds, rfl, _⟩ := h
    rfl
  · obtain ⟨c, f, caps, ts, ds, rfl, hc, hC, hf, hA, l20, ok, hq⟩ := h
    refine ⟨_, (pss_one (ps_ret (pe_make T.kRow (okRowInit T) (hr.mono (by decide)) rfl T.mRow T.bRowInit .nil pass0 (pa_cons (pe_make T.kJars (okJarsInit T) (hr.mono (by decide)) rfl T.mJars T.bJarsInit .nil pass0 (pa_cons (pv 0) pa_nil)) (pa_cons (pe_lc (own := [("_law_word", 2), ("_law_a", 3), ("_law_last", 4)]) (g := gTup K 3 (gCons (gName 2) (gCons (gName 3) (gCons (gName 4) gNil)))) rfl scLrow.nd (pi_list (pv 1)) (blkOk_by (own := [("_law_word", 2), ("_law_a", 3), ("_law_last", 4)]) (N := ["_law_sizes_here", "_law_deeds_here", "_law_word", "_law_a", "_law_last"]) (sc := defScope sLrow) (by decide +kernel)) (fun _ _ _ _ _ => (pg_tup rfl (pgs_cons (pg_name (i := 2) scLrow.nd rfl (by first | exact Or.inl rfl | exact Or.inr rfl)) (pgs_cons (pg_name (i := 3) scLrow.nd rfl (by first | exact Or.inl rfl | exact Or.inr rfl)) (pgs_cons (pg_name (i := 4) scLrow.nd rfl (by first | exact Or.inl rfl | exact Or.inr rfl)) pgs_nil))))) (fun _ _ _ _ _ => pts_nil) (fun _ _ _ _ _ => (pe_call (okLdeedmade T) (hr.mono (by decide)) rfl T.gLdeedmade T.fLdeedmade.kp T.bLdeedmade .nil pass0 (pa_cons (pv 2) (pa_cons (pv 3) (pa_cons (pv 4) pa_nil)))))) pa_nil))))), ?_⟩
    have vl := hA.len
    refine ⟨_, rfl, fun x dx hx hdx ne => ?_⟩
    have s1 : Same H (upd (upd H dx (.own x)) x (.ins T.cJars dx [])) := (same_new hdx).trans (same_new (by rw [upd_ne ne.symm]; exact hx))
    refine ⟨x, dx, c, caps, rfl, upd_same, s1 _ _ hc, hC, fun H1 hJ fr => ⟨rfl, ?_⟩⟩
    have s2 := made_same hx hdx fr
    refine ⟨_, rfl, f, rfl, ⟨_, SqL.of (s2 _ _ hf)⟩, fun D hD => ?_⟩
    refine lc_list (K := K) (a := f) (xs := ts) (fun i H' => ∃ us, H' D = some (.lst us) ∧ A2 (DeedAt T H') us (ds.take i) ∧ Same H1 H') ⟨[], upd_same, by simp [A2], same_new hD⟩ (fun i H' _ ⟨_, _, _, e⟩ => e.seq (SqL.of (s2 _ _ hf))) ?_ ?_
    · rintro i y H' hi ⟨us, k1, k2, sm⟩
      obtain ⟨d, hd, hy⟩ := hA.get hi
      obtain ⟨t, rfl, ht⟩ := hy.same (s2.trans sm)
      have ul := k2.len
      rw [List.length_take] at ul
      refine ⟨t, _, rfl, SqT.of ht, rfl, _, _, rfl, _, _, rfl, _, _, rfl, rfl, rfl, _, rfl, _, rfl, _, rfl, d, rfl, fun H2 q q0 hq2 s3 => ?_⟩
      have g := s3 _ _ k1
      have bl : Fr D H2 (upd H2 D (.lst (us ++ [V.ref q]))) := fr_mut (Fr.refl _ _)
      refine ⟨us, g, small1000 (by omega), us ++ [V.ref q], upd_same, ?_, same_mut (sm.trans s3) hD⟩
      rw [List.take_add_one, hd]
      exact A2.app (A2.mono (fun _ _ k => (k.same s3).fr bl g bl_l) k2) ⟨hq2.fr bl g bl_l, trivial⟩
    · rintro H3 ⟨us, k1, k2, sm⟩
      rw [vl, List.take_length] at k2
      refine fun x2 dx2 hx2 hdx2 ne2 => ?_
      have s3 : Same H3 (upd (upd H3 dx2 (.own x2)) x2 (.ins T.cRow dx2 [])) := (same_new hdx2).trans (same_new (by rw [upd_ne ne2.symm]; exact hx2))
      refine ⟨x2, dx2, x, D, caps, us, ds, rfl, upd_same, (hJ.same sm).same s3, s3 _ _ k1, A2.mono (fun _ _ k => k.same s3) k2, l20, ok, fun H5 hR fr5 => ⟨rfl, ?_⟩⟩
      exact hq H5 x2 ((s2.trans sm).free hx2) hR ((s2.trans sm).trans (made_same hx2 hdx2 fr5))
end
end Kp

namespace Kp
open PySem PySem.Spec PyProof.Rows L2 KpR
def keyI (l : List Int) : List L2.Key := l.map Sum.inl
theorem key_vi (l : List Int) : (keyI l).map kV = vi l := by
  unfold keyI vi
  rw [List.map_map]
  rfl
theorem key_inj : ∀ {l m : List Int}, keyI l = keyI m → l = m
  | [], [], _ => rfl
  | [], _ :: _, h => by cases h
  | _ :: _, [], h => by cases h
  | a :: l, b :: m, h => by
    injection h with h1 h2
    injection h1 with h1
    rw [h1, key_inj h2]
def seenAt (f : List Int → List Int) (st : List Int) (m : Nat) : List (List L2.Key × V) := (List.range m).map fun i => (keyI (it f i st), V.int i)
theorem seen_succ {f : List Int → List Int} {st : List Int} {m : Nat} : seenAt f st (m + 1) = seenAt f st m ++ [(keyI (it f m st), V.int m)] := by
  unfold seenAt
  rw [List.range_succ, List.map_append]
  rfl
theorem seen_none {f : List Int → List Int} {st x : List Int} : ∀ {m : Nat}, (∀ i, i < m → it f i st ≠ x) → valV (seenAt f st m) (keyI x) = none := fun {m} h => by
  unfold valV seenAt
  rw [Option.map_eq_none_iff, List.find?_eq_none]
  intro y hy
  obtain ⟨i, hi, rfl⟩ := List.mem_map.mp hy
  have := h i (List.mem_range.mp hi)
  simpa using fun z => this (key_inj z)
theorem seen_some {f : List Int → List Int} {st : List Int} {j : Nat} : ∀ {m : Nat}, j < m → (∀ i k, i < k → k < m → it f i st ≠ it f k st) → valV (seenAt f st m) (keyI (it f j st)) = some (V.int j)
  | 0, hj, _ => absurd hj (Nat.not_lt_zero _)
  | m + 1, hj, h => by
    have no : valV (seenAt f st m) (keyI (it f m st)) = none := seen_none fun i hi => h i m hi (by omega)
    rw [seen_succ, valV_snoc _ _ _ _ no]
    by_cases e : j = m
    · subst e
      rw [if_pos rfl]
    · rw [if_neg (fun z => h j m (by omega) (by omega) (key_inj z)), seen_some (by omega) (fun i k h1 h2 => h i k h1 (by omega))]
theorem seen_put {f : List Int → List Int} {st : List Int} {m : Nat} (h : ∀ i, i < m → it f i st ≠ it f m st) : putK (seenAt f st m) (keyI (it f m st)) (V.int m) = seenAt f st (m + 1) := by
  unfold putK
  rw [valV_any, seen_none h, if_neg (by simp), seen_succ]
theorem hu65 {A : Around} {k : Nat} (hr : Room k A) : A.units + 65 < cLine := by have := hr.un; omega
theorem gset {i : Nat} {v : V} {σ σ' : L2.St} {H : Hp} {Q : L2.St → Hp → Prop} (h : σ.set i (some v) = σ') (q : Q σ' H) : gName i v σ H Q := by
  subst h
  exact q
end Kp

namespace Kp
open PySem PySem.Spec PyProof.Rows L2 KpR
theorem turn_ne {M a e : Nat} (ha : a < M) (he : e + 1 < M) : (a + 1 + e) % M < M ∧ a ≠ (a + 1 + e) % M := by
  refine ⟨Nat.mod_lt _ (by omega), ?_⟩
  by_cases c : a + 1 + e < M
  · rw [Nat.mod_eq_of_lt c]
    omega
  · rw [Nat.mod_eq_sub_mod (by omega), Nat.mod_eq_of_lt (by omega)]
    omega
/-- a deed whose amount is at most its jar's size and one more -/
def D.little (caps : List Int) (d : D) : Prop := d.ok caps ∧ ∀ a k, (d = .put a k ∨ d = .draw a k) → k ≤ at0 caps a + 1
section
variable {K : PySem.W.Frag} {mg : Str → Option Value}
def spLsizes (T : Tx K mg) : Sp := fun vs H Q _ => ∃ (u : Addr) (m : Nat) (most : Int) (n : Nat), vs = [.ref u, .int m, .int most] ∧ WellAt n H u ∧ n ≤ 9000 ∧ 1 ≤ m ∧ m ≤ 6 ∧ 1 ≤ most ∧ most ≤ 1000 ∧
  ∀ (H' : Hp) (c : Addr) (caps : List Int), H' c = some (.tup (vi caps)) → caps.length = m → (∀ x ∈ caps, 1 ≤ x ∧ x ≤ most) → WellAt (n + 1 + 2 * m) H' u → Fr u H H' → Q (.ref c) H'
def spLdeed (T : Tx K mg) : Sp := fun vs H Q _ => ∃ (u c : Addr) (caps : List Int) (n : Nat), vs = [.ref u, .ref c] ∧ WellAt n H u ∧ n ≤ 9000 ∧ H c = some (.tup (vi caps)) ∧ 1 ≤ caps.length ∧ caps.length ≤ 6 ∧ (∀ x ∈ caps, 1 ≤ x ∧ x ≤ 999999999998) ∧
  ∀ (H' : Hp) (t : V) (d : D), FactAt H' t d → d.little caps → WellAt (n + 4) H' u → Fr u H H' → Q t H'
def spLdeeds (T : Tx K mg) : Sp := fun vs H Q _ => ∃ (u c : Addr) (caps : List Int) (m n : Nat), vs = [.ref u, .ref c, .int m] ∧ WellAt n H u ∧ n ≤ 8000 ∧ m ≤ 20 ∧ H c = some (.tup (vi caps)) ∧ 1 ≤ caps.length ∧ caps.length ≤ 6 ∧ (∀ x ∈ caps, 1 ≤ x ∧ x ≤ 999999999998) ∧
  ∀ (H' : Hp) (f : Addr) (ts : List V) (ds : List D), H f = none → H' f = some (.lst ts) → A2 (FactAt H') ts ds → ds.length ≤ m → (∀ d ∈ ds, d.little caps) → WellAt (n + 1 + 5 * m) H' u → Fr u H H' → Q (.ref f) H'
def spLstart (T : Tx K mg) : Sp := fun vs H Q _ => ∃ (u c : Addr) (caps : List Int) (p : Int) (n : Nat), vs = [.ref u, .ref c, .int p] ∧ WellAt n H u ∧ n ≤ 9000 ∧ H c = some (.tup (vi caps)) ∧ caps.length ≤ 6 ∧ (∀ x ∈ caps, 1 ≤ x ∧ x ≤ 1000000000000) ∧ 1 ≤ p ∧ p < 2 ^ 40 ∧
  ∀ (H' : Hp) (a : Addr) (st : List Int), H' a = some (.tup (vi st)) → Stand caps p st → WellAt (n + caps.length) H' u → Fr u H H' → Q (.ref a) H'
end
section
variable {P : Program} {w : World} {K : PySem.W.Frag} {mg : Str → Option Value} {base : Heap}
theorem pickL {l : Addr} {xs : List Int} {n : Nat} {H : Hp} {Q : VK} (h : SqL K H l (vi xs)) (hn : n < xs.length) (q : Q (.int (at0 xs n)) H) : rIxL K (.ref l) (.int n) H Q := ⟨l, _, _, _, rfl, rfl, h, vi_at hn, q⟩
theorem okLsizes (T : Tx K mg) : FnOk P w K mg base CX0 2 T.aLsizes T.dLsizes ["_law_well_here", "_law_jars", "_law_most"] (spLsizes T) := by
  refine T.fLsizes.ok scLsizes (fun vs H Q E h => ?_) (fun cdv A outer s H vs Q E hr h => ?_)
  · obtain ⟨u, m, most, n, rfl, _⟩ := h
    rfl
  · obtain ⟨u, m, most, n, rfl, hw, n9, m1, m6, o1, o2, hq⟩ := h
    refine ⟨_, (pss_cons (ps_set (i := 3) scLsizes.nd rfl (by first | exact Or.inl rfl | exact Or.inr rfl) (pe_op op_add pe_int (pe_call (okLdraw T) (hr.mono (by decide)) rfl T.gLdraw T.fLdraw.kp T.bLdraw .nil pass0 (pa_cons (pv 0) (pa_cons (pv 2) pa_nil)))))
      (pss_one (ps_ret (pe_callTy call_tuple_of rfl T.ntuple (by decide +kernel) (pa_cons (pe_lc (own := [("_law_k", 4)]) rfl scLsizes.nd (pi_range1 rfl T.nrange (pa_cons (pv 1) pa_nil)) (blkOk_by (own := [("_law_k", 4)]) (N := ["_law_well_here", "_law_jars", "_law_most", "_law_first", "_law_k"]) (sc := defScope sLsizes) (by decide +kernel)) (fun _ _ _ _ _ => (pg_name (i := 4) scLsizes.nd rfl (by first | exact Or.inl rfl | exact Or.inr rfl))) (fun _ _ _ _ _ => pts_nil) (fun _ _ _ _ _ => (pe_ix (r := rIxL K) ix_list (pe_lst (pa_cons (pv 3) (pa_cons (pe_op op_add pe_int (pe_call (okLdraw T) (hr.mono (by decide)) rfl T.gLdraw T.fLdraw.kp T.bLdraw .nil pass0 (pa_cons (pv 0) (pa_cons (pv 2) pa_nil)))) pa_nil))) (pe_call (okLdraw T) (hr.mono (by decide)) rfl T.gLdraw T.fLdraw.kp T.bLdraw .nil pass0 (pa_cons (pv 0) (pa_cons pe_int pa_nil))) (fun _ _ => rfl)))) pa_nil))))), ?_⟩
    refine ⟨_, rfl, _, rfl, u, most, n, rfl, hw, by omega, by omega, by omega, fun H1 g lg w1 f1 => ⟨_, _, rfl, rfl, ?_⟩⟩
    obtain ⟨g1, hg⟩ : ∃ g1 : Int, 1 + (g : Int) = g1 := ⟨_, rfl⟩
    refine gset (σ' := [some (V.ref u), some (V.int m), some (V.int most), some (V.int g1), none]) (by rw [← hg]; rfl) ?_
    refine ⟨_, rfl, _, rfl, by omega, by omega, fun D hD => ?_⟩
    have du : D ≠ u := w1.ne hD
    refine lc_range (lo := 0) (n := ((m : Int)).toNat) (fun i H' => ∃ ws : List Int, H' D = some (.lst (vi ws)) ∧ ws.length = i ∧ (∀ x ∈ ws, 1 ≤ x ∧ x ≤ most) ∧ WellAt (n + 1 + 2 * i) H' u ∧ Fr u H1 H') ⟨[], upd_same, rfl, (fun x h => by cases h), w1.new hD, Fr.of (same_new hD)⟩ ?_ ?_
    · rintro i H' hi ⟨ws, q1, rfl, z1, w2, f2⟩
      have hi2 : ws.length < m := by omega
      refine ⟨rfl, ?_⟩
      refine ⟨_, rfl, _, rfl, _, rfl, u, most, n + 1 + 2 * ws.length, rfl, w2, by omega, by omega, by omega, fun H3 d ld w3 f3 => ⟨_, _, rfl, rfl, (by show 2 ≤ sizeLine; decide), fun l hl => ?_⟩⟩
      have x3 := same_new (o := .lst [V.int g1, V.int (1 + (d : Int))]) hl
      have lu : l ≠ u := w3.ne hl
      refine ⟨_, rfl, u, 2, n + 2 + 2 * ws.length, rfl, (w3.same x3).mono (by omega), by omega, by decide, by decide, fun H4 e le w4 f4 => ?_⟩
      refine pickL (xs := [g1, 1 + (d : Int)]) (SqL.of (f4 _ _ lu upd_same)) (by simp; omega) ?_
      have mem := at0_mem (l := [g1, 1 + (d : Int)]) (i := e) (by simp; omega)
      generalize at0 [g1, 1 + (d : Int)] e = y at mem
      have y1 : 1 ≤ y ∧ y ≤ most := by
        rcases List.mem_cons.mp mem with h | h
        · omega
        · have := List.mem_singleton.mp h
          omega
      refine ⟨_, f4 _ _ du (x3 _ _ (f3 _ _ du q1)), Nat.lt_of_lt_of_le (by rw [List.length_map]; omega : _ < 100) (by decide), ws ++ [y], ?_, by simp, ?_, ?_, ?_⟩
      · rw [upd_same]
        simp [vi]
      · intro x hx
        rcases List.mem_append.mp hx with h | h
        · exact z1 x h
        · obtain rfl := List.mem_singleton.mp h
          exact y1
      · exact (w4.mut du).mono (by omega)
      · exact fr_new (((f2.trans f3).trans (Fr.of x3)).trans f4) hD
    · rintro H' ⟨ws, q1, e1, z1, w2, f2⟩
      refine ⟨D, _, rfl, .inl ⟨SqL.of q1, fun c hc => ?_⟩⟩
      have x4 := same_new (o := .tup (vi ws)) hc
      exact hq _ c ws upd_same (by omega) z1 ((w2.same x4).mono (by omega)) ((f1.trans f2).trans (Fr.of x4))
theorem okLdeed (T : Tx K mg) : FnOk P w K mg base CX0 2 T.aLdeed T.dLdeed ["_law_well_here", "_law_sizes_here"] (spLdeed T) := by
  refine T.fLdeed.ok scLdeed (fun vs H Q E h => ?_) (fun cdv A outer s H vs Q E hr h => ?_)
  · obtain ⟨u, c, caps, n, rfl, _⟩ := h
    rfl
  · obtain ⟨u, c, caps, n, rfl, hw, n9, hc, c1, c6, cb, hq⟩ := h
    refine ⟨_, (pss_cons (ps_set (i := 2) scLdeed.nd rfl (by first | exact Or.inl rfl | exact Or.inr rfl) (pe_call (okLdraw T) (hr.mono (by decide)) rfl T.gLdraw T.fLdraw.kp T.bLdraw .nil pass0 (pa_cons (pv 0) (pa_cons (pe_callB call_len_seq rfl T.nlen PySem.boot_len (pa_cons (pv 1) pa_nil)) pa_nil))))
      (pss_cons (ps_set (i := 3) scLdeed.nd rfl (by first | exact Or.inl rfl | exact Or.inr rfl) (pe_op op_mod (pe_op op_add (pe_op op_add (pv 2) pe_int) (pe_call (okLdraw T) (hr.mono (by decide)) rfl T.gLdraw T.fLdraw.kp T.bLdraw .nil pass0 (pa_cons (pv 0) (pa_cons (pe_callB (call_max2 rfl) rfl T.nmax (by decide +kernel) (pa_cons pe_int (pa_cons (pe_op op_sub (pe_callB call_len_seq rfl T.nlen PySem.boot_len (pa_cons (pv 1) pa_nil)) pe_int) pa_nil))) pa_nil)))) (pe_callB call_len_seq rfl T.nlen PySem.boot_len (pa_cons (pv 1) pa_nil))))
      (pss_cons (ps_set (i := 4) scLdeed.nd rfl (by first | exact Or.inl rfl | exact Or.inr rfl) (pe_call (okLdraw T) (hr.mono (by decide)) rfl T.gLdraw T.fLdraw.kp T.bLdraw .nil pass0 (pa_cons (pv 0) (pa_cons pe_int pa_nil))))
      (pss_cons (ps_set (i := 5) scLdeed.nd rfl (by first | exact Or.inl rfl | exact Or.inr rfl) (pe_op op_add pe_int (pe_call (okLdraw T) (hr.mono (by decide)) rfl T.gLdraw T.fLdraw.kp T.bLdraw .nil pass0 (pa_cons (pv 0) (pa_cons (pe_op op_add (pe_ix (r := rIxT K) ix_tup (pv 1) (pv 2) (fun _ _ => rfl)) pe_int) pa_nil)))))
      (pss_cons (ps_if (PW.pt (pw_or (pt_cmpR op_lt (pv 4) pe_int (nomark _)) (pw_or1 (pt_cmpR op_eq (pv 2) (pv 3) (nomark _))))) (pss_one (ps_ret (pe_tup (pa_cons (pe_ix (r := rIxL K) ix_list (pe_lst (pa_cons pe_str (pa_cons pe_str pa_nil))) (pe_op op_mod (pv 4) pe_int) (fun _ _ => rfl)) (pa_cons (pv 2) (pa_cons (pv 5) pa_nil)))))) pss_nil)
      (pss_cons (ps_if (PW.pt (pw_and (pt_cmpR op_eq (pv 4) pe_int (nomark _)) (pw_and1 (pt_cmpR op_eq (pe_ix (r := rIxT K) ix_tup (pv 1) (pv 2) (fun _ _ => rfl)) (pe_ix (r := rIxT K) ix_tup (pv 1) (pv 3) (fun _ _ => rfl)) (nomark _))))) (pss_one (ps_ret (pe_tup (pa_cons pe_str (pa_cons (pv 2) (pa_cons (pv 3) pa_nil)))))) pss_nil)
      (pss_one (ps_ret (pe_tup (pa_cons pe_str (pa_cons (pv 2) (pa_cons (pv 3) pa_nil)))))))))))), ?_⟩
    have cu : c ≠ u := fun z => by
      obtain ⟨_, _, _, q, _⟩ := hw
      rw [← z, hc] at q
      cases q
    obtain ⟨M, hM⟩ : ∃ M : Nat, caps.length = M := ⟨_, rfl⟩
    have lv : (vi caps).length = M := by rw [List.length_map]; exact hM
    -- a
    refine ⟨_, rfl, _, rfl, c, _, rfl, .inr (SqT.of hc), u, _, n, rfl, hw, by omega, by rw [lv]; omega, by rw [lv]; omega, fun H1 a la w1 f1 => ?_⟩
    rw [lv] at la
    have la : a < M := by omega
    refine gset (σ' := [some (V.ref u), some (V.ref c), some (V.int a), none, none, none]) rfl ?_
    have c1' := f1 _ _ cu hc
    -- b
    refine ⟨_, rfl, _, _, rfl, rfl, _, rfl, _, rfl, c, _, rfl, .inr (SqT.of c1'), _, _, rfl, rfl, _, _, rfl, u, _, n + 1, rfl, w1, by omega, by rw [lv]; split <;> omega, by rw [lv]; split <;> omega, fun H2 e le w2 f2 => ?_⟩
    have le : 1 ≤ M ∧ (M = 1 → e = 0) ∧ (2 ≤ M → e + 1 < M) := by
      rw [lv] at le
      split at le <;> omega
    have c2 := f2 _ _ cu c1'
    refine ⟨_, _, rfl, rfl, _, rfl, c, _, rfl, .inr (SqT.of c2), _, _, rfl, rfl, (by show 0 < ((vi caps).length : Int); rw [lv]; omega), ?_⟩
    obtain ⟨b, hb⟩ : ∃ b : Nat, (a + 1 + e) % M = b := ⟨_, rfl⟩
    have ec : ((a : Int) + 1 + (e : Int)) % ((vi caps).length : Int) = (b : Int) := by
      rw [← hb, Int.natCast_emod, lv]
      rfl
    refine gset (σ' := [some (V.ref u), some (V.ref c), some (V.int a), some (V.int b), none, none]) (by rw [← ec]; rfl) ?_
    have lb : b < M := by rw [← hb]; exact Nat.mod_lt _ (by omega)
    have nab : 2 ≤ M → a ≠ b := fun h => by rw [← hb]; exact (turn_ne la (le.2.2 h)).2
    -- way
    refine ⟨_, rfl, u, 8, n + 2, rfl, w2, by omega, by decide, by decide, fun H3 v lw w3 f3 => ?_⟩
    refine gset (σ' := [some (V.ref u), some (V.ref c), some (V.int a), some (V.int b), some (V.int v), none]) rfl ?_
    have c3 := f3 _ _ cu c2
    -- much
    have ba := cb _ (at0_mem (l := caps) (i := a) (by omega))
    refine ⟨_, rfl, _, rfl, _, rfl, c, _, _, _, rfl, rfl, SqT.of c3, vi_at (by omega), _, _, rfl, rfl, u, _, n + 3, rfl, w3, by omega, (by show 1 ≤ at0 caps a + 1; omega), (by show at0 caps a + 1 < _; omega), fun H4 k lk w4 f4 => ⟨_, _, rfl, rfl, ?_⟩⟩
    have lk : (k : Int) < at0 caps a + 1 := lk
    obtain ⟨mu, hmu⟩ : ∃ mu : Int, 1 + (k : Int) = mu := ⟨_, rfl⟩
    refine gset (σ' := [some (V.ref u), some (V.ref c), some (V.int a), some (V.int b), some (V.int v), some (V.int mu)]) (by rw [← hmu]; rfl) ?_
    have c4 := f4 _ _ cu c3
    have f04 := ((f1.trans f2).trans f3).trans f4
    have fin : ∀ (d : D) (G : Hp) (t : Addr), Same H4 G → d.little caps → G t = some (.tup [.str d.word, .int d.fst, .int d.last]) → Q (.ref t) G := fun d G t s hd ht => hq G _ d ⟨t, rfl, ht⟩ hd ((w4.same s).mono (by omega)) (f04.trans (Fr.of s))
    have pd : ∀ (G : Hp → VK → Prop), True := fun _ => trivial
    -- put or draw
    have two : ∀ (l : Addr), H4 l = none → v % 2 = 0 ∨ v % 2 = 1 := fun _ _ => by omega
    have lp : D.little caps (.put a mu) := ⟨⟨by omega, by omega, by omega⟩, fun a' k' h => by
      rcases h with h | h
      · injection h with h1 h2
        subst h1 h2
        omega
      · cases h⟩
    have ld : D.little caps (.draw a mu) := ⟨⟨by omega, by omega, by omega⟩, fun a' k' h => by
      rcases h with h | h
      · cases h
      · injection h with h1 h2
        subst h1 h2
        omega⟩
    have pick : ∀ (l : Addr) (G : VK), H4 l = none → (v % 2 = 0 → G (.str "put") (upd H4 l (.lst [V.str "put", V.str "draw"]))) → (v % 2 = 1 → G (.str "draw") (upd H4 l (.lst [V.str "put", V.str "draw"]))) → rIxL K (.ref l) (.int ((v : Int) % 2)) (upd H4 l (.lst [V.str "put", V.str "draw"])) G := fun l G hl g0 g1 => by
      rcases (show v % 2 = 0 ∨ v % 2 = 1 by omega) with e | e
      · rw [show (v : Int) % 2 = ((0 : Nat) : Int) by omega]
        exact ⟨l, _, _, _, rfl, rfl, SqL.of upd_same, atI_nat rfl, g0 e⟩
      · rw [show (v : Int) % 2 = ((1 : Nat) : Int) by omega]
        exact ⟨l, _, _, _, rfl, rfl, SqL.of upd_same, atI_nat rfl, g1 e⟩
    refine ⟨_, rfl, _, _, rfl, rfl, _, rfl, ifD (fun g => ?_) (fun g => ?_)⟩
    · exact ⟨(by show 2 ≤ sizeLine; decide), fun l hl => ⟨_, rfl, _, _, rfl, rfl, (by show (0 : Int) < 2; decide), pick l _ hl (fun _ => ⟨_, rfl, _, rfl, (by show 3 ≤ sizeLine; decide), fun t ht => fin (.put a mu) _ t ((same_new hl).trans (same_new ht)) lp upd_same⟩) (fun _ => ⟨_, rfl, _, rfl, (by show 3 ≤ sizeLine; decide), fun t ht => fin (.draw a mu) _ t ((same_new hl).trans (same_new ht)) ld upd_same⟩)⟩⟩
    refine ⟨_, rfl, _, rfl, rfl, _, rfl, ifD (fun g => ?_) (fun g => ?_)⟩
    · exact ⟨(by show 2 ≤ sizeLine; decide), fun l hl => ⟨_, rfl, _, _, rfl, rfl, (by show (0 : Int) < 2; decide), pick l _ hl (fun _ => ⟨_, rfl, _, rfl, (by show 3 ≤ sizeLine; decide), fun t ht => fin (.put a mu) _ t ((same_new hl).trans (same_new ht)) lp upd_same⟩) (fun _ => ⟨_, rfl, _, rfl, (by show 3 ≤ sizeLine; decide), fun t ht => fin (.draw a mu) _ t ((same_new hl).trans (same_new ht)) ld upd_same⟩)⟩⟩
    have nab2 : a ≠ b := fun z => g (by rw [z])
    have fpour : ∀ t, H4 t = none → Q (.ref t) (upd H4 t (.tup [.str "pour", .int a, .int b])) := fun t ht => fin (.pour a b) _ t (same_new ht) ⟨⟨by omega, by omega, nab2⟩, fun a' k' h => by rcases h with h | h <;> cases h⟩ upd_same
    refine ⟨_, rfl, rfl, _, rfl, ifD (fun g7 => ?_) (fun g7 => ?_)⟩
    · refine ⟨_, rfl, _, rfl, c, _, _, _, rfl, rfl, SqT.of c4, vi_at (by omega), _, rfl, _, rfl, c, _, _, _, rfl, rfl, SqT.of c4, vi_at (by omega), rfl, _, rfl, ifD (fun ge => ?_) (fun ge => ?_)⟩
      · have ge : at0 caps a = at0 caps b := by injection ge
        exact ⟨_, rfl, _, rfl, (by show 3 ≤ sizeLine; decide), fun t ht => fin (.change a b) _ t (same_new ht) ⟨⟨by omega, by omega, nab2, ge⟩, fun a' k' h => by rcases h with h | h <;> cases h⟩ upd_same⟩
      · exact ⟨_, rfl, _, rfl, (by show 3 ≤ sizeLine; decide), fpour⟩
    · exact ⟨_, rfl, _, rfl, (by show 3 ≤ sizeLine; decide), fpour⟩
theorem okLdeeds (T : Tx K mg) : FnOk P w K mg base CX0 3 T.aLdeeds T.dLdeeds ["_law_well_here", "_law_sizes_here", "_law_most"] (spLdeeds T) := by
  refine T.fLdeeds.ok scLdeeds (fun vs H Q E h => ?_) (fun cdv A outer s H vs Q E hr h => ?_)
  · obtain ⟨u, c, caps, m, n, rfl, _⟩ := h
    rfl
  · obtain ⟨u, c, caps, m, n, rfl, hw, n9, m20, hc, c1, c6, cb, hq⟩ := h
    refine ⟨_, (pss_cons (ps_set (i := 3) scLdeeds.nd rfl (by first | exact Or.inl rfl | exact Or.inr rfl) (pe_lst pa_nil))
      (pss_cons (ps_for PassesOwn.never rfl (pi_range1 rfl T.nrange (pa_cons (pe_call (okLdraw T) (hr.mono (by decide)) rfl T.gLdraw T.fLdraw.kp T.bLdraw .nil pass0 (pa_cons (pv 0) (pa_cons (pe_op op_add (pv 2) pe_int) pa_nil))) pa_nil)) (pg_name (i := 4) scLdeeds.nd rfl (by first | exact Or.inl rfl | exact Or.inr rfl)) (pss_cons (ps_set (i := 5) scLdeeds.nd rfl (by first | exact Or.inl rfl | exact Or.inr rfl) (pe_call (okLdeed T) (hr.mono (by decide)) rfl T.gLdeed T.fLdeed.kp T.bLdeed .nil pass0 (pa_cons (pv 0) (pa_cons (pv 1) pa_nil))))
      (C8.pss_cut (ps_if (PW.pt (pw_and (pt_cmpR (op_neNil (Nat.lt_of_le_of_lt (Nat.le_add_right _ _) hr.units)) (pv 3) (pe_lst pa_nil) (nomark _)) (pw_and1 (pt_cmpR op_eq (pe_call (okLdraw T) (hr.mono (by decide)) rfl T.gLdraw T.fLdraw.kp T.bLdraw .nil pass0 (pa_cons (pv 0) (pa_cons pe_int pa_nil))) pe_int (nomark _))))) (pss_one (ps_set (i := 5) scLdeeds.nd rfl (by first | exact Or.inl rfl | exact Or.inr rfl) (pe_ix (r := rIxL K) ix_list (pv 3) (pe_un un_neg pe_int) (fun _ _ => rfl)))) pss_nil)
      (pss_one (ps_expr (pe_bm PySem.F.plainAttrs_list PySem.F.slot_list_append PySem.F.type_list_append mt_append (pv 3) (pa_cons (pv 5) pa_nil)))))))
      (pss_one (ps_ret (pv 3))))), ?_⟩
    have cu : c ≠ u := fun z => by
      obtain ⟨_, _, _, q, _⟩ := hw
      rw [← z, hc] at q
      cases q
    refine ⟨(by show 0 ≤ sizeLine; decide), fun f hf => ?_⟩
    have fu : f ≠ u := hw.ne hf
    have cf : c ≠ f := ne_of_none hc hf
    refine gset (σ' := [some (V.ref u), some (V.ref c), some (V.int m), some (V.ref f), none, none]) rfl ?_
    have s0 := same_new (o := .lst []) hf
    have w0 := hw.same s0
    have f0 : (upd H f (.lst [])) f = some (.lst []) := upd_same
    have c0 := s0 _ _ hc
    generalize upd H f (.lst []) = H0 at s0 w0 f0 c0 ⊢
    refine ⟨_, rfl, _, rfl, _, _, rfl, rfl, u, _, n, rfl, w0, by omega, by omega, by omega, fun H1 g lg w1 f1 => ⟨_, rfl, by omega, by omega, ?_⟩⟩
    refine for_range (lo := 0) (n := ((g : Int)).toNat) (fun i σ H' => ∃ (v4 v5 : Option V) (ts : List V) (ds : List D), σ = [some (V.ref u), some (V.ref c), some (V.int m), some (V.ref f), v4, v5] ∧ H' f = some (.lst ts) ∧ A2 (FactAt H') ts ds ∧ ds.length = i ∧ (∀ d ∈ ds, d.little caps) ∧ WellAt (n + 1 + 5 * i) H' u ∧ Fr u H H' ∧ H' c = some (.tup (vi caps)))
      ⟨none, none, [], [], rfl, f1 _ _ fu f0, trivial, rfl, (fun d h => by cases h), w1, (Fr.of s0).trans f1, f1 _ _ cu c0⟩ ?_ ?_
    · rintro i σ H2 hi ⟨v4, v5, ts, ds, rfl, g2, A2', e2, ok2, w2, fr2, c2⟩
      have i20 : i < 20 := by omega
      refine ⟨_, rfl, _, rfl, u, c, caps, n + 1 + 5 * i, rfl, w2, by omega, c2, c1, c6, cb, fun H3 t d hd ld w3 f3 => ?_⟩
      refine gset (σ' := [some (V.ref u), some (V.ref c), some (V.int m), some (V.ref f), some (V.int (0 + (i : Nat))), some t]) rfl ?_
      obtain ⟨o2, ho2, bo2⟩ := w2.ex
      have A3 : A2 (FactAt H3) ts ds := A2.mono (fun _ _ k => k.fr f3 ho2 bo2) A2'
      have g3 := f3 _ _ fu g2
      have c3 := f3 _ _ cu c2
      have fr3 := fr2.trans f3
      have tl := A3.len
      obtain ⟨o3, ho3, bo3⟩ := w3.ex
      refine ⟨fun σ' H' => ∃ (t : V) (d : D), σ' = [some (V.ref u), some (V.ref c), some (V.int m), some (V.ref f), some (V.int (0 + (i : Nat))), some t] ∧ FactAt H' t d ∧ d.little caps ∧ WellAt (n + 1 + 5 * i + 5) H' u ∧ Fr u H3 H', ?_, ?_⟩
      · rcases List.eq_nil_or_concat ts with e | ⟨us, y, e⟩ <;> (try rw [List.concat_eq_append] at e)
        · subst e
          refine ⟨_, rfl, (by show 0 ≤ sizeLine; decide), fun z hz => ⟨f, z, _, rfl, rfl, (same_new hz) _ _ g3, upd_same, _, rfl, ifF rfl ?_⟩⟩
          exact ⟨t, d, rfl, hd.same (same_new hz), ld, (w3.same (same_new hz)).mono (by omega), Fr.of (same_new hz)⟩
        · subst e
          obtain ⟨dl, hdl, fl⟩ := A3.get (i := us.length) (v := y) (by simp)
          refine ⟨_, rfl, (by show 0 ≤ sizeLine; decide), fun z hz => ⟨f, z, _, rfl, rfl, (same_new hz) _ _ g3, upd_same, _, rfl, ifT (by simp) ?_⟩⟩
          have xz := same_new (o := .lst []) hz
          refine ⟨_, rfl, u, 5, n + 1 + 5 * i + 4, rfl, (w3.same xz).mono (by omega), by omega, by decide, by decide, fun H4 v lv w4 f4 => ⟨rfl, _, rfl, ifD (fun g => ?_) (fun g => ?_)⟩⟩
          · have f34 := (Fr.of xz).trans f4
            refine ⟨_, rfl, _, rfl, f, _, _, _, rfl, rfl, SqL.of (f34 _ _ fu g3), atI_last _ _, ?_⟩
            exact ⟨y, dl, rfl, fl.fr f34 ho3 bo3, ok2 _ (List.mem_of_getElem? hdl), w4.mono (by omega), f34⟩
          · exact ⟨t, d, rfl, hd.fr ((Fr.of xz).trans f4) ho3 bo3, ld, w4.mono (by omega), (Fr.of xz).trans f4⟩
      rintro σ' H4 ⟨t, d, rfl, hd, ld, w4, f4⟩
      have A4 : A2 (FactAt H4) ts ds := A2.mono (fun _ _ k => k.fr f4 ho3 bo3) A3
      refine ⟨_, rfl, .inl ⟨rfl, _, SqL.of (f4 _ _ fu g3)⟩, _, rfl, f, _, _, rfl, rfl, f4 _ _ fu g3, small1000 (by omega), ?_⟩
      have q : Fr f H4 (upd H4 f (.lst (ts ++ [t]))) := fr_mut (Fr.refl _ _)
      refine ⟨_, _, ts ++ [t], ds ++ [d], rfl, upd_same, ?_, by rw [List.length_append, e2]; rfl, ?_, ?_, ?_, ?_⟩
      · exact A2.mono (fun _ _ k => k.fr q (f4 _ _ fu g3) bl_l) (A2.app A4 ⟨hd, trivial⟩)
      · intro e he
        rcases List.mem_append.mp he with h | h
        · exact ok2 e h
        · obtain rfl := List.mem_singleton.mp h
          exact ld
      · exact (w4.mut fu).mono (by omega)
      · intro b o nb hb
        rw [upd_ne (ne_of_none hb hf)]
        exact f4 b o nb (fr3 b o nb hb)
      · rw [upd_ne cf]
        exact f4 _ _ cu c3
    · rintro σ H2 ⟨v4, v5, ts, ds, rfl, g2, A2', e2, ok2, w2, fr2, c2⟩
      exact ⟨_, rfl, hq _ f ts ds hf g2 A2' (by omega) ok2 (w2.mono (by omega)) fr2⟩
end
end Kp

namespace Kp
open PySem PySem.Spec PyProof.Rows L2 KpR
def TupI (H : Hp) (v : V) (l : List Int) : Prop := ∃ b, v = .ref b ∧ H b = some (.tup (vi l))
theorem TupI.same {H H' : Hp} {v : V} {l : List Int} (e : Same H H') (h : TupI H v l) : TupI H' v l := by
  obtain ⟨b, rfl, h⟩ := h
  exact ⟨b, rfl, e _ _ h⟩
def pdTI (l : List Int) : PyData := .tuple (pdInts l)
theorem pdTI_eqv (l m : List Int) : (pdTI l).eqv (pdTI m) = decide (l = m) := by
  unfold pdTI
  simp only [PyData.eqv, eqvInts]
theorem flatTI (l : List Int) : Flat 1 (pdTI l) := flatT l
theorem flatTIs (ls : List (List Int)) : Flat 2 (.list (ls.map pdTI)) := Flat.list fun _ _ => flatTI _
theorem dpTI {K : PySem.W.Frag} {H : Hp} {v : V} {l : List Int} (h : TupI H v l) : Dp K H v (pdTI l) := by
  obtain ⟨b, rfl, h⟩ := h
  exact .tup (SqT.of h) (dpInts l)
theorem anyTI {ls : List (List Int)} {x : List Int} : (ls.map pdTI).any (fun z => z.eqv (pdTI x)) = decide (x ∈ ls) := by
  induction ls with
  | nil => simp
  | cons l ls ih =>
    rw [List.map_cons, List.any_cons, ih, pdTI_eqv]
    by_cases h1 : l = x
    · subst h1; simp
    · have : ¬ x = l := fun z => h1 z.symm
      by_cases h2 : x ∈ ls <;> simp [h1, h2, this]
/-- the first m stands -/
def orb (f : List Int → List Int) (x : List Int) (m : Nat) : List (List Int) := (List.range m).map fun k => it f k x
theorem orb_succ {f : List Int → List Int} {x : List Int} {m : Nat} : orb f x (m + 1) = orb f x m ++ [it f m x] := by
  unfold orb
  rw [List.range_succ, List.map_append]
  rfl
theorem orb_len {f : List Int → List Int} {x : List Int} {m : Nat} : (orb f x m).length = m := by unfold orb; simp
theorem orb_at {f : List Int → List Int} {x : List Int} {m k : Nat} (h : k < m) : (orb f x m)[k]? = some (it f k x) := by
  unfold orb
  rw [List.getElem?_map, List.getElem?_range h]
  rfl
theorem orb_mem {f : List Int → List Int} {x y : List Int} {m : Nat} : y ∈ orb f x m ↔ ∃ k, k < m ∧ it f k x = y := by
  unfold orb
  simp [List.mem_map]
end Kp

namespace Kp
open PySem PySem.Spec PyProof.Rows L2 KpR
/-- all whole starts, in their order -/
def stepS (l : List (List Int)) (z : Int) : List (List Int) := l.flatMap fun s => (List.range (z.toNat + 1)).map fun m : Nat => s ++ [(m : Int)]
def startsOf (caps : List Int) : List (List Int) := caps.foldl stepS [[]]
theorem startsOf_snoc (caps : List Int) (z : Int) : startsOf (caps ++ [z]) = stepS (startsOf caps) z := by
  unfold startsOf
  rw [List.foldl_append]
  rfl
def prodN (l : List Int) : Nat := l.foldl (fun m z => m * (z.toNat + 1)) 1
theorem prodN_snoc (l : List Int) (z : Int) : prodN (l ++ [z]) = prodN l * (z.toNat + 1) := by
  unfold prodN
  rw [List.foldl_append]
  rfl
theorem stepS_len (l : List (List Int)) (z : Int) : (stepS l z).length = l.length * (z.toNat + 1) := by
  unfold stepS
  induction l with
  | nil => simp
  | cons a r ih =>
    rw [List.flatMap_cons, List.length_append, ih, List.length_map, List.length_range, List.length_cons, Nat.succ_mul]
    omega
theorem take_snoc {α : Type} {l : List α} {i : Nat} {z : α} (h : l[i]? = some z) : l.take (i + 1) = l.take i ++ [z] := by
  rw [List.take_add_one, h]
  rfl
theorem starts_len (caps : List Int) : (startsOf caps).length = prodN caps := by
  suffices h : ∀ i, (startsOf (caps.take i)).length = prodN (caps.take i) from by
    have := h caps.length
    rwa [List.take_length] at this
  intro i
  induction i with
  | zero => rfl
  | succ i ih =>
    cases e : caps[i]? with
    | none => rw [List.take_of_length_le (by have := List.getElem?_eq_none_iff.mp e; omega)]; rw [List.take_of_length_le (List.getElem?_eq_none_iff.mp e)] at ih; exact ih
    | some z => rw [take_snoc e, startsOf_snoc, prodN_snoc, stepS_len, ih]
theorem prodN_le (caps : List Int) (i : Nat) : prodN (caps.take i) ≤ prodN caps := by
  suffices h : ∀ k, prodN (caps.take i) ≤ prodN (caps.take (i + k)) from by
    have := h caps.length
    rw [List.take_of_length_le (l := caps) (i := i + caps.length) (by omega)] at this
    exact this
  intro k
  induction k with
  | zero => exact Nat.le_refl _
  | succ k ih =>
    cases e : caps[i + k]? with
    | none =>
      rw [← Nat.add_assoc, List.take_of_length_le (by have := List.getElem?_eq_none_iff.mp e; omega : caps.length ≤ i + k + 1)]
      rw [List.take_of_length_le (List.getElem?_eq_none_iff.mp e)] at ih
      exact ih
    | some z =>
      rw [← Nat.add_assoc, take_snoc e, prodN_snoc]
      exact Nat.le_trans ih (Nat.le_mul_of_pos_right _ (by omega))
theorem at0_put {s : List Int} {m : Int} {i j : Nat} (h : s.length = i) : at0 (s ++ [m]) j = if j = i then m else at0 s j := by
  by_cases e : j = i
  · subst e
    rw [if_pos rfl]
    exact at0_of (by rw [List.getElem?_append_right (by omega), h]; simp)
  · rw [if_neg e]
    unfold at0
    rw [List.getD_eq_getElem?_getD, List.getD_eq_getElem?_getD]
    by_cases l : j < i
    · rw [List.getElem?_append_left (by omega)]
    · rw [List.getElem?_eq_none (by simp; omega), List.getElem?_eq_none (by omega)]
/-- starts of the first jars -/
def Upto (caps : List Int) (i : Nat) (st : List Int) : Prop := st.length = i ∧ ∀ j, j < i → 0 ≤ at0 st j ∧ at0 st j ≤ at0 caps j
theorem upto_succ {caps : List Int} {i : Nat} {st : List Int} : Upto caps (i + 1) st ↔ ∃ s0 : List Int, Upto caps i s0 ∧ ∃ m : Nat, (m : Int) ≤ at0 caps i ∧ st = s0 ++ [(m : Int)] := by
  constructor
  · rintro ⟨l, h⟩
    have hi := h i (by omega)
    have e : st = st.take i ++ [at0 st i] := by
      have q := at0_get (show i < st.length by omega)
      conv => lhs; rw [← List.take_append_drop i st]
      congr 1
      rw [List.drop_eq_getElem_cons (show i < st.length by omega), List.drop_of_length_le (by omega)]
      congr 1
      rw [List.getElem?_eq_getElem (show i < st.length by omega)] at q
      exact Option.some.inj q
    refine ⟨st.take i, ⟨by simp; omega, fun j hj => ?_⟩, (at0 st i).toNat, by omega, by rw [Int.toNat_of_nonneg hi.1]; exact e⟩
    have := h j (by omega)
    have ej : at0 (st.take i) j = at0 st j := by
      unfold at0
      rw [List.getD_eq_getElem?_getD, List.getD_eq_getElem?_getD, List.getElem?_take, if_pos hj]
    rw [ej]
    exact this
  · rintro ⟨s0, ⟨l, h⟩, m, hm, rfl⟩
    refine ⟨by simp [l], fun j hj => ?_⟩
    rw [at0_put l]
    by_cases e : j = i
    · subst e
      rw [if_pos rfl]
      omega
    · rw [if_neg e]
      exact h j (by omega)
theorem mem_step {l : List (List Int)} {z : Int} {st : List Int} (hz : 0 ≤ z) : st ∈ stepS l z ↔ ∃ s0 ∈ l, ∃ m : Nat, (m : Int) ≤ z ∧ st = s0 ++ [(m : Int)] := by
  unfold stepS
  rw [List.mem_flatMap]
  constructor
  · rintro ⟨s0, h, k⟩
    obtain ⟨m, hm, rfl⟩ := List.mem_map.mp k
    have := List.mem_range.mp hm
    exact ⟨s0, h, m, by omega, rfl⟩
  · rintro ⟨s0, h, m, hm, rfl⟩
    exact ⟨s0, h, List.mem_map.mpr ⟨m, List.mem_range.mpr (by omega), rfl⟩⟩
theorem mem_starts {caps : List Int} (hc : ∀ z ∈ caps, 1 ≤ z) {st : List Int} : st ∈ startsOf caps ↔ Upto caps caps.length st := by
  suffices h : ∀ i, i ≤ caps.length → ∀ st, st ∈ startsOf (caps.take i) ↔ Upto caps i st from by
    have := h caps.length (Nat.le_refl _) st
    rwa [List.take_length] at this
  intro i
  induction i with
  | zero =>
    intro _ st
    show st ∈ ([[]] : List (List Int)) ↔ _
    rw [List.mem_singleton]
    exact ⟨fun e => by subst e; exact ⟨rfl, fun j hj => absurd hj (Nat.not_lt_zero _)⟩, fun h => List.length_eq_zero_iff.mp h.1⟩
  | succ i ih =>
    intro hi st
    have e : caps[i]? = some caps[i] := List.getElem?_eq_getElem (by omega)
    have z1 := hc caps[i] (List.getElem_mem ..)
    rw [take_snoc e, startsOf_snoc, mem_step (by omega), upto_succ, at0_of e]
    exact ⟨fun ⟨s0, h, k⟩ => ⟨s0, (ih (by omega) s0).mp h, k⟩, fun ⟨s0, h, k⟩ => ⟨s0, (ih (by omega) s0).mpr h, k⟩⟩
theorem step_nodup {l : List (List Int)} {n : Nat} (hl : ∀ s ∈ l, s.length = n) (nd : l.Nodup) (z : Int) : (stepS l z).Nodup := by
  unfold stepS List.Nodup
  induction l with
  | nil => simp
  | cons a r ih =>
    have h1 := List.nodup_cons.mp nd
    rw [List.flatMap_cons]
    refine List.pairwise_append.mpr ⟨?_, ih (fun s hs => hl s (List.mem_cons_of_mem _ hs)) h1.2, fun x hx y hy e => ?_⟩
    · rw [List.pairwise_map]
      refine List.Pairwise.imp ?_ List.pairwise_lt_range
      intro i j hij e
      have := List.append_cancel_left e
      simp at this
      omega
    · subst e
      obtain ⟨m, _, rfl⟩ := List.mem_map.mp hx
      obtain ⟨s, hs, k⟩ := List.mem_flatMap.mp hy
      obtain ⟨m2, _, e⟩ := List.mem_map.mp k
      have l1 := hl a (List.mem_cons_self ..)
      have l2 := hl s (List.mem_cons_of_mem _ hs)
      have := List.append_inj_left e (by omega)
      subst this
      exact h1.1 hs
theorem starts_nodup {caps : List Int} (hc : ∀ z ∈ caps, 1 ≤ z) : (startsOf caps).Nodup := by
  suffices h : ∀ i, i ≤ caps.length → (startsOf (caps.take i)).Nodup from by
    have := h caps.length (Nat.le_refl _)
    rwa [List.take_length] at this
  intro i
  induction i with
  | zero => intro _; show ([[]] : List (List Int)).Nodup; simp
  | succ i ih =>
    intro hi
    have e : caps[i]? = some caps[i] := List.getElem?_eq_getElem (by omega)
    rw [take_snoc e, startsOf_snoc]
    refine step_nodup (n := (caps.take i).length) (fun s hs => ?_) (ih (by omega)) _
    exact ((mem_starts fun z hz => hc z (List.mem_of_mem_take hz)).mp hs).1
def f3s (a : Str) (x : V) (b : Str) (y : V) (c : Str) (z : V) : List (Str × V) := [(a, x), (b, y), (c, z)]
theorem put3 {a b c : Str} {u v w : V} (h : ¬ a = b) (h1 : ¬ a = c) (h2 : ¬ b = c) : putF c w (putF b v (putF a u [])) = f3s a u b v c w := by
  rw [put2 h]
  simp [putF, h1, h2, f3s]
def rTupOf (K : PySem.W.Frag) : List V → Hp → VK → Prop := fun xs H Q => ∃ p ys, xs = [V.ref p] ∧ ((SqL K H p ys ∧ ∀ l, H l = none → Q (.ref l) (upd H l (.tup ys))) ∨ (SqT K H p ys ∧ Q (.ref p) H))
theorem put4 {x y z w : V} : putF "_rings" w (f3s "tail" x "ring" y "late" z) = ([("tail", x), ("ring", y), ("late", z), ("_rings", w)] : List (Str × V)) := by
  have h1 : ¬ (("tail" : Str) = "_rings") := by decide +kernel
  have h2 : ¬ (("ring" : Str) = "_rings") := by decide +kernel
  have h3 : ¬ (("late" : Str) = "_rings") := by decide +kernel
  simp [putF, f3s, h1, h2, h3]
def ftu (t n l r : V) : List (Str × V) := [("tail", t), ("ring", n), ("late", l), ("_rings", r)]
theorem TupI.fr {w : Addr} {H H' : Hp} {u : HO} {v : V} {st : List Int} (e : Fr w H H') (hw : H w = some u) (hb : Blank u) (h : TupI H v st) : TupI H' v st := by
  obtain ⟨t, rfl, h⟩ := h
  exact ⟨t, rfl, fr_no e hw hb h nbT⟩
section
variable {K : PySem.W.Frag} {mg : Str → Option Value}
def TuAt (T : Tx K mg) (H : Hp) (v : V) (t n : Int) (late : List Int) (rs : List (List Int)) : Prop := ∃ a dx l r us, v = .ref a ∧ H a = some (.ins T.cTurning dx (ftu (.int t) (.int n) (.ref l) (.ref r))) ∧ H l = some (.tup (vi late)) ∧ H r = some (.lst us) ∧ A2 (TupI H) us rs
def spX1 (C : Addr) (f : Str) : Sp := fun vs H Q _ => ∃ (a : Addr) (u : V), vs = [.ref a, u] ∧ H a = some (exo a C none) ∧
  ∀ (H' : Hp) (d : Addr), H d = none → d ≠ a → H' a = some (exo a C (some d)) → H' d = some (exd d (f1s f u)) → Fr a H H' → Q .non H'
def spWideInit (T : Tx K mg) : Sp := spX1 T.cWide "count"
theorem x1_made {H : Hp} {C : Addr} {f : Str} {u : V} {E : XK} (h : ∀ (H' : Hp) (d : Addr), H' d = some (.xd (f1s f u)) → Same H H' → E (.ref C) (some d) H') : ∀ a, H a = none → spX1 C f [.ref a, u] (upd H a (exo a C none))
    (fun v H2 => v = .non ∧ ∃ (d : Addr) (fs : List (Str × V)), H2 a = some (exo a C (some d)) ∧ H2 d = some (exd d fs) ∧ H d = none ∧ E (.ref C) (some d) (upd (del H2 a) d (.xd fs))) (fun _ _ _ => False) := fun a ha => by
  refine ⟨a, u, rfl, upd_same, fun H' d hd ne e1 e2 fr => ⟨rfl, d, _, e1, e2, by rw [upd_ne ne] at hd; exact hd, ?_⟩⟩
  have hd0 : H d = none := by rw [upd_ne ne] at hd; exact hd
  refine h _ d upd_same fun b o e => ?_
  have n1 := ne_of_none e ha
  have n2 := ne_of_none e hd0
  rw [upd_ne n2, del_ne n1]
  exact fr b o n1 (by rw [upd_ne n1]; exact e)
def spTurningRings (T : Tx K mg) : Sp := fun vs H Q _ => ∃ (a : Addr) (t n : Int) (late : List Int) (rs : List (List Int)), vs = [.ref a] ∧ TuAt T H (.ref a) t n late rs ∧
  ∀ (H' : Hp) (q : Addr) (us : List V), H q = none → H' q = some (.lst us) → A2 (TupI H') us rs → Same H H' → Q (.ref q) H'
def spTurningRingsset (T : Tx K mg) : Sp := fun vs H Q _ => ∃ (a b dx : Addr) (fs : List (Str × V)) (us : List V) (rs : List (List Int)), vs = [.ref a, .ref b] ∧ H a = some (.ins T.cTurning dx fs) ∧ fs.length < 1000 ∧ H b = some (.lst us) ∧ A2 (TupI H) us rs ∧ us.length ≤ 2000 ∧ ¬ Blank (.ins T.cTurning dx fs) ∧
  ∀ (H' : Hp) (q : Addr) (ws : List V), H' a = some (.ins T.cTurning dx (putF "_rings" (.ref q) fs)) → H' q = some (.lst ws) → A2 (TupI H') ws rs → Fr a H H' → Q .non H'
def spTurningInit (T : Tx K mg) : Sp := fun vs H Q _ => ∃ (a dx l b : Addr) (t n : Int) (late : List Int) (us : List V) (rs : List (List Int)), vs = [.ref a, .int t, .int n, .ref l, .ref b] ∧ H a = some (.ins T.cTurning dx []) ∧ H l = some (.tup (vi late)) ∧ H b = some (.lst us) ∧ A2 (TupI H) us rs ∧ us.length ≤ 2000 ∧
  ∀ H' : Hp, TuAt T H' (.ref a) t n late rs → Fr a H H' → Q .non H'
def spcheckmany (T : Tx K mg) : Sp := fun vs H Q E => ∃ (j : Addr) (caps : List Int), vs = [.ref j] ∧ JarsAt T H j caps ∧ (∀ z ∈ caps, 1 ≤ z ∧ z ≤ 1000000000000) ∧
  (prodN caps ≤ 2000 → ∀ H', Same H H' → Q .non H') ∧ (2000 < prodN caps → ∀ (H' : Hp) (d : Addr), H' d = some (.xd (f1s "count" (.int (prodN caps)))) → Same H H' → E (.ref T.cWide) (some d) H')
def spwholestarts (T : Tx K mg) : Sp := fun vs H Q _ => ∃ (j : Addr) (caps : List Int), vs = [.ref j] ∧ JarsAt T H j caps ∧ (∀ z ∈ caps, 1 ≤ z) ∧ caps.length ≤ 6 ∧ prodN caps ≤ 2000 ∧
  ∀ (H' : Hp) (q : Addr) (ts : List V), H q = none → H' q = some (.lst ts) → A2 (TupI H') ts (startsOf caps) → Same H H' → Q (.ref q) H'
end
section
variable {P : Program} {w : World} {K : PySem.W.Frag} {mg : Str → Option Value} {base : Heap}
theorem okWideInit (T : Tx K mg) : FnOk P w K mg base CX0 1 T.aWideInit T.dWideInit ["self", "count"] (spWideInit T) := by
  refine T.fWideInit.ok scWideInit (fun vs H Q E h => ?_) (fun cdv A outer s H vs Q E hr h => ?_)
  · obtain ⟨a, u, rfl, _⟩ := h
    rfl
  · obtain ⟨a, u, rfl, ha, hq⟩ := h
    refine ⟨_, (pss_one (ps_ost (pv 0) (pv 1))), ?_⟩
    refine ⟨_, rfl, _, rfl, a, _, rfl, T.oWide, T.nWide_count, .inl ⟨ha, fun d hd ne => ?_⟩⟩
    refine hq _ d hd ne upd_same (by rw [upd_ne ne]; exact upd_same) ?_
    exact fun b o n1 e => by
      have n2 := ne_of_none e hd
      rw [upd_ne n1, upd_ne n2]
      exact e
theorem okTurningRings (T : Tx K mg) : FnOk P w K mg base CX0 1 T.aTurningRings T.dTurningRings ["self"] (spTurningRings T) := by
  refine T.fTurningRings.ok scTurningRings (fun vs H Q E h => ?_) (fun cdv A outer s H vs Q E hr h => ?_)
  · obtain ⟨a, t, n, late, rs, rfl, _⟩ := h
    rfl
  · obtain ⟨a, t, n, late, rs, rfl, ⟨_, dx, l, r, us, ea, ha, hl, hr2, hA⟩, hq⟩ := h
    cases ea
    refine ⟨_, (pss_one (ps_ret (pe_callTy call_list_of rfl T.nlist (by decide +kernel) (pa_cons (pe_fld (pv 0) rfl) pa_nil)))), ?_⟩
    refine ⟨_, rfl, a, _, dx, _, _, rfl, ha, T.lTurning, T.nTurning__rings, lk4 (by decide +kernel) (by decide +kernel) (by decide +kernel), r, _, rfl, .inl (SqL.of hr2), fun q hq0 => ?_⟩
    exact hq _ q us hq0 upd_same (A2.mono (fun _ _ k => k.same (same_new hq0)) hA) (same_new hq0)
theorem okTurningRingsset (T : Tx K mg) : FnOk P w K mg base CX0 1 T.aTurningRingsset T.dTurningRingsset ["self", "value"] (spTurningRingsset T) := by
  refine T.fTurningRingsset.ok scTurningRingsset (fun vs H Q E h => ?_) (fun cdv A outer s H vs Q E hr h => ?_)
  · obtain ⟨a, b, dx, fs, us, rs, rfl, _⟩ := h
    rfl
  · obtain ⟨a, b, dx, fs, us, rs, rfl, ha, f1000, hb, hA, u2, nb, hq⟩ := h
    refine ⟨_, (pss_one (ps_fld (pv 0) (pe_lc (own := [("start", 2)]) rfl scTurningRingsset.nd (pi_list (pv 1)) (blkOk_by (own := [("start", 2)]) (N := ["self", "value", "start"]) (sc := defScope sTurningRingsset) (by decide +kernel)) (fun _ _ _ _ _ => (pg_name (i := 2) scTurningRingsset.nd rfl (by first | exact Or.inl rfl | exact Or.inr rfl))) (fun _ _ _ _ _ => pts_nil) (fun _ _ _ _ _ => (pe_callTy (show CallR _ _ (rTupOf K) from call_tuple_of) rfl T.ntuple (by decide +kernel) (pa_cons (pv 2) pa_nil)))) rfl)), ?_⟩
    have l1 := hA.len
    refine ⟨_, rfl, b, rfl, ⟨_, SqL.of hb⟩, fun D hD => ?_⟩
    refine lc_list (K := K) (a := b) (xs := us) (fun i H' => ∃ ws, H' D = some (.lst ws) ∧ A2 (TupI H') ws (rs.take i) ∧ Same H H') ⟨[], upd_same, by simp [A2], same_new hD⟩ (fun i H' _ ⟨_, _, _, e⟩ => SqL.of (e _ _ hb)) ?_ ?_
    · rintro i y H' hi ⟨ws, g1, g2, sm⟩
      obtain ⟨st, hst, hy⟩ := hA.get hi
      obtain ⟨t, rfl, ht⟩ := hy.same sm
      have wl := g2.len
      rw [List.length_take] at wl
      have fD : Fr D H' (upd H' D (.lst (ws ++ [V.ref t]))) := fr_mut (Fr.refl _ _)
      refine ⟨rfl, _, rfl, t, _, rfl, .inr ⟨SqT.of ht, ws, g1, Nat.lt_of_le_of_lt (by omega : ws.length ≤ 2000) (by decide), ws ++ [.ref t], upd_same, ?_, same_mut sm hD⟩⟩
      rw [take_snoc hst]
      exact A2.app (A2.mono (fun _ _ k => k.fr fD g1 bl_l) g2) ⟨TupI.fr fD g1 bl_l ⟨t, rfl, ht⟩, trivial⟩
    · rintro H' ⟨ws, g1, g2, sm⟩
      rw [l1, List.take_length] at g2
      have ha' := sm _ _ ha
      have Da : D ≠ a := fun e => by rw [e, ha'] at g1; cases g1
      have fA : Fr a H' (upd H' a (.ins T.cTurning dx (putF "_rings" (.ref D) fs))) := fr_mut (Fr.refl _ _)
      refine ⟨_, rfl, a, _, dx, _, rfl, ha', T.lTurning, T.nTurning__rings, f1000, ?_⟩
      refine hq _ D ws upd_same (by rw [upd_ne Da]; exact g1) (A2.mono (fun _ _ k => ?_) g2) (fr_mut (Fr.of sm))
      obtain ⟨t, rfl, ht⟩ := k
      exact ⟨t, rfl, fA _ _ (fun e => by rw [e, ha'] at ht; cases ht) ht⟩
theorem okTurningInit (T : Tx K mg) : FnOk P w K mg base CX0 4 T.aTurningInit T.dTurningInit ["self", "tail", "ring", "late", "rings"] (spTurningInit T) := by
  refine T.fTurningInit.ok scTurningInit (fun vs H Q E h => ?_) (fun cdv A outer s H vs Q E hr h => ?_)
  · obtain ⟨a, dx, l, b, t, n, late, us, rs, rfl, _⟩ := h
    rfl
  · obtain ⟨a, dx, l, b, t, n, late, us, rs, rfl, ha, hl, hb, hA, u2, hq⟩ := h
    refine ⟨_, (pss_cons (ps_fld (pv 0) (pv 1) rfl)
      (pss_cons (ps_fld (pv 0) (pv 2) rfl)
      (pss_cons (ps_fld (pv 0) (pe_callTy call_tuple_of rfl T.ntuple (by decide +kernel) (pa_cons (pv 3) pa_nil)) rfl)
      (pss_one (ps_prop (pv 0) (pv 4) T.lTurning T.psTurningRingsset (okTurningRingsset T) (hr.mono (by decide)) T.bTurningRingsset pass0 rfl))))), ?_⟩
    have la : l ≠ a := fun e => by rw [e, ha] at hl; cases hl
    have ba : b ≠ a := fun e => by rw [e, ha] at hb; cases hb
    refine ⟨_, rfl, _, rfl, a, _, dx, _, rfl, ha, T.lTurning, T.nTurning_tail, (by show 0 < 1000; decide), ?_⟩
    refine ⟨_, rfl, _, rfl, a, _, dx, _, rfl, upd_same, T.lTurning, T.nTurning_ring, (by show 1 < 1000; decide), ?_⟩
    have f0 : Fr a H (upd (upd H a (.ins T.cTurning dx (putF "tail" (.int t) []))) a (.ins T.cTurning dx (putF "ring" (.int n) (putF "tail" (.int t) [])))) := fr_mut (fr_mut (Fr.refl _ _))
    have k0 : (upd (upd H a (.ins T.cTurning dx (putF "tail" (.int t) []))) a (.ins T.cTurning dx (putF "ring" (.int n) (putF "tail" (.int t) [])))) a = some (.ins T.cTurning dx (putF "ring" (.int n) (putF "tail" (.int t) []))) := upd_same
    generalize upd (upd H a (.ins T.cTurning dx (putF "tail" (.int t) []))) a (.ins T.cTurning dx (putF "ring" (.int n) (putF "tail" (.int t) []))) = H1 at f0 k0 ⊢
    refine ⟨_, rfl, l, _, rfl, .inr ⟨SqT.of (f0 _ _ la hl), ?_⟩⟩
    refine ⟨_, rfl, a, _, dx, _, rfl, k0, T.lTurning, T.nTurning_late, ?_, ?_⟩
    · rw [put2 (by decide +kernel)]
      show 2 < 1000
      decide
    have f1 : Fr a H (upd H1 a (.ins T.cTurning dx (putF "late" (.ref l) (putF "ring" (.int n) (putF "tail" (.int t) []))))) := fr_mut f0
    have k1 : (upd H1 a (.ins T.cTurning dx (putF "late" (.ref l) (putF "ring" (.int n) (putF "tail" (.int t) []))))) a = some (.ins T.cTurning dx (putF "late" (.ref l) (putF "ring" (.int n) (putF "tail" (.int t) [])))) := upd_same
    generalize upd H1 a (.ins T.cTurning dx (putF "late" (.ref l) (putF "ring" (.int n) (putF "tail" (.int t) [])))) = H2 at f1 k1 ⊢
    have e3 : (putF "late" (.ref l) (putF "ring" (.int n) (putF "tail" (.int t) [])) : List (Str × V)) = f3s "tail" (.int t) "ring" (.int n) "late" (.ref l) := put3 (by decide +kernel) (by decide +kernel) (by decide +kernel)
    rw [e3] at k1
    have nb3 : ¬ Blank (.ins T.cTurning dx (f3s "tail" (V.int t) "ring" (V.int n) "late" (V.ref l))) := nbI (fun z => by cases z) fun _ _ _ z => by simp [fgs, f3s] at z
    refine ⟨_, rfl, _, rfl, a, dx, _, rfl, k1, a, b, dx, _, us, rs, rfl, k1, (by show 3 < 1000; decide), f1 _ _ ba hb, A2.mono (fun _ _ k => ?_) hA, u2, nb3, fun H3 q ws h1 h2 h3 f3 => ?_⟩
    · obtain ⟨z, rfl, hz⟩ := k
      exact ⟨z, rfl, f1 _ _ (fun e => by rw [e, ha] at hz; cases hz) hz⟩
    · refine hq H3 ⟨a, dx, l, q, ws, rfl, ?_, f3 _ _ la (f1 _ _ la hl), h2, h3⟩ (f1.trans f3)
      rw [h1, put4]
      rfl
end
end Kp

namespace Kp
open PySem PySem.Spec PyProof.Rows L2 KpR
theorem toN {z : Int} (h : 1 ≤ z) : (z + 1) = ((z.toNat + 1 : Nat) : Int) := by omega
section
variable {P : Program} {w : World} {K : PySem.W.Frag} {mg : Str → Option Value} {base : Heap}
theorem okcheckmany (T : Tx K mg) : FnOk P w K mg base (L2.CX P w) 3 T.acheckmany T.dcheckmany ["jars"] (spcheckmany T) := by
  refine T.fcheckmany.okX sccheckmany (fun vs H Q E h => ?_) (fun cdv A outer s H vs Q E hr h => ?_)
  · obtain ⟨j, caps, rfl, _⟩ := h
    rfl
  · obtain ⟨j, caps, rfl, hJ, hc, hq, hE⟩ := h
    refine ⟨_, (pss_cons (ps_set (i := 1) sccheckmany.nd rfl (by first | exact Or.inl rfl | exact Or.inr rfl) pe_int)
      (pss_cons (ps_for (passes_of rfl) rfl (pi_tup (pe_fld (pv 0) rfl)) (pg_name (i := 2) sccheckmany.nd rfl (by first | exact Or.inl rfl | exact Or.inr rfl)) (pss_one (ps_aug (i := 1) sccheckmany.nd rfl (.inl rfl) (pe_op op_add (pv 2) pe_int) ip_mul)))
      (pss_one (ps_if (pt_cmpR op_gt (pv 1) (pe_glob (v := .int 2000) rfl T.cMOSTSTARTS ⟨_, rfl⟩) (nomark _)) (pss_one (ps_raise rfl (takes_of rfl rfl rfl rfl) (pmk_oex T.oWide T.iWide T.tWide (okWideInit T) (hr.mono (by decide)) T.bWideInit .nil pass0 rfl T.mWide (pa_cons (pv 1) pa_nil)))) pss_nil)))), ?_⟩
    obtain ⟨dx, t, h1, h2⟩ := id hJ
    refine ⟨_, rfl, j, _, dx, _, _, rfl, h1, T.lJars, T.nJars_sizes, lk1, t, rfl, ⟨_, SqT.of h2⟩, ?_⟩
    refine for_tup (K := K) (a := t) (xs := vi caps) (fun i σ H' => ∃ v2 : Option V, σ = [some (.ref j), some (.int (prodN (caps.take i))), v2] ∧ Same H H') ⟨none, rfl, Same.refl _⟩ (fun i σ H' _ ⟨_, _, e⟩ => sameT e (SqT.of h2)) ?_ ?_
    · rintro i y σ H' hi ⟨v2, rfl, sm⟩
      obtain ⟨z, hz, rfl⟩ := vi_get hi
      have hz1 := hc z (List.mem_of_getElem? hz)
      refine ⟨_, rfl, _, rfl, _, _, rfl, rfl, _, _, rfl, rfl, .inr ⟨by omega, by omega⟩, some (.int z), ?_, sm⟩
      rw [take_snoc hz, prodN_snoc, Int.natCast_mul, ← toN hz1.1]
      rfl
    · rintro σ H' ⟨v2, rfl, sm⟩
      rw [show (vi caps).length = caps.length from List.length_map .., List.take_length]
      refine ⟨_, rfl, _, _, rfl, rfl, _, rfl, ifD (fun c => ?_) (fun c => ?_)⟩
      · have c : (2000 : Int) < (prodN caps : Nat) := c
        refine ⟨_, rfl, (by show 1 ≤ 1000; decide), x1_made fun H2 d hd s2 => hE (by omega) H2 d hd (sm.trans s2)⟩
      · have c : ¬ (2000 : Int) < (prodN caps : Nat) := c
        exact hq (by omega) H' sm
theorem okwholestarts (T : Tx K mg) : FnOk P w K mg base CX0 1 T.awholestarts T.dwholestarts ["jars"] (spwholestarts T) := by
  refine T.fwholestarts.ok scwholestarts (fun vs H Q E h => ?_) (fun cdv A outer s H vs Q E hr h => ?_)
  · obtain ⟨j, caps, rfl, _⟩ := h
    rfl
  · obtain ⟨j, caps, rfl, hJ, hc, c6, few, hq⟩ := h
    refine ⟨_, (pss_cons (ps_set (i := 1) scwholestarts.nd rfl (by first | exact Or.inl rfl | exact Or.inr rfl) (pe_lst (pa_cons (pe_tup pa_nil) pa_nil)))
      (pss_cons (ps_for PassesOwn.never rfl (pi_tup (pe_fld (pv 0) rfl)) (pg_name (i := 2) scwholestarts.nd rfl (by first | exact Or.inl rfl | exact Or.inr rfl)) (pss_one (ps_setLc2 (i := 1) (own := [("start", 3), ("number", 4)]) (vs1 := [4]) rfl scwholestarts.nd rfl rfl (sw_true rfl rfl rfl (by decide +kernel)) (pi_list (pv 1)) (blkOk_by (own := [("start", 3), ("number", 4)]) (N := ["jars", "found", "size", "start", "number"]) (sc := defScope swholestarts) (by decide +kernel)) (by decide) (fun _ _ _ _ _ => (pg_name (i := 3) scwholestarts.nd rfl (by first | exact Or.inl rfl | exact Or.inr rfl))) (fun _ _ _ _ _ => pts_nil) (fun _ _ _ _ _ => (pi_range1 rfl T.nrange (pa_cons (pe_op op_add (pv 2) pe_int) pa_nil))) (fun _ _ _ _ _ => (pg_name (i := 4) scwholestarts.nd rfl (by first | exact Or.inl rfl | exact Or.inr rfl))) (fun _ _ _ _ _ => pts_nil) (fun _ _ _ _ _ => (pe_op op_catS (pv 3) (pe_tup (pa_cons (pv 4) pa_nil)))))))
      (pss_one (ps_ret (pv 1))))), ?_⟩
    obtain ⟨dx, t, h1, h2⟩ := id hJ
    refine ⟨(by show 0 ≤ sizeLine; decide), fun t0 ht0 => ⟨(by show 1 ≤ sizeLine; decide), fun f0 hf0 => ?_⟩⟩
    have s1 := (same_new (o := .tup []) ht0).trans (same_new (o := .lst [V.ref t0]) hf0)
    refine ⟨_, rfl, j, _, dx, _, _, rfl, s1 _ _ h1, T.lJars, T.nJars_sizes, lk1, t, rfl, ⟨_, SqT.of (s1 _ _ h2)⟩, ?_⟩
    refine for_tup (K := K) (a := t) (xs := vi caps) (fun i σ H' => ∃ (f : Addr) (v2 v3 v4 : Option V) (ts : List V), σ = [some (.ref j), some (.ref f), v2, v3, v4] ∧ H f = none ∧ H' f = some (.lst ts) ∧ A2 (TupI H') ts (startsOf (caps.take i)) ∧ Same H H')
      ⟨f0, none, none, none, [.ref t0], rfl, (same_new (o := .tup []) ht0).free hf0, upd_same, ⟨⟨t0, rfl, same_new hf0 _ _ upd_same⟩, trivial⟩, s1⟩ (fun i σ H' _ ⟨_, _, _, _, _, _, _, _, _, e⟩ => sameT e (SqT.of h2)) ?_ ?_
    · rintro i y σ H0 hi ⟨f, v2, v3, v4, ts, rfl, f00, hf, hA, sm⟩
      obtain ⟨z, hz, rfl⟩ := vi_get hi
      have hz1 := hc z (List.mem_of_getElem? hz)
      have pl : (startsOf (caps.take i)).length * (z.toNat + 1) ≤ 2000 := by
        have := prodN_le caps (i + 1)
        rw [take_snoc hz, prodN_snoc, ← starts_len] at this
        omega
      have tl := hA.len
      have zl : z.toNat + 1 ≤ 2000 := by
        have : 1 ≤ (startsOf (caps.take i)).length := by
          rw [starts_len]
          have := prodN_le (caps.take i) 0
          simpa [prodN] using this
        exact Nat.le_trans (Nat.le_mul_of_pos_left _ this) pl
      refine ⟨_, rfl, f, rfl, ⟨_, SqL.of hf⟩, fun D hD => ?_⟩
      have s2 : Same H0 (upd H0 D (.lst [])) := same_new hD
      have lenF : ∀ i' : Nat, ((startsOf (caps.take i)).take i').length ≤ (startsOf (caps.take i)).length := fun i' => by rw [List.length_take]; omega
      refine ⟨fun i' m H' => m + i' = ts.length ∧ ∃ acc, H' D = some (.lst acc) ∧ A2 (TupI H') acc (stepS ((startsOf (caps.take i)).take i') z) ∧ Same H0 H', ⟨ts.length, rfl, [], upd_same, by simp [A2, stepS], s2⟩, ?_⟩
      rintro i' m H1 ⟨hm, acc, g1, g2, s3⟩
      by_cases lt : i' < ts.length
      · refine .inr ⟨⟨ts, ts[i'], SqL.of (s3 _ _ hf), List.getElem?_eq_getElem lt⟩, fun H' => ∃ acc, H' D = some (.lst acc) ∧ A2 (TupI H') acc (stepS ((startsOf (caps.take i)).take (i' + 1)) z) ∧ Same H0 H', fun G q => ⟨m - 1, by omega, by omega, q⟩, ?_⟩
        rintro x G ⟨rfl, y⟩
        obtain ⟨st, hst, hy⟩ := hA.get (y ts (SqL.of (s3 _ _ hf)))
        obtain ⟨q, rfl, hq1⟩ := hy.same s3
        refine ⟨rfl, _, rfl, _, _, rfl, rfl, _, rfl, by omega, by omega, ?_⟩
        have e1 : (z + 1).toNat = z.toNat + 1 := by omega
        rw [e1]
        refine ⟨fun j k H' => k + j = z.toNat + 1 ∧ ∃ acc, H' D = some (.lst acc) ∧ A2 (TupI H') acc (stepS ((startsOf (caps.take i)).take i') z ++ (List.range j).map fun m : Nat => st ++ [(m : Int)]) ∧ Same H0 H', ⟨z.toNat + 1, rfl, acc, g1, by simpa using g2, s3⟩, ?_⟩
        rintro j k H2 ⟨hk, acc2, k1, k2, s4⟩
        by_cases lt2 : j < z.toNat + 1
        · refine .inr ⟨lt2, fun H' => ∃ acc, H' D = some (.lst acc) ∧ A2 (TupI H') acc (stepS ((startsOf (caps.take i)).take i') z ++ (List.range (j + 1)).map fun m : Nat => st ++ [(m : Int)]) ∧ Same H0 H', fun G q => ⟨k - 1, by omega, by omega, q⟩, ?_⟩
          rintro x G ⟨rfl, rfl⟩
          refine ⟨rfl, ?_⟩
          have hq2 := (hy.same s4)
          obtain ⟨q', eq', hq2⟩ := hq2
          cases eq'
          refine ⟨_, rfl, _, rfl, (by show 1 ≤ sizeLine; decide), fun n1 hn1 => ?_⟩
          show _
          generalize hG__ : upd G n1 _ = H3
          have z1 : Same G H3 := by rw [← hG__]; exact same_new hn1
          have e3 : H3 n1 = some (.tup [V.int (0 + (j : Int))]) := by rw [← hG__]; exact upd_same
          clear hG__
          have al : acc2.length ≤ 2000 := by
            have l1 := k2.len
            rw [List.length_append, stepS_len, List.length_map, List.length_range] at l1
            have l2 : ((startsOf (caps.take i)).take i').length + 1 ≤ (startsOf (caps.take i)).length := by
              rw [List.length_take]
              omega
            have l3 := Nat.mul_le_mul_right (z.toNat + 1) l2
            rw [Nat.add_mul, Nat.one_mul] at l3
            omega
          have sl : st.length ≤ 6 := by
            rw [((mem_starts fun z hz => hc z (List.mem_of_mem_take hz)).mp (List.mem_of_getElem? hst)).1, List.length_take]
            omega
          refine ⟨q, n1, vi st, [V.int (0 + (j : Int))], rfl, rfl, z1 _ _ hq2, e3, Nat.le_trans (by simp [vi]; omega : (vi st).length + [V.int (0 + (j : Int))].length ≤ 2001) (by decide), fun tt G2 sG hG => ?_⟩
          have gD := (z1.trans sG) _ _ k1
          have fD : Fr D G2 (upd G2 D (.lst (acc2 ++ [V.ref tt]))) := fr_mut (Fr.refl _ _)
          refine ⟨acc2, gD, Nat.lt_of_le_of_lt al (by decide), acc2 ++ [.ref tt], upd_same, ?_, same_mut (s4.trans (z1.trans sG)) hD⟩
          rw [List.range_succ, List.map_append, ← List.append_assoc]
          exact A2.app (A2.mono (fun _ _ k => (k.same (z1.trans sG)).fr fD gD bl_l) k2) ⟨TupI.fr fD gD bl_l ⟨tt, rfl, by rw [hG, Int.zero_add]; simp [vi]⟩, trivial⟩
        · have ej : j = z.toNat + 1 := by omega
          subst ej
          refine .inl ⟨Nat.le_refl _, acc2, k1, ?_, s4⟩
          rw [take_snoc hst]
          unfold stepS at k2 ⊢
          rw [List.flatMap_append]
          simpa using k2
      · have e : i' = ts.length := by omega
        subst e
        refine .inl ⟨⟨ts, SqL.of (s3 _ _ hf), Nat.le_refl _⟩, ?_⟩
        rw [tl, List.take_length] at g2
        refine ⟨D, _, _, _, acc, rfl, sm.free hD, g1, ?_, sm.trans s3⟩
        rw [take_snoc hz, startsOf_snoc]
        exact g2
    · rintro σ H' ⟨f, v2, v3, v4, ts, rfl, f00, hf, hA, sm⟩
      rw [show (vi caps).length = caps.length from List.length_map .., List.take_length] at hA
      exact ⟨_, rfl, hq H' f ts f00 hf hA sm⟩
end
end Kp

namespace Kp
open PySem PySem.Spec PyProof.Rows L2 KpR
def entF (e : List Int × Addr) : List L2.Key × V := (keyI e.1, .ref e.2)
theorem valF_at {x : List Int} {q : Addr} : ∀ {es : List (List Int × Addr)}, (es.map Prod.fst).Nodup → (x, q) ∈ es → valV (es.map entF) (keyI x) = some (.ref q)
  | e :: r, nd, h => by
    have h1 := List.nodup_cons.mp nd
    rcases List.mem_cons.mp h with k | k
    · rw [← k]
      exact valV_pos rfl
    · have ne : ¬ keyI e.1 = keyI x := fun z => h1.1 (by rw [key_inj z]; exact List.mem_map.mpr ⟨_, k, rfl⟩)
      rw [List.map_cons, valV_neg ne]
      exact valF_at h1.2 k
theorem valF_no {x : List Int} : ∀ {es : List (List Int × Addr)}, x ∉ es.map Prod.fst → valV (es.map entF) (keyI x) = none
  | [], _ => rfl
  | e :: r, h => by
    have ne : ¬ keyI e.1 = keyI x := fun z => h (by rw [← key_inj z]; exact List.mem_cons_self ..)
    rw [List.map_cons, valV_neg ne]
    exact valF_no fun z => h (List.mem_cons_of_mem _ z)
theorem putF_new {x : List Int} {q : Addr} {es : List (List Int × Addr)} (h : x ∉ es.map Prod.fst) : putK (es.map entF) (keyI x) (.ref q) = (es ++ [(x, q)]).map entF := by
  unfold putK
  rw [valV_any, valF_no h, if_neg (by simp), List.map_append]
  rfl
/-- a dict of stands' tails and rings -/
structure FatesAt (f : List Int → List Int) (H : Hp) (F : Addr) (es : List (List Int × Addr)) : Prop where
  at_ : H F = some (.dT (es.map entF))
  nd : (es.map Prod.fst).Nodup
  ok : ∀ e ∈ es, ∃ t n : Nat, H e.2 = some (.tup [.int t, .int n]) ∧ Fate f e.1 t n
def Kt (H H' : Hp) : Prop := ∀ b xs, H b = some (.tup xs) → H' b = some (.tup xs)
theorem Kt.refl (H : Hp) : Kt H H := fun _ _ h => h
theorem Kt.trans {H H1 H2 : Hp} (a : Kt H H1) (b : Kt H1 H2) : Kt H H2 := fun c xs h => b c xs (a c xs h)
theorem Kt.same {H H' : Hp} (e : Same H H') : Kt H H' := fun b xs h => e b _ h
theorem Kt.upd {H : Hp} {w : Addr} {u o : HO} (h : H w = some u) (n : ∀ xs, u ≠ .tup xs) : Kt H (upd H w o) := fun b xs e => by
  have ne : b ≠ w := fun z => by rw [z, h] at e; exact n xs (Option.some.inj e)
  rw [upd_ne ne]
  exact e
theorem FatesAt.keep {f : List Int → List Int} {H H' : Hp} {F : Addr} {es : List (List Int × Addr)} (h : FatesAt f H F es) (k : Kt H H') (e : H' F = H F) : FatesAt f H' F es :=
  ⟨e.trans h.at_, h.nd, fun z hz => let ⟨t, n, h1, h2⟩ := h.ok z hz; ⟨t, n, k _ _ h1, h2⟩⟩
theorem FatesAt.kt {f : List Int → List Int} {H : Hp} {F : Addr} {es : List (List Int × Addr)} (h : FatesAt f H F es) {o : HO} : Kt H (upd H F o) := Kt.upd h.at_ fun _ z => by cases z
theorem FatesAt.put {f : List Int → List Int} {H : Hp} {F b q : Addr} {es : List (List Int × Addr)} {x : List Int} {t n : Nat} (h : FatesAt f H F es) (hx : x ∉ es.map Prod.fst) (hb : H b = some (.tup (vi x))) (hq : H q = some (.tup [.int t, .int n])) (ft : Fate f x t n) (few : es.length < 5000) :
    DPut H F (.ref b) (.ref q) (upd H F (.dT ((es ++ [(x, q)]).map entF))) ∧ FatesAt f (upd H F (.dT ((es ++ [(x, q)]).map entF))) F (es ++ [(x, q)]) := by
  refine ⟨?_, upd_same, ?_, fun e he => ?_⟩
  · rw [← putF_new hx]
    exact DPut.t h.at_ (by rw [key_vi]; exact hb) (Nat.lt_of_lt_of_le (by rw [List.length_map]; exact few) (by decide))
  · rw [List.map_append, List.nodup_append]
    exact ⟨h.nd, by simp, fun a ha b hb e => hx (by
      have : b = x := by simpa using hb
      rw [← this, ← e]
      exact ha)⟩
  · rcases List.mem_append.mp he with k | k
    · obtain ⟨t', n', h1, h2⟩ := h.ok e k
      exact ⟨t', n', h.kt _ _ h1, h2⟩
    · obtain rfl : e = (x, q) := by simpa using k
      exact ⟨t, n, h.kt _ _ hq, ft⟩
theorem FatesAt.get {f : List Int → List Int} {H : Hp} {F : Addr} {es : List (List Int × Addr)} {x : List Int} (h : FatesAt f H F es) (hx : x ∈ es.map Prod.fst) : ∃ q t n, valV (es.map entF) (keyI x) = some (.ref q) ∧ H q = some (.tup [.int (t : Nat), .int (n : Nat)]) ∧ Fate f x t n := by
  obtain ⟨⟨y, q⟩, he, rfl⟩ := List.mem_map.mp hx
  obtain ⟨t, n, h1, h2⟩ := h.ok _ he
  exact ⟨q, t, n, valF_at h.nd he, h1, h2⟩
theorem clo_it {f : List Int → List Int} {S : List (List Int)} (h : ∀ x ∈ S, f x ∈ S) {x : List Int} (hx : x ∈ S) : ∀ k, it f k x ∈ S
  | 0 => hx
  | k + 1 => by
    rw [it_succ]
    exact clo_it h (h x hx) k
theorem it_out {α : Type} {f : α → α} {x : α} {k : Nat} : it f (k + 1) x = f (it f k x) := it_add (f := f) (x := x) (m := k) 1
theorem cut_drop {xs : List V} {n : Nat} (h : n ≤ xs.length) : cutV xs (some (n : Int)) none = xs.drop n := by
  unfold cutV
  rw [HT.sIx_nat]
  rw [HT.sIx_none, Nat.min_eq_left h]
  exact List.take_of_length_le (by rw [List.length_drop]; exact Nat.le_refl _)
theorem orb_nodup {f : List Int → List Int} {x : List Int} {m : Nat} (h : ∀ i j, i < j → j < m → it f i x ≠ it f j x) : (orb f x m).Nodup := by
  unfold orb List.Nodup
  rw [List.pairwise_map]
  refine List.Pairwise.imp_of_mem ?_ List.pairwise_lt_range
  intro i j hi hj hij e
  exact h i j hij (List.mem_range.mp hj) e
/-- what stays while the dict at F is filled, the dict at a locked -/
structure FB (f : List Int → List Int) (a F : Addr) (u : HO) (H H' : Hp) (es : List (List Int × Addr)) : Prop where
  ft : FatesAt f H' F es
  la : H' a = some u
  kt : Kt H H'
  fr : ∀ b o, b ≠ a → H b = some o → H' b = some o
theorem FB.new {f : List Int → List Int} {a F r : Addr} {u o : HO} {H H' : Hp} {es : List (List Int × Addr)} (h : FB f a F u H H' es) (hr : H' r = none) : FB f a F u H (upd H' r o) es :=
  ⟨h.ft.keep (Kt.same (same_new hr)) (upd_ne (ne_of_none h.ft.at_ hr)), same_new hr _ _ h.la, h.kt.trans (Kt.same (same_new hr)), fun b o n e => same_new hr _ _ (h.fr b o n e)⟩
theorem FB.mut {f : List Int → List Int} {a F r : Addr} {u u' o : HO} {H H' : Hp} {es : List (List Int × Addr)} (h : FB f a F u H H' es) (h0 : H r = none) (rF : F ≠ r) (ra : a ≠ r) (hr : H' r = some u') (nt : ∀ xs, u' ≠ .tup xs) : FB f a F u H (upd H' r o) es :=
  ⟨h.ft.keep (Kt.upd hr nt) (upd_ne rF), by rw [upd_ne ra]; exact h.la, h.kt.trans (Kt.upd hr nt), fun b o n e => by
    have ne : b ≠ r := ne_of_none e h0
    rw [upd_ne ne]
    exact h.fr b o n e⟩
theorem FB.put {f : List Int → List Int} {a F b q : Addr} {u : HO} {H H' : Hp} {es : List (List Int × Addr)} {x : List Int} {t n : Nat} (h : FB f a F u H H' es) (hF : H F = none) (aF : a ≠ F) (hx : x ∉ es.map Prod.fst) (hb : H' b = some (.tup (vi x))) (hq : H' q = some (.tup [.int t, .int n])) (ft : Fate f x t n) (few : es.length < 5000) :
    DPut H' F (.ref b) (.ref q) (upd H' F (.dT ((es ++ [(x, q)]).map entF))) ∧ FB f a F u H (upd H' F (.dT ((es ++ [(x, q)]).map entF))) (es ++ [(x, q)]) := by
  obtain ⟨p1, p2⟩ := h.ft.put hx hb hq ft few
  exact ⟨p1, p2, by rw [upd_ne aF]; exact h.la, h.kt.trans h.ft.kt, fun c o n e => by
    have ne : c ≠ F := ne_of_none e hF
    rw [upd_ne ne]
    exact h.fr c o n e⟩
section
variable {K : PySem.W.Frag} {mg : Str → Option Value}
def spfatesof (T : Tx K mg) : Sp := fun vs H Q _ => ∃ (a : Addr) (f : List Int → List Int) (es0 : List (List Int × Addr)), vs = [.ref a] ∧ H a = some (.dT (es0.map entF)) ∧ (∀ e ∈ es0, H e.2 = some (.tup (vi (f e.1)))) ∧ (es0.map Prod.fst).Nodup ∧ (∀ x ∈ es0.map Prod.fst, f x ∈ es0.map Prod.fst) ∧ es0.length ≤ 2000 ∧
  ∀ (H' : Hp) (F : Addr) (es : List (List Int × Addr)), H F = none → FatesAt f H' F es → (∀ x ∈ es0.map Prod.fst, x ∈ es.map Prod.fst) → Same H H' → Q (.ref F) H'
end
section
variable {P : Program} {w : World} {K : PySem.W.Frag} {mg : Str → Option Value} {base : Heap}
theorem okfatesof (T : Tx K mg) : FnOk P w K mg base CX0 1 T.afatesof T.dfatesof ["after"] (spfatesof T) := by
  refine T.ffatesof.ok scfatesof (fun vs H Q E h => ?_) (fun cdv A outer s H vs Q E hr h => ?_)
  · obtain ⟨a, f, es0, rfl, _⟩ := h
    rfl
  · obtain ⟨a, f, es0, rfl, ha, hv, nd0, clo0, few, hq⟩ := h
    refine ⟨_, (pss_cons (ps_set (i := 1) scfatesof.nd rfl (by first | exact Or.inl rfl | exact Or.inr rfl) pe_dnewT)
      (pss_cons (ps_lock (ps_for PassesOwn.never rfl (pi_keys (pv 0)) (pg_name (i := 2) scfatesof.nd rfl (by first | exact Or.inl rfl | exact Or.inr rfl)) (pss_cons (ps_set (i := 3) scfatesof.nd rfl (by first | exact Or.inl rfl | exact Or.inr rfl) (pe_lst pa_nil))
      (pss_cons (ps_set (i := 4) scfatesof.nd rfl (by first | exact Or.inl rfl | exact Or.inr rfl) pe_dnewT)
      (pss_cons (ps_set (i := 5) scfatesof.nd rfl (by first | exact Or.inl rfl | exact Or.inr rfl) (pv 2))
      (pss_cons (ps_while PassesOwn.never (PW.pt (pw_and (pt_cmp (pc_dnotin (hu_of hr) (pv 5) (pv 1)) (by rfl)) (pw_and1 (pt_cmp (pc_dnotin (hu_of hr) (pv 5) (pv 4)) (by rfl))))) (pss_cons (ps_dput (hu_of hr) (pv 4) (pv 5) (pe_callB call_len_seq rfl T.nlen PySem.boot_len (pa_cons (pv 3) pa_nil)) rfl)
      (pss_cons (ps_expr (pe_bm PySem.F.plainAttrs_list PySem.F.slot_list_append PySem.F.type_list_append mt_append (pv 3) (pa_cons (pv 5) pa_nil)))
      (pss_one (ps_set (i := 5) scfatesof.nd rfl (by first | exact Or.inl rfl | exact Or.inr rfl) (pe_dget (hu_of hr) (pv 0) (pv 5) (fun _ _ => rfl)))))))
      (C8.pss_cut (ps_if (pt_cmp (pc_din (hu_of hr) (pv 5) (pv 4)) (by rfl)) (pss_cons (ps_set (i := 6) scfatesof.nd rfl (by first | exact Or.inl rfl | exact Or.inr rfl) (pe_op op_sub (pe_callB call_len_seq rfl T.nlen PySem.boot_len (pa_cons (pv 3) pa_nil)) (pe_dget (hu_of hr) (pv 4) (pv 5) (fun _ _ => rfl))))
      (pss_one (ps_for PassesOwn.never rfl (pi_list (pe_slice sl_list (pv 3) (po_some (pe_dget (hu_of hr) (pv 4) (pv 5) (fun _ _ => rfl))) po_none)) (pg_name (i := 7) scfatesof.nd rfl (by first | exact Or.inl rfl | exact Or.inr rfl)) (pss_one (ps_dput (hu_of hr) (pv 1) (pv 7) (pe_tup (pa_cons pe_int (pa_cons (pv 6) pa_nil))) rfl))))) pss_nil)
      (pss_one (ps_for PassesOwn.never rfl (pi_reversed rfl T.nreversed (pa_cons (pv 3) pa_nil)) (pg_name (i := 7) scfatesof.nd rfl (by first | exact Or.inl rfl | exact Or.inr rfl)) (pss_one (ps_if (pt_cmp (pc_dnotin (hu_of hr) (pv 7) (pv 1)) (by rfl)) (pss_cons (ps_asg (pe_dget (hu_of hr) (pv 1) (pe_dget (hu_of hr) (pv 0) (pv 7) (fun _ _ => rfl)) (fun _ _ => rfl)) (pg_tup rfl (pgs_cons (pg_name (i := 8) scfatesof.nd rfl (by first | exact Or.inl rfl | exact Or.inr rfl)) (pgs_cons (pg_name (i := 6) scfatesof.nd rfl (by first | exact Or.inl rfl | exact Or.inr rfl)) pgs_nil))))
      (pss_one (ps_dput (hu_of hr) (pv 1) (pv 7) (pe_tup (pa_cons (pe_op op_add (pv 8) pe_int) (pa_cons (pv 6) pa_nil))) rfl))) pss_nil)))))))))))
      (pss_one (ps_ret (pv 1))))), ?_⟩
    generalize hL : es0.map Prod.fst = L at nd0 clo0 hq
    have lenL : L.length = es0.length := by rw [← hL, List.length_map]
    refine fun F hF => ?_
    have aF : a ≠ F := ne_of_none ha hF
    have s0 := same_new (o := .dT []) hF
    have e0 : (upd H F (.dT [])) F = some (.dT []) := upd_same
    generalize upd H F (.dT []) = H1 at s0 e0 ⊢
    refine ⟨a, _, s0 _ _ ha, trivial, fun od => ?_⟩
    have after : ∀ (H' : Hp) (b : Addr) (x : List Int), H' a = some (.frz od (.dT (es0.map entF))) → Kt H H' → H' b = some (.tup (vi x)) → x ∈ L → ∃ q, DGet H' a (.ref b) (some (.ref q)) ∧ H' q = some (.tup (vi (f x))) := fun H' b x h1 k h2 hx => by
      rw [← hL] at hx
      obtain ⟨⟨y, q⟩, he, rfl⟩ := List.mem_map.mp hx
      exact ⟨q, .inr ⟨_, keyI y, b, .inr ⟨_, h1⟩, rfl, by rw [key_vi]; exact h2, (valF_at (by rw [hL]; exact nd0) he).symm⟩, k _ _ (hv _ he)⟩
    refine ⟨_, rfl, a, od, rfl, .inr ⟨_, upd_same, ?_⟩⟩
    refine for_keysT (Pv := fun i σ H' => ∃ (v2 v3 v4 v5 v6 v7 v8 : Option V) (es : List (List Int × Addr)), σ = [some (.ref a), some (.ref F), v2, v3, v4, v5, v6, v7, v8] ∧ FatesAt f H' F es ∧ (∀ x ∈ es.map Prod.fst, f x ∈ es.map Prod.fst) ∧ (∀ x ∈ es.map Prod.fst, x ∈ L) ∧ (∀ x ∈ L.take i, x ∈ es.map Prod.fst) ∧ H' a = some (.frz od (.dT (es0.map entF))) ∧ Kt H H' ∧ (∀ b o, b ≠ a → H b = some o → H' b = some o))
      ⟨none, none, none, none, none, none, none, [], rfl, ⟨by rw [upd_ne aF.symm]; exact e0, by simp, fun e h => by cases h⟩, (fun x h => by cases h), (fun x h => by cases h), (fun x h => by simp at h), upd_same, (Kt.same s0).trans (Kt.upd (s0 _ _ ha) fun _ z => by cases z), fun b o n e => by rw [upd_ne n]; exact s0 _ _ e⟩ (fun i σ H' _ ⟨_, _, _, _, _, _, _, _, _, _, _, _, _, h, _⟩ => h) ?_ ?_
    · rintro i k v q σ H0 hik hq0 ⟨v2, v3, v4, v5, v6, v7, v8, es, rfl, hFt, clo, sub, done, hla, kt0, fr0⟩
      obtain ⟨x, hx, rfl⟩ : ∃ x, L[i]? = some x ∧ k = keyI x := by
        rw [List.getElem?_map] at hik
        cases e : es0[i]? with
        | none => rw [e] at hik; cases hik
        | some z =>
          rw [e] at hik
          refine ⟨z.1, by rw [← hL, List.getElem?_map, e]; rfl, ?_⟩
          have := Option.some.inj hik
          exact (congrArg Prod.fst this).symm
      rw [key_vi] at hq0
      have xL := List.mem_of_getElem? hx
      have B0 : FB f a F (.frz od (.dT (es0.map entF))) H H0 es := ⟨hFt, hla, kt0, fr0⟩
      have new0 : ∀ r, r ≠ a → H0 r = none → H r = none := fun r n e => by
        cases z : H r with
        | none => rfl
        | some o => rw [fr0 r o n z] at e; cases e
      clear hFt kt0 fr0
      refine ⟨(by show 0 ≤ sizeLine; decide), fun p hp => ?_⟩
      have pa : a ≠ p := ne_of_none hla hp
      have pF : F ≠ p := ne_of_none B0.ft.at_ hp
      have p0 : H p = none := new0 p pa.symm hp
      have B1 := B0.new (o := .lst []) hp
      have q1 : (upd H0 p (.lst [])) q = some (.tup (vi x)) := same_new hp _ _ hq0
      have p1 : (upd H0 p (.lst [])) p = some (.lst []) := upd_same
      have n1 : ∀ r, r ≠ a → (upd H0 p (.lst [])) r = none → H r = none := fun r n e => new0 r n ((same_new hp).free e)
      generalize upd H0 p (.lst []) = G1 at B1 q1 p1 n1 ⊢
      refine fun pl hpl => ?_
      have la : a ≠ pl := ne_of_none B1.la hpl
      have lF : F ≠ pl := ne_of_none B1.ft.at_ hpl
      have lp : p ≠ pl := ne_of_none p1 hpl
      have l0 : H pl = none := n1 pl la.symm hpl
      have B2 := B1.new (o := .dT []) hpl
      have q2 : (upd G1 pl (.dT [])) q = some (.tup (vi x)) := same_new hpl _ _ q1
      have p2 : (upd G1 pl (.dT [])) p = some (.lst []) := same_new hpl _ _ p1
      have l2 : (upd G1 pl (.dT [])) pl = some (.dT (seenAt f x 0)) := upd_same
      generalize upd G1 pl (.dT []) = G2 at B2 q2 p2 l2 ⊢
      refine ⟨_, rfl, ?_⟩
      refine ⟨fun kk σ H' => ∃ (m : Nat) (b : Addr) (us : List V) (v6 v7 v8 : Option V), σ = [some (.ref a), some (.ref F), some (.ref q), some (.ref p), some (.ref pl), some (.ref b), v6, v7, v8] ∧ kk = L.length + 1 - m ∧ H' b = some (.tup (vi (it f m x))) ∧ H' p = some (.lst us) ∧ A2 (TupI H') us (orb f x m) ∧ H' pl = some (.dT (seenAt f x m)) ∧ FB f a F (.frz od (.dT (es0.map entF))) H H' es ∧
        (∀ i j, i < j → j < m → it f i x ≠ it f j x) ∧ (∀ i, i < m → it f i x ∉ es.map Prod.fst), ⟨_, 0, q, [], v6, v7, v8, rfl, rfl, q2, p2, trivial, l2, B2, fun i j _ h => absurd h (Nat.not_lt_zero _), fun i h => absurd h (Nat.not_lt_zero _)⟩, ?_⟩
      clear B0 B1 B2 q1 p1 q2 p2 l2 hp hpl n1
      rintro kk σ G ⟨m, b, us, v6, v7, v8, rfl, rfl, hb, hus, hA, hpl, B, dist, out⟩
      have inL : ∀ k, it f k x ∈ L := fun k => clo_it clo0 xL k
      have mL : m ≤ L.length := by
        have := nodup_le _ _ (orb_nodup dist) (fun y hy => by obtain ⟨k, _, rfl⟩ := orb_mem.mp hy; exact inL k)
        rwa [orb_len] at this
      have ul := hA.len
      rw [orb_len] at ul
      have gF : DGet G F (.ref b) (valV (es.map entF) (keyI (it f m x))) := DGet.t B.ft.at_ (by rw [key_vi]; exact hb)
      have gP : DGet G pl (.ref b) (valV (seenAt f x m) (keyI (it f m x))) := DGet.t hpl (by rw [key_vi]; exact hb)
      refine ⟨_, rfl, _, rfl, F, _, rfl, gF, _, rfl, ?_⟩
      by_cases hk : it f m x ∈ es.map Prod.fst
      · obtain ⟨qk, tk, nk, hvk, _, _⟩ := B.ft.get hk
        refine ifF (by rw [hvk]; rfl) ?_
        refine ⟨fun σ' H' => ∃ (us1 : List V) (v6 v7 v8 : Option V) (es' : List (List Int × Addr)), σ' = [some (.ref a), some (.ref F), some (.ref q), some (.ref p), some (.ref pl), some (.ref b), v6, v7, v8] ∧ H' p = some (.lst us1) ∧ A2 (TupI H') us1 (orb f x m) ∧ FB f a F (.frz od (.dT (es0.map entF))) H H' es' ∧ (∀ y ∈ es'.map Prod.fst, f y ∈ es'.map Prod.fst) ∧ (∀ y ∈ es'.map Prod.fst, y ∈ L) ∧ (∀ y ∈ es.map Prod.fst, y ∈ es'.map Prod.fst) ∧ it f m x ∈ es'.map Prod.fst, ?_, ?_⟩
        · have nop : valV (seenAt f x m) (keyI (it f m x)) = none := seen_none fun i hi e => out i hi (by rw [e]; exact hk)
          refine ⟨_, rfl, _, rfl, pl, _, rfl, gP, _, rfl, ifF (by rw [nop]; rfl) ?_⟩
          exact ⟨us, _, _, _, es, rfl, hus, hA, B, clo, sub, fun y h => h, hk⟩
        · rintro σ' G1 ⟨us1, v6', v7', v8', es', rfl, hus1, hA1, B1, clo1, sub1, inc1, hm1⟩
          have ul1 := hA1.len
          rw [orb_len] at ul1
          refine ⟨_, rfl, p, us1, rfl, SqL.of hus1, ?_⟩
          refine for_rev (Pv := fun j σ H' => ∃ (v6 v7 v8 : Option V) (es2 : List (List Int × Addr)), σ = [some (.ref a), some (.ref F), some (.ref q), some (.ref p), some (.ref pl), some (.ref b), v6, v7, v8] ∧ H' p = some (.lst us1) ∧ A2 (TupI H') us1 (orb f x m) ∧ FB f a F (.frz od (.dT (es0.map entF))) H H' es2 ∧ (∀ y ∈ es2.map Prod.fst, f y ∈ es2.map Prod.fst) ∧ (∀ y ∈ es2.map Prod.fst, y ∈ L) ∧ (∀ y ∈ es.map Prod.fst, y ∈ es2.map Prod.fst) ∧ (∀ k, m - j ≤ k → k ≤ m → it f k x ∈ es2.map Prod.fst))
            ⟨v6', v7', v8', es', rfl, hus1, hA1, B1, clo1, sub1, inc1, fun k h1 h2 => by rw [show k = m by omega]; exact hm1⟩ (fun j σ H' _ ⟨_, _, _, _, _, h, _⟩ => SqL.of h) ?_ ?_
          · rintro j y σ G2 hj hy ⟨w6, w7, w8, es2, rfl, hus2, hA2, B2, clo2, sub2, inc2, kn2⟩
            have jm : j < m := by omega
            have ek : us1.length - 1 - j = m - 1 - j := by omega
            rw [ek] at hy
            obtain ⟨z, hz, hyz⟩ := hA2.get hy
            rw [orb_at (by omega)] at hz
            cases hz
            obtain ⟨c, rfl, hc⟩ := hyz
            have nx2 : it f (m - 1 - j + 1) x ∈ es2.map Prod.fst := kn2 _ (by omega) (by omega)
            rw [it_out] at nx2
            have gF2 : DGet G2 F (.ref c) (valV (es2.map entF) (keyI (it f (m - 1 - j) x))) := DGet.t B2.ft.at_ (by rw [key_vi]; exact hc)
            refine ⟨_, rfl, _, rfl, F, _, rfl, gF2, _, rfl, ?_⟩
            by_cases hk2 : it f (m - 1 - j) x ∈ es2.map Prod.fst
            · obtain ⟨q2, t2, n2, hv2, _, _⟩ := B2.ft.get hk2
              refine ifF (by rw [hv2]; rfl) ?_
              refine ⟨_, _, _, es2, rfl, hus2, hA2, B2, clo2, sub2, inc2, fun k h1 h2 => ?_⟩
              by_cases e : k = m - 1 - j
              · rw [e]; exact hk2
              · exact kn2 k (by omega) h2
            · refine ifT (by rw [valF_no hk2]; rfl) ?_
              obtain ⟨qa, gA, hqa⟩ := after G2 c _ B2.la B2.kt hc (inL (m - 1 - j))
              obtain ⟨q2, t2, n2, hv2, hq2, ft2⟩ := B2.ft.get nx2
              have gF3 : DGet G2 F (.ref qa) (some (.ref q2)) := by
                rw [← hv2]
                exact DGet.t B2.ft.at_ (by rw [key_vi]; exact hqa)
              refine ⟨_, rfl, _, rfl, _, rfl, a, _, rfl, gA, F, _, rfl, gF3, q2, _, rfl, SqT.of hq2, rfl, _, _, rfl, _, _, rfl, rfl, ?_⟩
              refine ⟨_, rfl, _, _, rfl, rfl, _, rfl, (by show 2 ≤ sizeLine; decide), fun tn htn => ?_⟩
              have B3 := B2.new (o := .tup [.int ((t2 : Int) + 1), .int (n2 : Int)]) htn
              have c3 := same_new (o := .tup [.int ((t2 : Int) + 1), .int (n2 : Int)]) htn _ _ hc
              have u3 := same_new (o := .tup [.int ((t2 : Int) + 1), .int (n2 : Int)]) htn _ _ hus2
              have A3 := A2.mono (fun _ _ k => TupI.same (same_new (o := .tup [.int ((t2 : Int) + 1), .int (n2 : Int)]) htn) k) hA2
              have t3 : (upd G2 tn (.tup [.int ((t2 : Int) + 1), .int (n2 : Int)])) tn = some (.tup [.int ((t2 + 1 : Nat) : Int), .int (n2 : Int)]) := upd_same
              show _
              generalize hG3 : upd G2 tn _ = G3
              have B3 : FB f a F (.frz od (.dT (es0.map entF))) H G3 es2 := by rw [← hG3]; exact B3
              have c3 : G3 c = some (.tup (vi (it f (m - 1 - j) x))) := by rw [← hG3]; exact c3
              have u3 : G3 p = some (.lst us1) := by rw [← hG3]; exact u3
              have A3 : A2 (TupI G3) us1 (orb f x m) := by rw [← hG3]; exact A3
              have t3 : G3 tn = some (.tup [.int ((t2 + 1 : Nat) : Int), .int (n2 : Int)]) := by rw [← hG3]; exact t3
              clear hG3
              have fy : Fate f (it f (m - 1 - j) x) (t2 + 1) n2 := ft2.pred fun k e => hk2 (by rw [← e]; exact clo_it clo2 nx2 k)
              have few2 : es2.length < 5000 := by
                have := nodup_le _ _ B2.ft.nd sub2
                rw [List.length_map] at this
                omega
              obtain ⟨d1, B4⟩ := B3.put hF aF hk2 c3 t3 fy few2
              refine ⟨_, rfl, _, rfl, F, _, rfl, d1, ?_⟩
              have mm : ∀ y, y ∈ (es2 ++ [(it f (m - 1 - j) x, tn)]).map Prod.fst ↔ y ∈ es2.map Prod.fst ∨ y = it f (m - 1 - j) x := fun y => by simp
              refine ⟨_, _, _, es2 ++ [(it f (m - 1 - j) x, tn)], rfl, by rw [upd_ne pF.symm]; exact u3, A2.mono (fun _ _ k => ?_) A3, B4, fun y hy => ?_, fun y hy => ?_, fun y hy => (mm y).mpr (.inl (inc2 y hy)), fun k h1 h2 => ?_⟩
              · obtain ⟨z, rfl, hz⟩ := k
                exact ⟨z, rfl, B3.ft.kt _ _ hz⟩
              · rcases (mm y).mp hy with h | rfl
                · exact (mm _).mpr (.inl (clo2 y h))
                · exact (mm _).mpr (.inl nx2)
              · rcases (mm y).mp hy with h | rfl
                · exact sub2 y h
                · exact inL _
              · by_cases e : k = m - 1 - j
                · rw [e]; exact (mm _).mpr (.inr rfl)
                · exact (mm _).mpr (.inl (kn2 k (by omega) h2))
          · rintro σ G2 ⟨w6, w7, w8, es2, rfl, hus2, hA2, B2, clo2, sub2, inc2, kn2⟩
            rw [ul1] at kn2
            refine ⟨_, _, _, _, _, _, _, es2, rfl, B2.ft, clo2, sub2, fun y hy => ?_, B2.la, B2.kt, B2.fr⟩
            rw [List.take_add_one, hx] at hy
            rcases List.mem_append.mp hy with h | h
            · exact inc2 y (done y h)
            · obtain rfl : y = x := by simpa using h
              exact kn2 0 (by omega) (Nat.zero_le _)
      · refine ifT (by rw [valF_no hk]; rfl) ?_
        refine ⟨_, rfl, _, rfl, pl, _, rfl, gP, _, rfl, ?_⟩
        by_cases hp0 : ∃ p0, p0 < m ∧ it f p0 x = it f m x
        · obtain ⟨p0, p0m, ep0⟩ := hp0
          have sm : valV (seenAt f x m) (keyI (it f m x)) = some (.int p0) := by rw [← ep0]; exact seen_some p0m dist
          rw [sm] at gP ⊢
          refine ifF rfl ?_
          refine ⟨fun σ' H' => ∃ (us1 : List V) (v6 v7 v8 : Option V) (es' : List (List Int × Addr)), σ' = [some (.ref a), some (.ref F), some (.ref q), some (.ref p), some (.ref pl), some (.ref b), v6, v7, v8] ∧ H' p = some (.lst us1) ∧ A2 (TupI H') us1 (orb f x m) ∧ FB f a F (.frz od (.dT (es0.map entF))) H H' es' ∧ (∀ y ∈ es'.map Prod.fst, f y ∈ es'.map Prod.fst) ∧ (∀ y ∈ es'.map Prod.fst, y ∈ L) ∧ (∀ y ∈ es.map Prod.fst, y ∈ es'.map Prod.fst) ∧ it f m x ∈ es'.map Prod.fst, ?_, ?_⟩
          · refine ⟨_, rfl, _, rfl, pl, _, rfl, gP, _, rfl, ifT rfl ?_⟩
            refine ⟨_, rfl, p, _, rfl, .inl (SqL.of hus), _, rfl, _, rfl, pl, _, rfl, gP, _, _, rfl, rfl, ?_⟩
            refine ⟨_, rfl, _, rfl, _, rfl, pl, _, rfl, gP, _, rfl, p, us, rfl, SqL.of hus, fun sl hsl => ?_⟩
            rw [cut_drop (by omega)]
            have F0 : Fate f x p0 (m - p0) := ⟨by omega, by rw [show p0 + (m - p0) = m by omega]; exact ep0.symm, fun i j h1 h2 => dist i j h1 (by omega)⟩
            have er : ((us.length : Int) - (p0 : Int)) = ((m - p0 : Nat) : Int) := by omega
            have B1 := B.new (o := .lst (us.drop p0)) hsl
            have us1' := same_new (o := .lst (us.drop p0)) hsl _ _ hus
            have A1' := A2.mono (fun _ _ k => TupI.same (same_new (o := .lst (us.drop p0)) hsl) k) hA
            have sl1 : (upd G sl (.lst (us.drop p0))) sl = some (.lst (us.drop p0)) := upd_same
            have slF : F ≠ sl := ne_of_none B.ft.at_ hsl
            generalize upd G sl (.lst (us.drop p0)) = G1 at B1 us1' A1' sl1 ⊢
            refine ⟨sl, rfl, ⟨_, SqL.of sl1⟩, ?_⟩
            refine for_list (K := K) (a := sl) (xs := us.drop p0) (fun j σ H' => ∃ (v7 v8 : Option V) (es' : List (List Int × Addr)), σ = [some (.ref a), some (.ref F), some (.ref q), some (.ref p), some (.ref pl), some (.ref b), some (.int ((us.length : Int) - (p0 : Int))), v7, v8] ∧ H' p = some (.lst us) ∧ H' sl = some (.lst (us.drop p0)) ∧ A2 (TupI H') us (orb f x m) ∧ FB f a F (.frz od (.dT (es0.map entF))) H H' es' ∧ (∀ y, y ∈ es'.map Prod.fst ↔ y ∈ es.map Prod.fst ∨ ∃ k, p0 ≤ k ∧ k < p0 + j ∧ it f k x = y))
              ⟨_, _, es, rfl, us1', sl1, A1', B1, fun y => ⟨.inl, fun h => h.elim id fun ⟨k, h1, h2, _⟩ => absurd h2 (by omega)⟩⟩ (fun j σ H' _ ⟨_, _, _, _, _, h, _⟩ => SqL.of h) ?_ ?_
            · rintro j y σ G2 hj ⟨w7, w8, es', rfl, hp2, hs2, hA2, B2, kn2⟩
              rw [List.getElem?_drop] at hj
              obtain ⟨z, hz, hyz⟩ := hA2.get hj
              have jm : p0 + j < m := by
                have := (List.getElem?_eq_some_iff.mp hj).1
                omega
              rw [orb_at jm] at hz
              cases hz
              obtain ⟨c, rfl, hc⟩ := hyz
              refine ⟨_, rfl, (by show 2 ≤ sizeLine; decide), fun tn htn => ?_⟩
              have B3 := B2.new (o := .tup [.int 0, .int ((us.length : Int) - (p0 : Int))]) htn
              have c3 := same_new (o := .tup [.int 0, .int ((us.length : Int) - (p0 : Int))]) htn _ _ hc
              have u3 := same_new (o := .tup [.int 0, .int ((us.length : Int) - (p0 : Int))]) htn _ _ hp2
              have s3 := same_new (o := .tup [.int 0, .int ((us.length : Int) - (p0 : Int))]) htn _ _ hs2
              have A3 := A2.mono (fun _ _ k => TupI.same (same_new (o := .tup [.int 0, .int ((us.length : Int) - (p0 : Int))]) htn) k) hA2
              have t3 : (upd G2 tn (.tup [.int 0, .int ((us.length : Int) - (p0 : Int))])) tn = some (.tup [.int ((0 : Nat) : Int), .int ((m - p0 : Nat) : Int)]) := by rw [upd_same, er]; rfl
              generalize upd G2 tn (.tup [.int 0, .int ((us.length : Int) - (p0 : Int))]) = G3 at B3 c3 u3 s3 A3 t3 ⊢
              have hno : it f (p0 + j) x ∉ es'.map Prod.fst := fun h => by
                rcases (kn2 _).mp h with h | ⟨k, h1, h2, e⟩
                · exact out _ jm h
                · exact dist k (p0 + j) (by omega) jm e
              have sub' : ∀ y ∈ es'.map Prod.fst, y ∈ L := fun y hy => by
                rcases (kn2 y).mp hy with h | ⟨k, _, _, rfl⟩
                · exact sub y h
                · exact inL k
              have few2 : es'.length < 5000 := by
                have := nodup_le _ _ B2.ft.nd sub'
                rw [List.length_map] at this
                omega
              obtain ⟨d1, B4⟩ := B3.put hF aF hno c3 t3 (F0.on (by omega)) few2
              refine ⟨_, rfl, _, rfl, F, _, rfl, d1, ?_⟩
              refine ⟨_, _, es' ++ [(it f (p0 + j) x, tn)], rfl, by rw [upd_ne pF.symm]; exact u3, by rw [upd_ne slF.symm]; exact s3, A2.mono (fun _ _ k => ?_) A3, B4, fun y => ?_⟩
              · obtain ⟨z, rfl, hz⟩ := k
                exact ⟨z, rfl, B3.ft.kt _ _ hz⟩
              · have e1 : y ∈ (es' ++ [(it f (p0 + j) x, tn)]).map Prod.fst ↔ y ∈ es'.map Prod.fst ∨ y = it f (p0 + j) x := by simp
                rw [e1, kn2]
                constructor
                · rintro ((h | ⟨k, h1, h2, e⟩) | rfl)
                  · exact .inl h
                  · exact .inr ⟨k, h1, by omega, e⟩
                  · exact .inr ⟨p0 + j, by omega, by omega, rfl⟩
                · rintro (h | ⟨k, h1, h2, e⟩)
                  · exact .inl (.inl h)
                  · by_cases ek : k = p0 + j
                    · rw [← e, ek]; exact .inr rfl
                    · exact .inl (.inr ⟨k, h1, by omega, e⟩)
            · rintro σ G2 ⟨w7, w8, es', rfl, hp2, hs2, hA2, B2, kn2⟩
              rw [List.length_drop, ul] at kn2
              have inn : ∀ k, p0 ≤ k → k < m → it f k x ∈ es'.map Prod.fst := fun k h1 h2 => (kn2 _).mpr (.inr ⟨k, h1, by omega, rfl⟩)
              have last : it f m x ∈ es'.map Prod.fst := by rw [← ep0]; exact inn p0 (Nat.le_refl _) p0m
              refine ⟨us, _, _, _, es', rfl, hp2, hA2, B2, fun y hy => ?_, fun y hy => ?_, fun y h => (kn2 y).mpr (.inl h), last⟩
              · rcases (kn2 y).mp hy with h | ⟨k, h1, h2, rfl⟩
                · exact (kn2 _).mpr (.inl (clo y h))
                · rw [← it_out (f := f) (x := x) (k := k)]
                  by_cases e : k + 1 = m
                  · rw [e]; exact last
                  · exact inn (k + 1) (by omega) (by omega)
              · rcases (kn2 y).mp hy with h | ⟨k, h1, h2, rfl⟩
                · exact sub y h
                · exact inL k
          · rintro σ' G1 ⟨us1, v6', v7', v8', es', rfl, hus1, hA1, B1, clo1, sub1, inc1, hm1⟩
            have ul1 := hA1.len
            rw [orb_len] at ul1
            refine ⟨_, rfl, p, us1, rfl, SqL.of hus1, ?_⟩
            refine for_rev (Pv := fun j σ H' => ∃ (v6 v7 v8 : Option V) (es2 : List (List Int × Addr)), σ = [some (.ref a), some (.ref F), some (.ref q), some (.ref p), some (.ref pl), some (.ref b), v6, v7, v8] ∧ H' p = some (.lst us1) ∧ A2 (TupI H') us1 (orb f x m) ∧ FB f a F (.frz od (.dT (es0.map entF))) H H' es2 ∧ (∀ y ∈ es2.map Prod.fst, f y ∈ es2.map Prod.fst) ∧ (∀ y ∈ es2.map Prod.fst, y ∈ L) ∧ (∀ y ∈ es.map Prod.fst, y ∈ es2.map Prod.fst) ∧ (∀ k, m - j ≤ k → k ≤ m → it f k x ∈ es2.map Prod.fst))
              ⟨v6', v7', v8', es', rfl, hus1, hA1, B1, clo1, sub1, inc1, fun k h1 h2 => by rw [show k = m by omega]; exact hm1⟩ (fun j σ H' _ ⟨_, _, _, _, _, h, _⟩ => SqL.of h) ?_ ?_
            · rintro j y σ G2 hj hy ⟨w6, w7, w8, es2, rfl, hus2, hA2, B2, clo2, sub2, inc2, kn2⟩
              have jm : j < m := by omega
              have ek : us1.length - 1 - j = m - 1 - j := by omega
              rw [ek] at hy
              obtain ⟨z, hz, hyz⟩ := hA2.get hy
              rw [orb_at (by omega)] at hz
              cases hz
              obtain ⟨c, rfl, hc⟩ := hyz
              have nx2 : it f (m - 1 - j + 1) x ∈ es2.map Prod.fst := kn2 _ (by omega) (by omega)
              rw [it_out] at nx2
              have gF2 : DGet G2 F (.ref c) (valV (es2.map entF) (keyI (it f (m - 1 - j) x))) := DGet.t B2.ft.at_ (by rw [key_vi]; exact hc)
              refine ⟨_, rfl, _, rfl, F, _, rfl, gF2, _, rfl, ?_⟩
              by_cases hk2 : it f (m - 1 - j) x ∈ es2.map Prod.fst
              · obtain ⟨q2, t2, n2, hv2, _, _⟩ := B2.ft.get hk2
                refine ifF (by rw [hv2]; rfl) ?_
                refine ⟨_, _, _, es2, rfl, hus2, hA2, B2, clo2, sub2, inc2, fun k h1 h2 => ?_⟩
                by_cases e : k = m - 1 - j
                · rw [e]; exact hk2
                · exact kn2 k (by omega) h2
              · refine ifT (by rw [valF_no hk2]; rfl) ?_
                obtain ⟨qa, gA, hqa⟩ := after G2 c _ B2.la B2.kt hc (inL (m - 1 - j))
                obtain ⟨q2, t2, n2, hv2, hq2, ft2⟩ := B2.ft.get nx2
                have gF3 : DGet G2 F (.ref qa) (some (.ref q2)) := by
                  rw [← hv2]
                  exact DGet.t B2.ft.at_ (by rw [key_vi]; exact hqa)
                refine ⟨_, rfl, _, rfl, _, rfl, a, _, rfl, gA, F, _, rfl, gF3, q2, _, rfl, SqT.of hq2, rfl, _, _, rfl, _, _, rfl, rfl, ?_⟩
                refine ⟨_, rfl, _, _, rfl, rfl, _, rfl, (by show 2 ≤ sizeLine; decide), fun tn htn => ?_⟩
                have B3 := B2.new (o := .tup [.int ((t2 : Int) + 1), .int (n2 : Int)]) htn
                have c3 := same_new (o := .tup [.int ((t2 : Int) + 1), .int (n2 : Int)]) htn _ _ hc
                have u3 := same_new (o := .tup [.int ((t2 : Int) + 1), .int (n2 : Int)]) htn _ _ hus2
                have A3 := A2.mono (fun _ _ k => TupI.same (same_new (o := .tup [.int ((t2 : Int) + 1), .int (n2 : Int)]) htn) k) hA2
                have t3 : (upd G2 tn (.tup [.int ((t2 : Int) + 1), .int (n2 : Int)])) tn = some (.tup [.int ((t2 + 1 : Nat) : Int), .int (n2 : Int)]) := upd_same
                show _
                generalize hG3 : upd G2 tn _ = G3
                have B3 : FB f a F (.frz od (.dT (es0.map entF))) H G3 es2 := by rw [← hG3]; exact B3
                have c3 : G3 c = some (.tup (vi (it f (m - 1 - j) x))) := by rw [← hG3]; exact c3
                have u3 : G3 p = some (.lst us1) := by rw [← hG3]; exact u3
                have A3 : A2 (TupI G3) us1 (orb f x m) := by rw [← hG3]; exact A3
                have t3 : G3 tn = some (.tup [.int ((t2 + 1 : Nat) : Int), .int (n2 : Int)]) := by rw [← hG3]; exact t3
                clear hG3
                have fy : Fate f (it f (m - 1 - j) x) (t2 + 1) n2 := ft2.pred fun k e => hk2 (by rw [← e]; exact clo_it clo2 nx2 k)
                have few2 : es2.length < 5000 := by
                  have := nodup_le _ _ B2.ft.nd sub2
                  rw [List.length_map] at this
                  omega
                obtain ⟨d1, B4⟩ := B3.put hF aF hk2 c3 t3 fy few2
                refine ⟨_, rfl, _, rfl, F, _, rfl, d1, ?_⟩
                have mm : ∀ y, y ∈ (es2 ++ [(it f (m - 1 - j) x, tn)]).map Prod.fst ↔ y ∈ es2.map Prod.fst ∨ y = it f (m - 1 - j) x := fun y => by simp
                refine ⟨_, _, _, es2 ++ [(it f (m - 1 - j) x, tn)], rfl, by rw [upd_ne pF.symm]; exact u3, A2.mono (fun _ _ k => ?_) A3, B4, fun y hy => ?_, fun y hy => ?_, fun y hy => (mm y).mpr (.inl (inc2 y hy)), fun k h1 h2 => ?_⟩
                · obtain ⟨z, rfl, hz⟩ := k
                  exact ⟨z, rfl, B3.ft.kt _ _ hz⟩
                · rcases (mm y).mp hy with h | rfl
                  · exact (mm _).mpr (.inl (clo2 y h))
                  · exact (mm _).mpr (.inl nx2)
                · rcases (mm y).mp hy with h | rfl
                  · exact sub2 y h
                  · exact inL _
                · by_cases e : k = m - 1 - j
                  · rw [e]; exact (mm _).mpr (.inr rfl)
                  · exact (mm _).mpr (.inl (kn2 k (by omega) h2))
            · rintro σ G2 ⟨w6, w7, w8, es2, rfl, hus2, hA2, B2, clo2, sub2, inc2, kn2⟩
              rw [ul1] at kn2
              refine ⟨_, _, _, _, _, _, _, es2, rfl, B2.ft, clo2, sub2, fun y hy => ?_, B2.la, B2.kt, B2.fr⟩
              rw [List.take_add_one, hx] at hy
              rcases List.mem_append.mp hy with h | h
              · exact inc2 y (done y h)
              · obtain rfl : y = x := by simpa using h
                exact kn2 0 (by omega) (Nat.zero_le _)
        · have nop : ∀ i, i < m → it f i x ≠ it f m x := fun i hi e => hp0 ⟨i, hi, e⟩
          refine ifT (by rw [seen_none nop]; rfl) ?_
          have dist' : ∀ i j, i < j → j < m + 1 → it f i x ≠ it f j x := fun i j h1 h2 => by
            by_cases e : j = m
            · rw [e]; exact nop i (by omega)
            · exact dist i j h1 (by omega)
          refine ⟨fun σ H' => ∃ (b' : Addr) (us' : List V) (v6 v7 v8 : Option V), σ = [some (.ref a), some (.ref F), some (.ref q), some (.ref p), some (.ref pl), some (.ref b'), v6, v7, v8] ∧ H' b' = some (.tup (vi (it f (m + 1) x))) ∧ H' p = some (.lst us') ∧ A2 (TupI H') us' (orb f x (m + 1)) ∧ H' pl = some (.dT (seenAt f x (m + 1))) ∧ FB f a F (.frz od (.dT (es0.map entF))) H H' es, ?_, ?_⟩
          · rintro σ H' ⟨b', us', w6, w7, w8, rfl, h1, h2, h3, h4, h5⟩
            have mL2 : m + 1 ≤ L.length := by
              have := nodup_le _ _ (orb_nodup dist') (fun y hy => by obtain ⟨k, _, rfl⟩ := orb_mem.mp hy; exact inL k)
              rwa [orb_len] at this
            exact ⟨L.length + 1 - (m + 1), by omega, m + 1, b', us', w6, w7, w8, rfl, rfl, h1, h2, h3, h4, h5, dist', fun i hi => by
              by_cases e : i = m
              · rw [e]; exact hk
              · exact out i (by omega)⟩
          · have sz : (seenAt f x m).length < sizeLine := by
              unfold seenAt
              rw [List.length_map, List.length_range]
              exact Nat.lt_of_le_of_lt (by omega : m ≤ 2000) (by decide)
            have dp := DPut.t (v := .int us.length) hpl (by rw [key_vi]; exact hb) sz
            rw [ul, seen_put nop] at dp
            refine ⟨_, rfl, p, _, rfl, .inl (SqL.of hus), _, rfl, _, rfl, pl, _, rfl, by rw [ul]; exact dp, ?_⟩
            have pmut : ∀ xs, HO.dT (seenAt f x m) ≠ .tup xs := fun _ z => by cases z
            have B1 := B.mut (o := .dT (seenAt f x (m + 1))) l0 lF la hpl pmut
            have hus1 : (upd G pl (.dT (seenAt f x (m + 1)))) p = some (.lst us) := by rw [upd_ne lp]; exact hus
            have hpl1 : (upd G pl (.dT (seenAt f x (m + 1)))) pl = some (.dT (seenAt f x (m + 1))) := upd_same
            have k1 : Kt G (upd G pl (.dT (seenAt f x (m + 1)))) := Kt.upd hpl pmut
            have hA1 : A2 (TupI (upd G pl (.dT (seenAt f x (m + 1))))) us (orb f x m) := A2.mono (fun _ _ k => by
              obtain ⟨z, rfl, hz⟩ := k
              exact ⟨z, rfl, k1 _ _ hz⟩) hA
            have hb1 := k1 _ _ hb
            generalize upd G pl (.dT (seenAt f x (m + 1))) = G1 at B1 hus1 hpl1 hA1 hb1 ⊢
            refine ⟨_, rfl, .inl ⟨rfl, _, SqL.of hus1⟩, _, rfl, p, _, _, rfl, rfl, hus1, Nat.lt_of_le_of_lt (by omega : us.length ≤ 2000) (by decide), ?_⟩
            have lmut : ∀ xs, HO.lst us ≠ .tup xs := fun _ z => by cases z
            have B2 := B1.mut (o := .lst (us ++ [.ref b])) p0 pF pa hus1 lmut
            have k2 : Kt G1 (upd G1 p (.lst (us ++ [.ref b]))) := Kt.upd hus1 lmut
            obtain ⟨qa, gA, hqa⟩ := after _ b _ B2.la B2.kt (k2 _ _ hb1) (inL m)
            refine ⟨_, rfl, _, rfl, a, _, rfl, gA, ?_⟩
            refine ⟨qa, us ++ [.ref b], _, _, _, rfl, by rw [it_out]; exact hqa, upd_same, ?_, by rw [upd_ne lp.symm]; exact hpl1, B2⟩
            rw [orb_succ]
            exact A2.app (A2.mono (fun _ _ k => by
              obtain ⟨z, rfl, hz⟩ := k
              exact ⟨z, rfl, k2 _ _ hz⟩) hA1) ⟨⟨b, rfl, k2 _ _ hb1⟩, trivial⟩
    · rintro σ H' ⟨v2, v3, v4, v5, v6, v7, v8, es, rfl, hFt, clo, sub, done, hla, kt, fr⟩
      refine ⟨hla, _, rfl, ?_⟩
      refine hq _ F es hF (hFt.keep (Kt.upd hla fun _ z => by cases z) (upd_ne aF.symm)) (fun x hx => done x ?_) fun b o e => ?_
      · rw [List.take_of_length_le (by rw [List.length_map]; omega)]
        exact hx
      · by_cases n : b = a
        · rw [n, upd_same]
          rw [n, ha] at e
          exact e
        · rw [upd_ne n]
          exact fr b o n e
end
end Kp

namespace Kp
open PySem PySem.Spec PyProof.Rows L2 KpR
abbrev Tri := List Int × Nat × Nat
def FaL (f : List Int → List Int) (L : List (List Int)) (l : List Tri) : Prop := ∀ e ∈ l, e.1 ∈ L ∧ Fate f e.1 e.2.1 e.2.2
/-- what is told of all starts -/
structure Told (f : List Int → List Int) (L : List (List Int)) (tail ring : Int) (late : List Int) (rs : List (List Int)) : Prop where
  inn : late ∈ L
  few : rs.length ≤ 2000
  own : ∃ t n : Nat, tail = t ∧ Fate f late t n
  most : ∀ x ∈ L, ∀ t n : Nat, Fate f x t n → (t : Int) ≤ tail
  all : ∃ l : List Tri, l.map Prod.fst = L ∧ FaL f L l ∧ ring = (lcmL (l.map fun e => e.2.2) : Nat)
  some_ : ∃ l : List Tri, l.map Prod.fst = rs ∧ FaL f L l ∧ ring = (lcmL (l.map fun e => e.2.2) : Nat)
theorem ifB {c : Bool} {A B : Prop} (h : c = true → A) (k : c = false → B) : if c = true then A else B := by
  cases c
  · rw [if_neg (by decide)]; exact k rfl
  · rw [if_pos rfl]; exact h rfl
theorem stand_mem {caps : List Int} (hC : Caps caps) {st : List Int} : st ∈ startsOf caps ↔ Stand caps 1 st := by
  rw [mem_starts fun z hz => by obtain ⟨i, hi, rfl⟩ := List.mem_iff_getElem.mp hz; have := hC.lo i hi; rwa [at0_of (List.getElem?_eq_getElem hi)] at this]
  exact ⟨fun h => ⟨h.1, fun i hi => (h.2 i hi).1, fun i hi => by rw [Int.mul_one]; exact (h.2 i hi).2⟩, fun h => ⟨h.len, fun i hi => ⟨h.lo i hi, by have := h.hi i hi; rwa [Int.mul_one] at this⟩⟩⟩
section
variable {K : PySem.W.Frag} {mg : Str → Option Value}
def spturning (T : Tx K mg) : Sp := fun vs H Q E => ∃ (r : Addr) (caps : List Int) (ds : List D), vs = [.ref r] ∧ RowAt T H r caps ds ∧ (∀ d ∈ ds, d.ok caps) ∧ Caps caps ∧
  (prodN caps ≤ 2000 → (∀ l : List Tri, FaL (run caps 1 ds) (startsOf caps) l → lcmL (l.map fun e => e.2.2) < 2 ^ 64) ∧ ∀ (H' : Hp) (v : V) (tail ring : Int) (late : List Int) (rs : List (List Int)), TuAt T H' v tail ring late rs → Told (run caps 1 ds) (startsOf caps) tail ring late rs → Same H H' → Q v H') ∧
  (2000 < prodN caps → ∀ (H' : Hp) (d : Addr), H' d = some (.xd (f1s "count" (.int (prodN caps)))) → Same H H' → E (.ref T.cWide) (some d) H')
end
section
variable {P : Program} {w : World} {K : PySem.W.Frag} {mg : Str → Option Value} {base : Heap}
theorem okturning (T : Tx K mg) : FnOk P w K mg base (L2.CX P w) 6 T.aturning T.dturning ["row"] (spturning T) := by
  refine T.fturning.okX scturning (fun vs H Q E h => ?_) (fun cdv A outer s H vs Q E hr h => ?_)
  · obtain ⟨r, caps, ds, rfl, _⟩ := h
    rfl
  · obtain ⟨r, caps, ds, rfl, hR, ok, hC, hq, hE⟩ := h
    refine ⟨_, (pss_cons (ps_expr (pe_call (okcheckmany T) (hr.mono (by decide)) rfl T.gcheckmany T.fcheckmany.kp T.bcheckmany .nil (passes_call (W := fun c d _ H => E c d H) (takes_of rfl rfl rfl rfl) (fun _ _ _ _ h => h)) (pa_cons (pe_fld (pv 0) rfl) pa_nil)))
      (pss_cons (ps_set (i := 1) scturning.nd rfl (by first | exact Or.inl rfl | exact Or.inr rfl) (pe_call (okwholestarts T) (hr.mono (by decide)) rfl T.gwholestarts T.fwholestarts.kp T.bwholestarts .nil pass0 (pa_cons (pe_fld (pv 0) rfl) pa_nil)))
      (pss_cons (ps_set (i := 2) scturning.nd rfl (by first | exact Or.inl rfl | exact Or.inr rfl) (pe_call (okfatesof T) (hr.mono (by decide)) rfl T.gfatesof T.ffatesof.kp T.bfatesof .nil pass0 (pa_cons (pe_dct (own := [("start", 3)]) (hu_of hr) rfl scturning.nd (pi_list (pv 1)) (blkOk_by (own := [("start", 3)]) (N := ["row", "starts", "fates", "start", "late", "ring", "rings", "tail", "own"]) (sc := defScope sturning) (by decide +kernel)) ⟨fun _ _ _ _ _ => (pg_name (i := 3) scturning.nd rfl (by first | exact Or.inl rfl | exact Or.inr rfl)), fun _ _ _ _ _ => pts_nil, fun _ _ _ _ _ => (pv 3), fun _ _ _ _ _ => (pe_callTy (show CallR _ _ (rTupOf K) from call_tuple_of) rfl T.ntuple (by decide +kernel) (pa_cons (pe_call (okbehindround T) (hr.mono (by decide)) rfl T.gbehindround T.fbehindround.kp T.bbehindround .nil pass0 (pa_cons (pv 0) (pa_cons (pv 3) (pa_cons pe_int pa_nil)))) pa_nil))⟩) pa_nil)))
      (pss_cons (ps_set (i := 4) scturning.nd rfl (by first | exact Or.inl rfl | exact Or.inr rfl) (pe_ix (r := rIxL K) ix_list (pv 1) pe_int (fun _ _ => rfl)))
      (pss_cons (ps_set (i := 5) scturning.nd rfl (by first | exact Or.inl rfl | exact Or.inr rfl) pe_int)
      (pss_cons (ps_set (i := 6) scturning.nd rfl (by first | exact Or.inl rfl | exact Or.inr rfl) (pe_lst pa_nil))
      (pss_cons (ps_for (passes_of rfl) rfl (pi_list (pv 1)) (pg_name (i := 3) scturning.nd rfl (by first | exact Or.inl rfl | exact Or.inr rfl)) (pss_cons (ps_asg (pe_dget (hu_of hr) (pv 2) (pv 3) (fun _ _ => rfl)) (pg_tup rfl (pgs_cons (pg_name (i := 7) scturning.nd rfl (by first | exact Or.inl rfl | exact Or.inr rfl)) (pgs_cons (pg_name (i := 8) scturning.nd rfl (by first | exact Or.inl rfl | exact Or.inr rfl)) pgs_nil))))
      (C8.pss_cut (ps_if (pt_cmpR op_gt (pv 7) (pe_ix (r := rIxT K) ix_tup (pe_dget (hu_of hr) (pv 2) (pv 4) (fun _ _ => rfl)) pe_int (fun _ _ => rfl)) (nomark _)) (pss_one (ps_set (i := 4) scturning.nd rfl (by first | exact Or.inl rfl | exact Or.inr rfl) (pv 3))) pss_nil)
      (pss_one (ps_if (PW.pt (pw_or (pt_cmpR (op_eqNil (Nat.lt_of_le_of_lt (Nat.le_add_right _ _) hr.units)) (pv 6) (pe_lst pa_nil) (nomark _)) (pw_or1 (pt_cmpR op_gt (pe_callBfun cr_lcm rfl T.nlcm (pa_cons (pv 5) (pa_cons (pv 8) pa_nil))) (pv 5) (nomark _))))) (pss_cons (ps_set (i := 5) scturning.nd rfl (by first | exact Or.inl rfl | exact Or.inr rfl) (pe_callBfun cr_lcm rfl T.nlcm (pa_cons (pv 5) (pa_cons (pv 8) pa_nil))))
      (pss_one (ps_expr (pe_bm PySem.F.plainAttrs_list PySem.F.slot_list_append PySem.F.type_list_append mt_append (pv 6) (pa_cons (pv 3) pa_nil))))) pss_nil)))))
      (pss_one (ps_ret (pe_make T.kTurning (okTurningInit T) (hr.mono (by decide)) rfl T.mTurning T.bTurningInit .nil pass0 (pa_cons (pe_ix (r := rIxT K) ix_tup (pe_dget (hu_of hr) (pv 2) (pv 4) (fun _ _ => rfl)) pe_int (fun _ _ => rfl)) (pa_cons (pv 5) (pa_cons (pv 4) (pa_cons (pv 6) pa_nil)))))))))))))), ?_⟩
    obtain ⟨rx, j, tt, vs0, r1, r2, r3, r4⟩ := id hR
    have cv : ∀ z ∈ caps, 1 ≤ z ∧ z ≤ 1000000000000 := fun z hz => by
      obtain ⟨i, hi, rfl⟩ := List.mem_iff_getElem.mp hz
      have e := at0_of (List.getElem?_eq_getElem hi)
      have := hC.lo i hi
      have := hC.hi i hi
      omega
    refine ⟨_, rfl, r, _, rx, _, _, rfl, r1, T.lRow, T.nRow_jars, lk1, j, caps, rfl, r2, cv, fun le H1 s1 => ?_, fun big H1 d hd s1 => hE big H1 d hd s1⟩
    obtain ⟨small, hq⟩ := hq le
    clear hE
    refine ⟨_, rfl, r, _, rx, _, _, rfl, s1 _ _ r1, T.lRow, T.nRow_jars, lk1, j, caps, rfl, r2.same s1, fun z hz => (cv z hz).1, hC.l6, le, fun H2 q ts q0 hq2 hA s2 => ?_⟩
    have hsf : ∀ x ∈ startsOf caps, run caps 1 ds x ∈ startsOf caps := fun x hx => (stand_mem hC).mpr (run_stand (by decide) ((stand_mem hC).mp hx) ok)
    have nd := starts_nodup fun z hz => (cv z hz).1
    have ln : (startsOf caps).length ≤ 2000 := by rw [starts_len]; exact le
    have pos : (caps.map fun _ => (0 : Int)) ∈ startsOf caps := (stand_mem hC).mpr ⟨by simp, fun i hi => by rw [at0_map hi]; exact Int.le_refl 0, fun i hi => by rw [at0_map hi]; have := hC.lo i hi; omega⟩
    have slen : ∀ x ∈ startsOf caps, x.length = caps.length := fun x hx => ((stand_mem hC).mp hx).len
    generalize startsOf caps = L at *
    generalize hf : run caps 1 ds = f at *
    have tl := hA.len
    have tl0 := tl
    have s02 := s1.trans s2
    have hR2 := hR.same s02
    refine ⟨_, rfl, q, rfl, ⟨_, SqL.of hq2⟩, fun D hD => ?_⟩
    refine dct_list (K := K) (a := q) (xs := ts) (fun i H' => ∃ es : List (List Int × Addr), H' D = some (.dT (es.map entF)) ∧ es.map Prod.fst = L.take i ∧ (∀ e ∈ es, H' e.2 = some (.tup (vi (f e.1)))) ∧ Same H2 H') ⟨[], upd_same, by simp, (fun e h => by cases h), same_new hD⟩ (fun i H' _ ⟨_, _, _, _, e⟩ => SqL.of (e _ _ hq2)) ?_ ?_
    · rintro i y H' hi ⟨es, g1, g2, g3, sm⟩
      obtain ⟨x, hx, hy⟩ := hA.get hi
      obtain ⟨b, rfl, hb⟩ := hy.same sm
      have xL := List.mem_of_getElem? hx
      have il : i < L.length := (List.getElem?_eq_some_iff.mp hx).1
      refine ⟨rfl, _, rfl, _, rfl, _, rfl, r, b, ds, caps, x, 1, rfl, hR2.same sm, ok, .inr (SqT.of hb), by decide, by decide, slen x xL, fun H3 c c0 hc s3 => ?_⟩
      rw [hf] at hc
      refine ⟨c, _, rfl, .inl ⟨SqL.of hc, fun l hl => ?_⟩⟩
      have s4 := s3.trans (same_new (o := .tup (vi (f x))) hl)
      have e4 : (upd H3 l (.tup (vi (f x)))) l = some (.tup (vi (f x))) := upd_same
      show _
      generalize hG : upd H3 l _ = H4
      have s4 : Same H' H4 := by rw [← hG]; exact s4
      have e4 : H4 l = some (.tup (vi (f x))) := by rw [← hG]; exact e4
      clear hG
      have xn : x ∉ es.map Prod.fst := by
        rw [g2]
        exact fun h => by
          obtain ⟨k, hk, e⟩ := List.mem_iff_getElem.mp h
          rw [List.length_take] at hk
          rw [List.getElem_take] at e
          have e2 : L[i]'il = x := by rw [List.getElem?_eq_getElem il] at hx; exact Option.some.inj hx
          have := (List.getElem_inj (h₀ := by omega) (h₁ := il) nd).mp (e.trans e2.symm)
          omega
      have el : es.length = i := by
        have := congrArg List.length g2
        rw [List.length_map, List.length_take] at this
        omega
      refine ⟨b, _, keyI x, rfl, s4 _ _ g1, by rw [key_vi]; exact s4 _ _ hb, Nat.lt_of_le_of_lt (by rw [List.length_map]; omega : _ ≤ 2000) (by decide), es ++ [(x, l)], by rw [upd_same, putF_new xn], by rw [List.map_append, g2, take_snoc hx]; rfl, fun e he => ?_, same_mut (sm.trans s4) hD⟩
      have kt : Kt H4 (upd H4 D (.dT (putK (es.map entF) (keyI x) (.ref l)))) := Kt.upd (s4 _ _ g1) fun _ z => by cases z
      rcases List.mem_append.mp he with h | h
      · exact kt _ _ (s4 _ _ (g3 e h))
      · obtain rfl : e = (x, l) := by simpa using h
        exact kt _ _ e4
    rintro H3 ⟨es0, g1, g2, g3, s3⟩
    rw [tl, List.take_length] at g2
    have es0l : es0.length ≤ 2000 := by
      have := congrArg List.length g2
      rw [List.length_map] at this
      omega
    refine ⟨D, f, es0, rfl, g1, g3, by rw [g2]; exact nd, by rw [g2]; exact hsf, es0l, fun H4 F es hF hFt hin s4 => ?_⟩
    rw [g2] at hin
    have s24 := s3.trans s4
    have hq4 := s24 _ _ hq2
    have hA4 := A2.mono (fun _ _ k => TupI.same s24 k) hA
    have S4 := s02.trans s24
    have l0 : 0 < L.length := List.length_pos_of_mem pos
    have e0 : L[0]? = some L[0] := List.getElem?_eq_getElem l0
    obtain ⟨v0, at0v, _, b0, rfl, hb0⟩ := A2at hA4 e0
    have in0 : L[0] ∈ L := List.getElem_mem ..
    refine ⟨_, rfl, q, _, _, _, rfl, rfl, SqL.of hq4, at0v, ?_⟩
    refine ⟨(by show 0 ≤ sizeLine; decide), fun rg hrg => ?_⟩
    show _
    generalize hG__ : upd H4 rg _ = H5
    have y5 : Same H4 H5 := by rw [← hG__]; exact same_new hrg
    have krg : H5 rg = some (.lst []) := by rw [← hG__]; exact upd_same
    clear hG__
    have hF5 := hFt.keep (Kt.same y5) ((y5 _ _ hFt.at_).trans hFt.at_.symm)
    have hq5 := y5 _ _ hq4
    have hA5 := A2.mono (fun _ _ k => TupI.same y5 k) hA4
    have hb5 := y5 _ _ hb0
    have Frg : F ≠ rg := ne_of_none hFt.at_ hrg
    have qrg : q ≠ rg := ne_of_none hq4 hrg
    have rg0 : H rg = none := S4.free hrg
    have fate_of : ∀ x ∈ L, ∃ c t n, valV (es.map entF) (keyI x) = some (.ref c) ∧ H5 c = some (.tup [.int (t : Nat), .int (n : Nat)]) ∧ Fate f x t n := fun x hx => hF5.get (hin x hx)
    obtain ⟨c00, t00, n00, w00, w01, f00⟩ := fate_of _ in0
    refine ⟨_, rfl, q, rfl, ⟨_, SqL.of hq5⟩, ?_⟩
    refine for_list (K := K) (a := q) (xs := ts) (fun i σ H' => ∃ (la : Addr) (late : List Int) (tl nl ring : Nat) (v3 v7 v8 : Option V) (us : List V) (rs : List (List Int)) (l lr : List Tri), σ = [some (.ref r), some (.ref q), some (.ref F), v3, some (.ref la), some (.int ring), some (.ref rg), v7, v8] ∧ H' la = some (.tup (vi late)) ∧ late ∈ L ∧ Fate f late tl nl ∧ (∀ x ∈ L.take i, ∀ t n, Fate f x t n → t ≤ tl) ∧
        l.map Prod.fst = L.take i ∧ FaL f L l ∧ ring = lcmL (l.map fun e => e.2.2) ∧ H' rg = some (.lst us) ∧ A2 (TupI H') us rs ∧ lr.map Prod.fst = rs ∧ FaL f L lr ∧ ring = lcmL (lr.map fun e => e.2.2) ∧ us.length ≤ i ∧ Kt H5 H' ∧ H' F = H5 F ∧ Fr rg H5 H')
      ⟨b0, L[0], t00, n00, 1, none, none, none, [], [], [], [], rfl, hb5, in0, f00, (fun x h => by simp at h), (by simp), (fun e h => by cases h), rfl, krg, trivial, rfl, (fun e h => by cases h), rfl, Nat.le_refl _, Kt.refl _, rfl, Fr.refl _ _⟩ (fun i σ H' _ ⟨_, _, _, _, _, _, _, _, _, _, _, _, _, _, _, _, _, _, _, _, _, _, _, _, _, _, _, _, e⟩ => SqL.of (e _ _ qrg hq5)) ?_ ?_
    · rintro i y σ H6 hi ⟨la, late, tl, nl, ring, v3, v7, v8, us, rs, l, lr, rfl, hla, lin, fl, mx, l1, l2, l3, hus, hU, r1', r2', r3', ul, kt, kF, fr⟩
      obtain ⟨x, hx, hy⟩ := hA5.get hi
      obtain ⟨b, rfl, hb⟩ := hy
      have xL := List.mem_of_getElem? hx
      have il : i < L.length := (List.getElem?_eq_some_iff.mp hx).1
      obtain ⟨c, t, n, w1, w2, fx⟩ := fate_of x xL
      obtain ⟨cl, tl', nl', wl1, wl2, fl'⟩ := fate_of late lin
      obtain ⟨etl, _⟩ := fl.uniq fl'
      subst etl
      have F6 : H6 F = some (.dT (es.map entF)) := kF.trans hF5.at_
      have gx : DGet H6 F (.ref b) (some (.ref c)) := by rw [← w1]; exact DGet.t F6 (by rw [key_vi]; exact kt _ _ hb)
      have gl : DGet H6 F (.ref la) (some (.ref cl)) := by rw [← wl1]; exact DGet.t F6 (by rw [key_vi]; exact hla)
      refine ⟨_, rfl, _, rfl, F, _, rfl, gx, c, _, rfl, SqT.of (kt _ _ w2), rfl, _, _, rfl, _, _, rfl, rfl, ?_⟩
      have tk : L.take (i + 1) = L.take i ++ [x] := take_snoc hx
      refine ⟨fun σ' H' => H' = H6 ∧ ∃ (la' : Addr) (late' : List Int) (tl2 nl2 : Nat), σ' = [some (.ref r), some (.ref q), some (.ref F), some (.ref b), some (.ref la'), some (.int ring), some (.ref rg), some (.int t), some (.int n)] ∧ H6 la' = some (.tup (vi late')) ∧ late' ∈ L ∧ Fate f late' tl2 nl2 ∧ (∀ x ∈ L.take (i + 1), ∀ t n, Fate f x t n → t ≤ tl2), ?_, ?_⟩
      · refine ⟨_, rfl, _, rfl, _, rfl, F, _, rfl, gl, cl, _, _, _, rfl, rfl, SqT.of (kt _ _ wl2), rfl, _, _, rfl, rfl, _, rfl, ifD (fun gt => ?_) (fun gt => ?_)⟩
        · have gt : tl < t := by omega
          refine ⟨_, rfl, rfl, b, x, t, n, rfl, kt _ _ hb, xL, fx, fun z hz t2 n2 h2 => ?_⟩
          rw [tk] at hz
          rcases List.mem_append.mp hz with h | h
          · have := mx z h t2 n2 h2
            omega
          · obtain rfl : z = x := by simpa using h
            have := (fx.uniq h2).1
            omega
        · have gt : ¬ tl < t := by omega
          refine ⟨rfl, la, late, tl, nl, rfl, hla, lin, fl, fun z hz t2 n2 h2 => ?_⟩
          rw [tk] at hz
          rcases List.mem_append.mp hz with h | h
          · exact mx z h t2 n2 h2
          · obtain rfl : z = x := by simpa using h
            have := (fx.uniq h2).1
            omega
      · rintro σ' H' ⟨rfl, la', late', tl2, nl2, rfl, k1, k2, k3, k4⟩
        have ll : FaL f L (l ++ [(x, t, n)]) := fun e he => by
          rcases List.mem_append.mp he with h | h
          · exact l2 e h
          · obtain rfl : e = (x, t, n) := by simpa using h
            exact ⟨xL, fx⟩
        have lrr : FaL f L (lr ++ [(x, t, n)]) := fun e he => by
          rcases List.mem_append.mp he with h | h
          · exact r2' e h
          · obtain rfl : e = (x, t, n) := by simpa using h
            exact ⟨xL, fx⟩
        have el : lcmL ((l ++ [(x, t, n)]).map fun e => e.2.2) = Nat.lcm ring n := by rw [List.map_append, l3]; exact lcmL_snoc _ _
        have elr : lcmL ((lr ++ [(x, t, n)]).map fun e => e.2.2) = Nat.lcm ring n := by rw [List.map_append, r3']; exact lcmL_snoc _ _
        have rs64 : ring < 2 ^ 64 := by rw [l3]; exact small l l2
        have n64 : n < 2 ^ 64 := by
          have := small [(x, t, n)] fun e he => by
            obtain rfl : e = (x, t, n) := by simpa using he
            exact ⟨xL, fx⟩
          simpa [lcmL] using this
        have rpos : 1 ≤ ring := by
          rw [l3]
          exact lcmL_pos fun a ha => by
            obtain ⟨e, he, rfl⟩ := List.mem_map.mp ha
            exact (l2 e he).2.pos
        refine ⟨_, rfl, (by show 0 ≤ sizeLine; decide), fun z hz => ?_⟩
        show _
        generalize hG__ : upd H' z _ = H7
        have y7 : Same H' H7 := by rw [← hG__]; exact same_new hz
        have kz : H7 z = some (.lst []) := by rw [← hG__]; exact upd_same
        clear hG__
        have k1 := y7 _ _ k1
        have hus := y7 _ _ hus
        have F6 := y7 _ _ F6
        have hU7 := A2.mono (fun _ _ k => TupI.same y7 k) hU
        have kt7 : Kt H5 H7 := kt.trans (Kt.same y7)
        have kF7 : H7 F = H5 F := by rw [F6, hF5.at_]
        have fr7 : Fr rg H5 H7 := fr.trans (Fr.of y7)
        refine ⟨rg, z, us, rfl, rfl, hus, kz, us.isEmpty, rfl, ?_⟩
        have stay : us.isEmpty = false → us ≠ [] := fun e h => by rw [h] at e; cases e
        refine ifB (fun hu => ?_) (fun hu => ?_)
        rotate_left
        · refine ⟨_, rfl, _, rfl, ring, n, rfl, rs64, n64, _, rfl, _, _, rfl, rfl, ?_⟩
          refine ⟨_, rfl, ifD (fun gt => ?_) (fun le => ?_)⟩
          · refine ⟨_, rfl, _, rfl, ring, n, rfl, rs64, n64, _, rfl, .inl ⟨rfl, _, SqL.of hus⟩, _, rfl, rg, us, _, rfl, rfl, hus, Nat.lt_of_le_of_lt (by omega : us.length ≤ 2000) (by decide), ?_⟩
            have y8 : Kt H7 (upd H7 rg (.lst (us ++ [.ref b]))) := Kt.upd hus fun _ z => by cases z
            refine ⟨la', late', tl2, nl2, Nat.lcm ring n, _, _, _, _, rs ++ [x], l ++ [(x, t, n)], lr ++ [(x, t, n)], rfl, y8 _ _ k1, k2, k3, k4, ?_, ll, el.symm, upd_same, ?_, ?_, lrr, elr.symm, ?_, kt7.trans y8, (upd_ne Frg).trans kF7, fun z o nz hz => by rw [upd_ne nz]; exact fr7 _ _ nz hz⟩
            · rw [tk, ← l1, List.map_append]
              rfl
            · exact A2.app (A2.mono (fun _ _ k => by obtain ⟨c, e, g⟩ := k; exact ⟨c, e, y8 _ _ g⟩) hU7) ⟨⟨b, rfl, (kt7.trans y8) _ _ hb⟩, trivial⟩
            · rw [List.map_append, r1']
              rfl
            · rw [List.length_append]
              exact Nat.add_le_add_right ul 1
          · have same : Nat.lcm ring n = ring := lcm_stay rpos fx.pos (by omega)
            rw [same] at el
            refine ⟨la', late', tl2, nl2, ring, _, _, _, us, rs, l ++ [(x, t, n)], lr, rfl, k1, k2, k3, k4, ?_, ll, el.symm, hus, hU7, r1', r2', r3', by omega, kt7, kF7, fr7⟩
            rw [tk, ← l1, List.map_append]
            rfl
        · refine ifB (fun _ => ?_) (fun e => by cases e)
          refine ⟨_, rfl, _, rfl, ring, n, rfl, rs64, n64, _, rfl, .inl ⟨rfl, _, SqL.of hus⟩, _, rfl, rg, us, _, rfl, rfl, hus, Nat.lt_of_le_of_lt (by omega : us.length ≤ 2000) (by decide), ?_⟩
          have y8 : Kt H7 (upd H7 rg (.lst (us ++ [.ref b]))) := Kt.upd hus fun _ z => by cases z
          refine ⟨la', late', tl2, nl2, Nat.lcm ring n, _, _, _, _, rs ++ [x], l ++ [(x, t, n)], lr ++ [(x, t, n)], rfl, y8 _ _ k1, k2, k3, k4, ?_, ll, el.symm, upd_same, ?_, ?_, lrr, elr.symm, ?_, kt7.trans y8, (upd_ne Frg).trans kF7, fun z o nz hz => by rw [upd_ne nz]; exact fr7 _ _ nz hz⟩
          · rw [tk, ← l1, List.map_append]
            rfl
          · exact A2.app (A2.mono (fun _ _ k => by obtain ⟨c, e, g⟩ := k; exact ⟨c, e, y8 _ _ g⟩) hU7) ⟨⟨b, rfl, (kt7.trans y8) _ _ hb⟩, trivial⟩
          · rw [List.map_append, r1']
            rfl
          · rw [List.length_append]
            exact Nat.add_le_add_right ul 1
    · rintro σ H6 ⟨la, late, tl, nl, ring, v3, v7, v8, us, rs, l, lr, rfl, hla, lin, fl, mx, l1, l2, l3, hus, hU, r1', r2', r3', ul, kt, kF, fr⟩
      rw [tl0, List.take_length] at l1 mx
      obtain ⟨cl, tl', nl', wl1, wl2, fl'⟩ := fate_of late lin
      obtain ⟨etl, _⟩ := fl.uniq fl'
      subst etl
      have F6 : H6 F = some (.dT (es.map entF)) := kF.trans hF5.at_
      have gl : DGet H6 F (.ref la) (some (.ref cl)) := by rw [← wl1]; exact DGet.t F6 (by rw [key_vi]; exact hla)
      refine ⟨_, rfl, _, rfl, F, _, rfl, gl, cl, _, _, _, rfl, rfl, SqT.of (kt _ _ wl2), rfl, _, rfl, _, rfl, _, rfl, fun a dx ha hdx ne => ?_⟩
      have z7 : Same H6 (upd (upd H6 dx (.own a)) a (.ins T.cTurning dx [])) := (same_new hdx).trans (same_new (by rw [upd_ne (Ne.symm ne)]; exact ha))
      refine ⟨a, dx, la, rg, tl, ring, late, us, rs, rfl, upd_same, z7 _ _ hla, z7 _ _ hus, A2.mono (fun _ _ k => TupI.same z7 k) hU, by omega, fun H8 tu fr8 => ⟨rfl, hq H8 _ _ _ _ _ tu ⟨lin, by rw [← hU.len]; omega, ⟨tl, nl, rfl, fl⟩, fun x hx t n h => Int.ofNat_le.mpr (mx x hx t n h), ⟨l, l1, l2, by rw [l3]⟩, ⟨lr, r1', r2', by rw [r3']⟩⟩ ?_⟩⟩
      intro c o hc
      have hc5 := y5 _ _ (S4 _ _ hc)
      have c6 := fr _ _ (ne_of_none hc rg0) hc5
      exact fr8 _ _ (ne_of_none c6 ha) (z7 _ _ c6)
end
end Kp

namespace Kp
open PySem PySem.Spec PyProof.Rows L2 KpR
section
variable {P : Program} {w : World} {K : PySem.W.Frag} {mg : Str → Option Value} {base : Heap}
theorem okLof (T : Tx K mg) : FnOk P w K mg base CX0 2 T.aLof T.dLof ["_law_well_here", "_law_some"] (spLof T) := by
  refine T.fLof.ok scLof (fun vs H Q E h => ?_) (fun cdv A outer s H vs Q E hr h => ?_)
  · obtain ⟨u, a, l, n, rfl, _⟩ := h
    rfl
  · obtain ⟨u, a, l, n, rfl, hw, n1, ha, au, l1, l20, hq⟩ := h
    refine ⟨_, (pss_one (ps_ret (pe_ix (r := rIxL K) ix_list (pv 1) (pe_call (okLdraw T) (hr.mono (by decide)) rfl T.gLdraw T.fLdraw.kp T.bLdraw .nil pass0 (pa_cons (pv 0) (pa_cons (pe_callB call_len_seq rfl T.nlen PySem.boot_len (pa_cons (pv 1) pa_nil)) pa_nil))) (fun _ _ => rfl)))), ?_⟩
    refine ⟨_, rfl, _, rfl, _, rfl, a, _, rfl, .inl (SqL.of ha), u, _, n, rfl, hw, n1, (by rw [List.length_map]; omega), (by rw [List.length_map]; omega), fun H1 v lv w1 f1 => ?_⟩
    rw [List.length_map] at lv
    have lv2 : v < l.length := by omega
    refine ⟨a, _, _, _, rfl, rfl, SqL.of (f1 _ _ au ha), vi_at lv2, hq H1 _ (at0_mem lv2) w1 f1⟩
theorem okLgreat (T : Tx K mg) : FnOk P w K mg base CX0 2 T.aLgreat T.dLgreat ["_law_well_here"] (spLgreat T) := by
  refine T.fLgreat.ok scLgreat (fun vs H Q E h => ?_) (fun cdv A outer s H vs Q E hr h => ?_)
  · obtain ⟨u, n, rfl, _⟩ := h
    rfl
  · obtain ⟨u, n, rfl, hw, n1, hq⟩ := h
    refine ⟨_, (pss_one (ps_ret (pe_op op_add (pe_op op_mul (pe_call (okLdraw T) (hr.mono (by decide)) rfl T.gLdraw T.fLdraw.kp T.bLdraw .nil pass0 (pa_cons (pv 0) (pa_cons (pe_op op_pow pe_int pe_int) pa_nil))) (pe_op op_pow pe_int pe_int)) (pe_call (okLdraw T) (hr.mono (by decide)) rfl T.gLdraw T.fLdraw.kp T.bLdraw .nil pass0 (pa_cons (pv 0) (pa_cons (pe_op op_pow pe_int pe_int) pa_nil)))))), ?_⟩
    have e6 : (10 : Int) ^ (6 : Int).toNat = 1000000 := by decide
    refine ⟨_, rfl, _, _, rfl, rfl, ⟨by decide, by decide, by decide⟩, u, _, n, rfl, hw, by omega, by decide, by decide, fun H1 v1 l1 w1 f1 => ?_⟩
    refine ⟨_, _, rfl, rfl, ⟨by decide, by decide, by decide⟩, _, _, rfl, rfl, .inr ⟨by decide, by decide⟩, _, rfl, _, _, rfl, rfl, ⟨by decide, by decide, by decide⟩, u, _, n + 1, rfl, w1, by omega, by decide, by decide, fun H2 v2 l2 w2 f2 => ⟨_, _, rfl, rfl, ?_⟩⟩
    rw [e6] at l1 l2 ⊢
    have := hq H2 (v1 * 1000000 + v2) (by omega) w2 (f1.trans f2)
    rw [Int.natCast_add, Int.natCast_mul] at this
    exact this
theorem okLstart (T : Tx K mg) : FnOk P w K mg base CX0 2 T.aLstart T.dLstart ["_law_well_here", "_law_sizes_here", "_law_shares"] (spLstart T) := by
  refine T.fLstart.ok scLstart (fun vs H Q E h => ?_) (fun cdv A outer s H vs Q E hr h => ?_)
  · obtain ⟨u, c, caps, p, n, rfl, _⟩ := h
    rfl
  · obtain ⟨u, c, caps, p, n, rfl, hw, n9, hc, c6, cb, p1, p2, hq⟩ := h
    refine ⟨_, (pss_one (ps_ret (pe_callTy call_tuple_of rfl T.ntuple (by decide +kernel) (pa_cons (pe_lc (own := [("_law_size", 3)]) rfl scLstart.nd (pi_tup (pv 1)) (blkOk_by (own := [("_law_size", 3)]) (N := ["_law_well_here", "_law_sizes_here", "_law_shares", "_law_size"]) (sc := defScope sLstart) (by decide +kernel)) (fun _ _ _ _ _ => (pg_name (i := 3) scLstart.nd rfl (by first | exact Or.inl rfl | exact Or.inr rfl))) (fun _ _ _ _ _ => pts_nil) (fun _ _ _ _ _ => (pe_call (okLdraw T) (hr.mono (by decide)) rfl T.gLdraw T.fLdraw.kp T.bLdraw .nil pass0 (pa_cons (pv 0) (pa_cons (pe_op op_add (pe_op op_mul (pv 3) (pv 2)) pe_int) pa_nil))))) pa_nil)))), ?_⟩
    have cu : c ≠ u := fun z => by
      obtain ⟨_, _, _, q, _⟩ := hw
      rw [← z, hc] at q
      cases q
    refine ⟨_, rfl, c, rfl, ⟨_, SqT.of hc⟩, fun D hD => ?_⟩
    have du : D ≠ u := hw.ne hD
    have p62 : p < 2 ^ 62 := by omega
    refine lc_tup (K := K) (a := c) (xs := vi caps) (fun i H' => ∃ st : List Int, H' D = some (.lst (vi st)) ∧ st.length = i ∧ Part caps p st ∧ WellAt (n + i) H' u ∧ Fr u H H') ⟨[], upd_same, rfl, Part.nil, hw.new hD, Fr.of (same_new hD)⟩ (fun i H' _ ⟨_, _, _, _, _, f⟩ => SqT.of (f _ _ cu hc)) ?_ ?_
    · rintro i y H' hi ⟨st, q1, rfl, pt, w1, f1⟩
      obtain ⟨z, hz, rfl⟩ := vi_get hi
      have lt : st.length < caps.length := (List.getElem?_eq_some_iff.mp hz).1
      have ez := at0_of hz
      have zb := cb z (List.mem_of_getElem? hz)
      have zp0 : 0 ≤ z * p := Int.mul_nonneg (by omega) (by omega)
      have zp1 : z * p ≤ 1000000000000 * 2 ^ 40 := Int.mul_le_mul zb.2 (by omega) (by omega) (by decide)
      refine ⟨rfl, ?_⟩
      refine ⟨_, rfl, _, rfl, _, rfl, _, _, rfl, rfl, .inr (mulP p1 p62), _, _, rfl, rfl, u, _, n + st.length, rfl, w1, by omega, (by show 1 ≤ z * p + 1; omega), (by
        show z * p + 1 < 2 ^ 100
        have : (1000000000000 : Int) * 2 ^ 40 + 1 < 2 ^ 100 := by decide
        omega), fun H2 g lg w2 f2 => ?_⟩
      have lg : (g : Int) < z * p + 1 := lg
      refine ⟨_, f2 _ _ du q1, Nat.lt_of_lt_of_le (by rw [List.length_map]; omega : _ < 100) (by decide), st ++ [(g : Int)], ?_, by simp, pt.app (by omega) (by rw [ez]; omega), (w2.mut du), ?_⟩
      · rw [upd_same]
        simp [vi]
      · exact fr_new (f1.trans f2) hD
    · rintro H' ⟨st, q1, e1, pt, w1, f1⟩
      rw [show (vi caps).length = caps.length from List.length_map ..] at e1 w1
      refine ⟨D, _, rfl, .inl ⟨SqL.of q1, fun a ha => ?_⟩⟩
      have x4 := same_new (o := .tup (vi st)) ha
      exact hq _ a st upd_same (pt.stand e1) (w1.same x4) (f1.trans (Fr.of x4))
end
end Kp

namespace Kp
open PySem PySem.Spec PyProof.Rows L2 KpR
section
variable {K : PySem.W.Frag} {mg : Str → Option Value}
def spX2 (C : Addr) (f g : Str) : Sp := fun vs H Q _ => ∃ (a : Addr) (u v : V), vs = [.ref a, u, v] ∧ H a = some (exo a C none) ∧
  ∀ (H' : Hp) (d : Addr), H d = none → d ≠ a → H' a = some (exo a C (some d)) → H' d = some (exd d (f2s g v f u)) → Fr a H H' → Q .non H'
def spBadCountInit (T : Tx K mg) : Sp := spX2 T.cBadCount "what" "count"
def spBadStartInit (T : Tx K mg) : Sp := spX1 T.cBadStart "jar"
/-- how something is refused -/
inductive Rf where
  | count (x : Str) (n : Int) | jar (j : Nat) | wide (n : Int)
def Rf.cls (T : Tx K mg) : Rf → Addr
  | .count _ _ => T.cBadCount
  | .jar _ => T.cBadStart
  | .wide _ => T.cWide
def Rf.fs : Rf → List (Str × V)
  | .count x n => f2s "count" (.int n) "what" (.str x)
  | .jar j => f1s "jar" (.int j)
  | .wide n => f1s "count" (.int n)
def rE (T : Tx K mg) (H : Hp) (E : XK) (r : Rf) : Prop := ∀ (H' : Hp) (d : Addr), H' d = some (.xd r.fs) → Same H H' → E (.ref (r.cls T)) (some d) H'
theorem rE.same {T : Tx K mg} {H H1 : Hp} {E : XK} {r : Rf} (h : rE T H E r) (s : Same H H1) : rE T H1 E r := fun H' d e s' => h H' d e (s.trans s')
def outJ (caps st : List Int) (p : Int) (i : Nat) : Bool := !(decide (0 ≤ at0 st i) && decide (at0 st i ≤ at0 caps i * p))
def chk (caps st : List Int) (p : Int) : Option Rf :=
  if p < 1 then some (.count "parts" p) else if st.length = caps.length then ((List.range caps.length).find? (outJ caps st p)).map (fun i => .jar i) else some (.count "start" st.length)
def spcheckstart (T : Tx K mg) : Sp := fun vs H Q E => ∃ (j a : Addr) (caps st : List Int) (p : Int), vs = [.ref j, .ref a, .int p] ∧ JarsAt T H j caps ∧ (SqL K H a (vi st) ∨ SqT K H a (vi st)) ∧ p < 2 ^ 62 ∧
  (chk caps st p = none → ∀ H', Same H H' → Q .non H') ∧ ∀ r, chk caps st p = some r → rE T H E r
/-- all stands of so many rounds differ -/
def Apart (f : List Int → List Int) (x : List Int) (n : Nat) : Prop := ∀ i j, i < j → j ≤ n → it f i x ≠ it f j x
def spfate (T : Tx K mg) : Sp := fun vs H Q E => ∃ (r a : Addr) (ds : List D) (caps st : List Int) (p : Int), vs = [.ref r, .ref a, .int p] ∧ RowAt T H r caps ds ∧ (∀ d ∈ ds, d.ok caps) ∧ (SqL K H a (vi st) ∨ H a = some (.tup (vi st))) ∧ p < 2 ^ 62 ∧
  (∀ rf, chk caps st p = some rf → rE T H E rf) ∧
  (chk caps st p = none → (∃ t n : Nat, Fate (run caps p ds) st t n ∧ t + n ≤ 20000 ∧ ∀ (H' : Hp) (q : Addr), H q = none → H' q = some (.tup [.int t, .int n]) → Same H H' → Q (.ref q) H') ∨
    (Apart (run caps p ds) st 20000 ∧ rE T H E (.wide 20001)))
end
section
variable {P : Program} {w : World} {K : PySem.W.Frag} {mg : Str → Option Value} {base : Heap}
theorem okBadCountInit (T : Tx K mg) : FnOk P w K mg base CX0 1 T.aBadCountInit T.dBadCountInit ["self", "what", "count"] (spBadCountInit T) := by
  refine T.fBadCountInit.ok scBadCountInit (fun vs H Q E h => ?_) (fun cdv A outer s H vs Q E hr h => ?_)
  · obtain ⟨a, u, v, rfl, _⟩ := h
    rfl
  · obtain ⟨a, u, v, rfl, ha, hq⟩ := h
    refine ⟨_, (pss_cons (ps_ost (pv 0) (pv 1))
      (pss_one (ps_ost (pv 0) (pv 2)))), ?_⟩
    refine ⟨_, rfl, _, rfl, a, _, rfl, T.oBadCount, T.nBadCount_what, .inl ⟨ha, fun d hd ne => ?_⟩⟩
    refine ⟨_, rfl, _, rfl, a, _, rfl, T.oBadCount, T.nBadCount_count, .inr ⟨d, _, upd_same, by rw [upd_ne ne]; exact upd_same, (by show 1 ≤ 900; decide), ?_⟩⟩
    refine hq _ d hd ne (by rw [upd_ne ne.symm]; exact upd_same) upd_same ?_
    exact fun b o n1 e => by
      have n2 := ne_of_none e hd
      rw [upd_ne n2, upd_ne n1, upd_ne n2]
      exact e
theorem okBadStartInit (T : Tx K mg) : FnOk P w K mg base CX0 1 T.aBadStartInit T.dBadStartInit ["self", "jar"] (spBadStartInit T) := by
  refine T.fBadStartInit.ok scBadStartInit (fun vs H Q E h => ?_) (fun cdv A outer s H vs Q E hr h => ?_)
  · obtain ⟨a, u, rfl, _⟩ := h
    rfl
  · obtain ⟨a, u, rfl, ha, hq⟩ := h
    refine ⟨_, (pss_one (ps_ost (pv 0) (pv 1))), ?_⟩
    refine ⟨_, rfl, _, rfl, a, _, rfl, T.oBadStart, T.nBadStart_jar, .inl ⟨ha, fun d hd ne => ?_⟩⟩
    refine hq _ d hd ne upd_same (by rw [upd_ne ne]; exact upd_same) ?_
    exact fun b o n1 e => by
      have n2 := ne_of_none e hd
      rw [upd_ne n1, upd_ne n2]
      exact e
theorem x2_made {H : Hp} {C : Addr} {f g : Str} {u v : V} {E : XK} (h : ∀ (H' : Hp) (d : Addr), H' d = some (.xd (f2s g v f u)) → Same H H' → E (.ref C) (some d) H') : ∀ a, H a = none → spX2 C f g [.ref a, u, v] (upd H a (exo a C none))
    (fun v H2 => v = .non ∧ ∃ (d : Addr) (fs : List (Str × V)), H2 a = some (exo a C (some d)) ∧ H2 d = some (exd d fs) ∧ H d = none ∧ E (.ref C) (some d) (upd (del H2 a) d (.xd fs))) (fun _ _ _ => False) := fun a ha => by
  refine ⟨a, u, v, rfl, upd_same, fun H' d hd ne e1 e2 fr => ⟨rfl, d, _, e1, e2, by rw [upd_ne ne] at hd; exact hd, ?_⟩⟩
  have hd0 : H d = none := by rw [upd_ne ne] at hd; exact hd
  refine h _ d upd_same fun b o e => ?_
  have n1 := ne_of_none e ha
  have n2 := ne_of_none e hd0
  rw [upd_ne n2, del_ne n1]
  exact fr b o n1 (by rw [upd_ne n1]; exact e)
theorem chk_parts {caps st : List Int} {p : Int} (h : p < 1) : chk caps st p = some (.count "parts" p) := by unfold chk; rw [if_pos h]
theorem chk_len {caps st : List Int} {p : Int} (h : ¬ p < 1) (hl : ¬ st.length = caps.length) : chk caps st p = some (.count "start" st.length) := by unfold chk; rw [if_neg h, if_neg hl]
theorem chk_jar {caps st : List Int} {p : Int} {i : Nat} (h : ¬ p < 1) (hl : st.length = caps.length) (hi : i < caps.length) (hb : outJ caps st p i = true) (no : ∀ k, k < i → outJ caps st p k = false) : chk caps st p = some (.jar i) := by
  unfold chk
  rw [if_neg h, if_pos hl, List.find?_range_eq_some.mpr ⟨hb, by simpa using hi, fun k hk => by rw [no k hk]; rfl⟩]
  rfl
theorem chk_ok {caps st : List Int} {p : Int} (h : ¬ p < 1) (hl : st.length = caps.length) (no : ∀ k, k < caps.length → outJ caps st p k = false) : chk caps st p = none := by
  unfold chk
  rw [if_neg h, if_pos hl, List.find?_range_eq_none.mpr (fun k hk => by rw [no k hk]; rfl)]
  rfl
theorem outJ_no {caps st : List Int} {p : Int} {i : Nat} : outJ caps st p i = false ↔ 0 ≤ at0 st i ∧ at0 st i ≤ at0 caps i * p := by
  unfold outJ
  simp
theorem chk_none {caps st : List Int} {p : Int} (h : chk caps st p = none) : 1 ≤ p ∧ Stand caps p st := by
  unfold chk at h
  split at h
  · cases h
  · rename_i h1
    split at h
    · rename_i h2
      rw [Option.map_eq_none_iff, List.find?_range_eq_none] at h
      have z : ∀ i, i < caps.length → 0 ≤ at0 st i ∧ at0 st i ≤ at0 caps i * p := fun i hi => outJ_no.mp (by have := h i hi; simpa using this)
      exact ⟨by omega, ⟨h2, fun i hi => (z i hi).1, fun i hi => (z i hi).2⟩⟩
    · cases h
theorem iteNF {c : Prop} [Decidable c] {A B : Prop} (hc : ¬ c) (h : A) : if (!decide c) = true then A else B := by
  rw [decide_eq_false hc]
  exact h
theorem okcheckstart (T : Tx K mg) : FnOk P w K mg base (L2.CX P w) 3 T.acheckstart T.dcheckstart ["jars", "start", "parts"] (spcheckstart T) := by
  refine T.fcheckstart.okX sccheckstart (fun vs H Q E h => ?_) (fun cdv A outer s H vs Q E hr h => ?_)
  · obtain ⟨j, a, caps, st, p, rfl, _⟩ := h
    rfl
  · obtain ⟨j, a, caps, st, p, rfl, hJ, hS, p2, hq, hx⟩ := h
    refine ⟨_, (pss_cons (ps_if (pt_cmpR op_lt (pv 2) pe_int (nomark _)) (pss_one (ps_raise rfl (takes_of rfl rfl rfl rfl) (pmk_oex T.oBadCount T.iBadCount T.tBadCount (okBadCountInit T) (hr.mono (by decide)) T.bBadCountInit .nil pass0 rfl T.mBadCount (pa_cons pe_str (pa_cons (pv 2) pa_nil))))) pss_nil)
      (pss_cons (ps_if (pt_cmpR op_ne (pe_callB call_len_seq rfl T.nlen PySem.boot_len (pa_cons (pv 1) pa_nil)) (pe_callB call_len_seq rfl T.nlen PySem.boot_len (pa_cons (pe_fld (pv 0) rfl) pa_nil)) (nomark _)) (pss_one (ps_raise rfl (takes_of rfl rfl rfl rfl) (pmk_oex T.oBadCount T.iBadCount T.tBadCount (okBadCountInit T) (hr.mono (by decide)) T.bBadCountInit .nil pass0 rfl T.mBadCount (pa_cons pe_str (pa_cons (pe_callB call_len_seq rfl T.nlen PySem.boot_len (pa_cons (pv 1) pa_nil)) pa_nil))))) pss_nil)
      (pss_one (ps_for (passes_of rfl) rfl (pi_enumT rfl T.nenumerate (pa_cons (pe_fld (pv 0) rfl) pa_nil)) (pg_tup rfl (pgs_cons (pg_name (i := 3) sccheckstart.nd rfl (by first | exact Or.inl rfl | exact Or.inr rfl)) (pgs_cons (pg_name (i := 4) sccheckstart.nd rfl (by first | exact Or.inl rfl | exact Or.inr rfl)) pgs_nil))) (pss_one (ps_if (pt_not (pt_chain op_le op_le pe_int (pe_ix (r := rIx K) ix_seq (pv 1) (pv 3) (fun _ _ => rfl)) (pe_op op_mul (pv 4) (pv 2)))) (pss_one (ps_raise rfl (takes_of rfl rfl rfl rfl) (pmk_oex T.oBadStart T.iBadStart T.tBadStart (okBadStartInit T) (hr.mono (by decide)) T.bBadStartInit .nil pass0 rfl T.mBadStart (pa_cons (pv 3) pa_nil)))) pss_nil)))))), ?_⟩
    obtain ⟨jx, t, e1, e2⟩ := hJ
    refine ⟨_, rfl, _, _, rfl, rfl, _, rfl, ifD (fun p1 => ?_) (fun p1 => ?_)⟩
    · exact ⟨_, rfl, (by show 2 ≤ 1000; decide), x2_made (hx _ (chk_parts p1))⟩
    refine ⟨_, rfl, a, _, rfl, hS, _, rfl, j, _, jx, _, _, rfl, e1, T.lJars, T.nJars_sizes, lk1, t, _, rfl, .inr (SqT.of e2), rfl, _, rfl, ?_⟩
    have ls : (vi st).length = st.length := List.length_map ..
    have lc : (vi caps).length = caps.length := List.length_map ..
    by_cases hl : st.length = caps.length
    rotate_left
    · refine iteNF (by rw [ls, lc]; intro z; exact hl (by injection z with z; omega)) ?_
      refine ⟨_, rfl, a, _, rfl, hS, (by show 2 ≤ 1000; decide), x2_made ?_⟩
      have := hx _ (chk_len p1 hl)
      rw [ls]
      exact this
    refine iteNS (by rw [ls, lc, hl]) ?_
    refine ⟨_, rfl, j, _, jx, _, _, rfl, e1, T.lJars, T.nJars_sizes, lk1, t, _, rfl, SqT.of e2, ?_⟩
    refine for_enumT (K := K) (a := t) (xs := vi caps) (fun i σ H' => ∃ u v : Option V, σ = [some (.ref j), some (.ref a), some (.int p), u, v] ∧ (∀ k, k < i → outJ caps st p k = false) ∧ Same H H') ⟨none, none, rfl, (fun k hk => absurd hk (Nat.not_lt_zero _)), Same.refl _⟩ (fun i σ H' _ ⟨_, _, _, _, e⟩ => sameT e (SqT.of e2)) ?_ ?_
    · rintro i y N σ H' hi ⟨u, v, rfl, no, sm⟩ hN
      obtain ⟨z, hz, rfl⟩ := vi_get hi
      have lt : i < caps.length := (List.getElem?_eq_some_iff.mp hz).1
      have ez := at0_of hz
      have s2 : Same H (upd H' N (.tup [.int (i : Nat), .int z])) := sm.trans (same_new hN)
      refine ⟨N, _, rfl, SqT.of upd_same, rfl, _, _, rfl, _, _, rfl, rfl, ?_⟩
      have l2 : i < st.length := by rw [hl]; exact lt
      have bad : outJ caps st p i = true → rE T (upd H' N (.tup [.int (i : Nat), .int z])) E (.jar i) := fun hb => (hx _ (chk_jar p1 hl lt hb no)).same s2
      refine ⟨_, rfl, _, rfl, rix_any (sameA s2 hS) (vi_at l2) ⟨_, _, rfl, rfl, _, rfl, ?_⟩⟩
      by_cases g1 : 0 ≤ at0 st i
      · refine ifT (decide_eq_true g1) ?_
        refine ⟨_, rfl, _, rfl, _, _, rfl, rfl, .inr (mulP (by omega) p2), _, _, rfl, rfl, _, rfl, ?_⟩
        by_cases g2 : at0 st i ≤ z * p
        · refine iteNS g2 ?_
          refine ⟨_, _, rfl, fun k hk => ?_, s2⟩
          rcases Nat.lt_or_ge k i with h | h
          · exact no k h
          · obtain rfl : k = i := by omega
            exact outJ_no.mpr ⟨g1, by rw [ez]; exact g2⟩
        · refine iteNF g2 ?_
          refine ⟨_, rfl, (by show 1 ≤ 1000; decide), x1_made (bad ?_)⟩
          cases hb : outJ caps st p i with
          | true => rfl
          | false => exact absurd (outJ_no.mp hb).2 (by rw [ez]; exact g2)
      · refine ifF (decide_eq_false g1) ?_
        refine ⟨_, rfl, ifT rfl ⟨_, rfl, (by show 1 ≤ 1000; decide), x1_made (bad ?_)⟩⟩
        cases hb : outJ caps st p i with
        | true => rfl
        | false => exact absurd (outJ_no.mp hb).1 g1
    · rintro σ H' ⟨u, v, rfl, no, sm⟩
      rw [lc] at no
      exact hq (chk_ok p1 hl no) _ sm
theorem okfate (T : Tx K mg) : FnOk P w K mg base (L2.CX P w) 4 T.afate T.dfate ["row", "start", "parts"] (spfate T) := by
  refine T.ffate.ok scfate (fun vs H Q E h => ?_) (fun cdv A outer s H vs Q E hr h => ?_)
  · obtain ⟨r, a, ds, caps, st, p, rfl, _⟩ := h
    rfl
  · obtain ⟨r, a0, ds, caps, st, p, rfl, hR, ok, ha, p2, hx, hq⟩ := h
    refine ⟨_, (pss_cons (ps_expr (pe_call (okcheckstart T) (hr.mono (by decide)) rfl T.gcheckstart T.fcheckstart.kp T.bcheckstart .nil (passes_call (W := fun c d _ H => E c d H) (takes_of rfl rfl rfl rfl) (fun _ _ _ _ h => h)) (pa_cons (pe_fld (pv 0) rfl) (pa_cons (pv 1) (pa_cons (pv 2) pa_nil)))))
      (C8.pss_cut (ps_set (i := 3) scfate.nd rfl (by first | exact Or.inl rfl | exact Or.inr rfl) (pe_callTy call_tuple_of rfl T.ntuple (by decide +kernel) (pa_cons (pv 1) pa_nil)))
      (pss_cons (ps_set (i := 4) scfate.nd rfl (by first | exact Or.inl rfl | exact Or.inr rfl) (pe_dispT (hu_of hr) (pv 3) pe_int))
      (pss_cons (ps_for (passes_of rfl) rfl (pi_range2 rfl T.nrange (pa_cons pe_int (pa_cons (pe_op op_add (pe_glob (v := .int 20000) rfl T.cMOSTROUNDS ⟨_, rfl⟩) pe_int) pa_nil))) (pg_name (i := 5) scfate.nd rfl (by first | exact Or.inl rfl | exact Or.inr rfl)) (pss_cons (ps_set (i := 3) scfate.nd rfl (by first | exact Or.inl rfl | exact Or.inr rfl) (pe_callTy call_tuple_of rfl T.ntuple (by decide +kernel) (pa_cons (pe_call (okbehindround T) (hr.mono (by decide)) rfl T.gbehindround T.fbehindround.kp T.bbehindround .nil pass0 (pa_cons (pv 0) (pa_cons (pv 3) (pa_cons (pv 2) pa_nil)))) pa_nil)))
      (pss_cons (ps_if (pt_cmp (pc_din (hu_of hr) (pv 3) (pv 4)) (by rfl)) (pss_one (ps_ret (pe_tup (pa_cons (pe_dget (hu_of hr) (pv 4) (pv 3) (fun _ _ => rfl)) (pa_cons (pe_op op_sub (pv 5) (pe_dget (hu_of hr) (pv 4) (pv 3) (fun _ _ => rfl))) pa_nil))))) pss_nil)
      (pss_one (ps_dput (hu_of hr) (pv 4) (pv 3) (pv 5) rfl)))))
      (pss_one (ps_raise rfl (takes_of rfl rfl rfl rfl) (pmk_oex T.oWide T.iWide T.tWide (okWideInit T) (hr.mono (by decide)) T.bWideInit .nil pass0 rfl T.mWide (pa_cons (pe_op op_add (pe_glob (v := .int 20000) rfl T.cMOSTROUNDS ⟨_, rfl⟩) pe_int) pa_nil)))))))), ?_⟩
    obtain ⟨rx, j, tt, us, r1, r2, r3, r4⟩ := id hR
    refine ⟨_, rfl, r, _, rx, _, _, rfl, r1, T.lRow, T.nRow_jars, lk1, _, rfl, _, rfl, j, a0, caps, st, p, rfl, r2, ha.imp id SqT.of, p2, fun hc H1 s1 => ?_, hx⟩
    obtain ⟨p1, hst⟩ := chk_none hc
    replace hq := hq hc
    replace hx := True.intro
    -- N: before round N nothing has come again
    obtain ⟨N, hN, dist, hend⟩ : ∃ N : Nat, N ≤ 20001 ∧ (∀ i j, i < j → j < N → it (run caps p ds) i st ≠ it (run caps p ds) j st) ∧ ((N = 20001 ∧ rE T H E (.wide 20001)) ∨ ∃ t n : Nat, 1 ≤ n ∧ t + n = N ∧ N ≤ 20000 ∧ it (run caps p ds) N st = it (run caps p ds) t st ∧ ∀ (H' : Hp) (q : Addr), H q = none → H' q = some (.tup [.int t, .int n]) → Same H H' → Q (.ref q) H') := by
      rcases hq with ⟨t, n, hF, hB, hq⟩ | ⟨hA, hq⟩
      · exact ⟨t + n, by omega, hF.dist, .inr ⟨t, n, hF.pos, rfl, hB, hF.ring, hq⟩⟩
      · exact ⟨20001, Nat.le_refl _, fun i j h1 h2 => hA i j h1 (by omega), .inl ⟨rfl, hq⟩⟩
    have N1 : 1 ≤ N := by
      rcases hend with ⟨e, _⟩ | ⟨t, n, n1, e, _⟩ <;> omega
    refine ⟨fun σ' H' => ∃ b, σ' = [some (.ref r), some (.ref a0), some (.int p), some (.ref b), none, none] ∧ Same H H' ∧ H' b = some (.tup (vi st)), ?_, ?_⟩
    · rcases ha with ha | ha
      · exact ⟨_, rfl, a0, _, rfl, .inl ⟨s1.seq ha, fun l hl => ⟨l, rfl, s1.trans (same_new hl), upd_same⟩⟩⟩
      · exact ⟨_, rfl, a0, _, rfl, .inr ⟨SqT.of (s1 _ _ ha), ⟨a0, rfl, s1, s1 _ _ ha⟩⟩⟩
    replace s1 := True.intro
    rintro σ' H1 ⟨a, rfl, s1, ha1⟩
    refine fun D hD => ⟨_, rfl, upd_same, a, keyI st, rfl, (by rw [key_vi]; exact same_new hD _ _ ha1), ?_⟩
    have s2 : Same H (upd (upd H1 D (.dT [])) D (.dT [(keyI st, .int 0)])) := s1.trans (same_mut (same_new hD) hD)
    have d2 : (upd (upd H1 D (.dT [])) D (.dT [(keyI st, .int 0)])) D = some (.dT (seenAt (run caps p ds) st 1)) := upd_same
    have HD : H D = none := s1.free hD
    have a2 := (same_mut (same_new (o := .dT []) hD) hD (o := .dT [(keyI st, .int 0)])) _ _ ha1
    generalize upd (upd H1 D (.dT [])) D (.dT [(keyI st, V.int 0)]) = H2 at s2 d2 a2 ⊢
    refine ⟨_, _, rfl, rfl, _, _, rfl, ⟨by omega, by omega, by omega, by omega⟩, ?_⟩
    show ∃ W, _
    refine for_range (lo := 1) (n := ((20000 : Int) + 1 - 1).toNat) (fun k σ H' => ∃ (b : Addr) (v : Option V), σ = [some (.ref r), some (.ref a0), some (.int p), some (.ref b), some (.ref D), v] ∧ k < N ∧ H' b = some (.tup (vi (it (run caps p ds) k st))) ∧ H' D = some (.dT (seenAt (run caps p ds) st (k + 1))) ∧ Same H H') ⟨a, none, rfl, by omega, a2, d2, s2⟩ ?_ ?_
    · rintro k σ H' hk ⟨b, v, rfl, kt, hb, hd, sm⟩
      have hk : k < 20000 := by
        have : ((20000 : Int) + 1 - 1).toNat = 20000 := by decide
        omega
      have Lk : (it (run caps p ds) k st).length = caps.length := by rw [← runs_it, runs_len, hst.len]
      refine ⟨_, rfl, _, rfl, _, rfl, r, b, ds, caps, _, p, rfl, hR.same sm, ok, .inr (SqT.of hb), p1, p2, Lk, fun H3 q q0 hq3 s3 => ?_⟩
      refine ⟨q, _, rfl, .inl ⟨SqL.of hq3, fun b2 hb2 => ?_⟩⟩
      have s4 := s3.trans (same_new (o := .tup (vi (run caps p ds (it (run caps p ds) k st)))) hb2)
      have h4 : (upd H3 b2 (.tup (vi (run caps p ds (it (run caps p ds) k st))))) b2 = some (.tup ((keyI (it (run caps p ds) (k + 1) st)).map kV)) := by rw [key_vi]; exact upd_same
      generalize upd H3 b2 _ = H4 at s4 h4 ⊢
      have d4 := s4 _ _ hd
      have g := DGet.t d4 h4
      refine ⟨_, rfl, _, rfl, D, _, rfl, g, _, rfl, ?_⟩
      by_cases e : k + 1 = N
      · rcases hend with ⟨e2, _⟩ | ⟨t, n, n1, e2, e3, ring, hq⟩
        · omega
        have eq : it (run caps p ds) (k + 1) st = it (run caps p ds) t st := by rw [e]; exact ring
        have v1 : valV (seenAt (run caps p ds) st (k + 1)) (keyI (it (run caps p ds) (k + 1) st)) = some (V.int t) := by
          rw [eq]
          exact seen_some (by omega) fun i k2 h1 h2 => dist i k2 h1 (by omega)
        rw [v1] at g ⊢
        refine ifT rfl ?_
        refine ⟨_, rfl, _, rfl, D, _, rfl, g, _, rfl, _, rfl, _, rfl, D, _, rfl, g, _, _, rfl, rfl, (by show 2 ≤ sizeLine; decide), fun q5 hq5 => ?_⟩
        have s5 := same_new (o := .tup [V.int t, V.int (1 + (k : Int) - (t : Int))]) hq5
        refine hq _ q5 ((sm.trans s4).free hq5) ?_ ((sm.trans s4).trans s5)
        rw [show (n : Int) = 1 + (k : Int) - (t : Int) by omega]
        exact upd_same
      · have ne : ∀ i, i < k + 1 → it (run caps p ds) i st ≠ it (run caps p ds) (k + 1) st := fun i hi => dist i (k + 1) hi (by omega)
        rw [seen_none ne]
        refine ifF rfl ?_
        refine ⟨_, rfl, _, rfl, _, rfl, D, _, rfl, DPut.t d4 h4 (Nat.lt_of_le_of_lt (by unfold seenAt; rw [List.length_map, List.length_range]; omega : _ ≤ 20001) (by decide)), ?_⟩
        refine ⟨b2, _, rfl, by omega, ?_, ?_, same_mut (sm.trans s4) HD⟩
        · have n : b2 ≠ D := fun z => by rw [z, d4] at h4; cases h4
          rw [key_vi] at h4
          rw [upd_ne n]
          exact h4
        · have ec : (1 : Int) + (k : Int) = ((k + 1 : Nat) : Int) := by omega
          rw [upd_same, ec, seen_put ne]
    · rintro σ H' ⟨b, v, rfl, kt, hb, hd, sm⟩
      have e20 : ((20000 : Int) + 1 - 1).toNat = 20000 := by decide
      rcases hend with ⟨e2, hq⟩ | ⟨t, n, n1, e2, e3, ring, hq⟩
      · refine ⟨_, _, rfl, rfl, (by show 1 ≤ 1000; decide), x1_made fun H2 d hd s2 => hq H2 d hd (sm.trans s2)⟩
      · omega
end
end Kp

namespace Kp
open PySem PySem.Spec PyProof.Rows L2 KpR LamX
theorem takes_len {X : Cx} {W : WX} {n : Nat} (tk : Takes X W) (hn : X.N.length = n) : Takes X (fun cls d σ H => σ.length = n → W cls d σ H) := fun u s' ⟨a, B, sI, pins, σ, H, cls, d, e, I, nb, up, sky, na, os, ag, w⟩ =>
  tk u s' ⟨a, B, sI, pins, σ, H, cls, d, e, I, nb, up, sky, na, os, ag, w (by rw [← hn]; exact I.len)⟩
def Rf.row : Rf → List V
  | .count w n => [.str "count", .str w, .int n, .bl false]
  | .jar j => [.str "start", .int j, .int 0, .bl false]
  | .wide n => [.str "wide", .int 0, .int n, .bl false]
def OutAt (H : Hp) (x : V) : Option Rf → Prop
  | none => x = .non
  | some r => ∃ p, x = .ref p ∧ H p = some (.tup r.row)
theorem OutAt.same {H H' : Hp} {x : V} {r : Option Rf} (h : OutAt H x r) (e : Same H H') : OutAt H' x r := by
  cases r with
  | none => exact h
  | some r =>
    obtain ⟨p, rfl, h⟩ := h
    exact ⟨p, rfl, e _ _ h⟩
section
variable {K : PySem.W.Frag} {mg : Str → Option Value}
/-- told: whichever way a refusal is taken up, such that its words are answered -/
def TSaid (T : Tx K mg) : (XK → Hp → VK → Prop) → Hp → VK → Prop := fun tl H Q =>
  ∀ E : XK, (∀ (r : Rf) (G : Hp), (∀ (H' : Hp) (x : V), OutAt H' x (some r) → Same G H' → Q x H') → rE T G E r) → tl E H (fun _ H' => Q .non H')
def saidL (K : PySem.W.Frag) {mg : Str → Option Value} (T : Tx K mg) : List (Value × Nat × (Addr → Value → Option Addr → TS)) :=
  [(.ref T.cBadCount, 1, fun a cls d => tRet (tTup (tCons (tC (.str "count")) (tCons (tXf a cls d T.cBadCount "what" (tVar 1)) (tCons (tXf a cls d T.cBadCount "count" (tVar 1)) (tCons (tCB (rIsXT K a T.cBadCount cls d) (tCons (tVar 1) (tCons (tTup (tCons (tC (.ref T.cBadStart)) (tCons (tC (.ref T.cWide)) tNil))) tNil))) tNil)))))),
   (.ref T.cBadStart, 1, fun a cls d => tRet (tTup (tCons (tC (.str "start")) (tCons (tXf a cls d T.cBadStart "jar" (tVar 1)) (tCons (tC (.int 0)) (tCons (tCB (rIsX K a T.cBadStart cls d) (tCons (tVar 1) (tCons (tC (.ref T.cWide)) tNil))) tNil)))))),
   (.ref T.cWide, 1, fun a cls d => tRet (tTup (tCons (tC (.str "wide")) (tCons (tC (.int 0)) (tCons (tXf a cls d T.cWide "count" (tVar 1)) (tCons (tC (.bl false)) tNil))))))]
theorem said_bad {T : Tx K mg} {G : Hp} {Q : VK} (D : Ends) (r : Rf) (hD : D.rt = Q) (hq : ∀ (H' : Hp) (x : V), OutAt H' x (some r) → Same G H' → Q x H') : rE T G (anyL 2 (wNam K (fun _ _ _ _ => False) D (saidL K T))) r := by
  subst hD
  intro H' d hd sm σ hl
  obtain ⟨v0, v1, rfl⟩ : ∃ v0 v1, σ = [v0, v1] := match σ, hl with
    | [v0, v1], _ => ⟨v0, v1, rfl⟩
  have no : ∀ {A : Prop}, false = true → A := fun z => by cases z
  have no' : ∀ {A : Prop}, true = false → A := fun z => by cases z
  cases r with
  | count x n =>
    refine ⟨true, T.emBadCount_BadCount, fun _ a ha => ?_, no'⟩
    refine ⟨_, rfl, rfl, rfl, d, _, _, rfl, hd, lk2 (by decide +kernel), _, rfl, rfl, rfl, d, _, _, rfl, hd, lk1, ?_⟩
    refine ⟨_, rfl, (by show 2 ≤ sizeLine; decide), fun t ht => ?_⟩
    have s1 := same_new (o := HO.tup [V.ref T.cBadStart, V.ref T.cWide]) ht
    refine ⟨t, _, _, false, d, _, rfl, upd_same, .cons (.own _) (.cons (.own _) .nil), kitAny_no2 T.ixBadCount_BadStart T.ixBadCount_Wide, rfl, rfl, s1 _ _ hd, (by show 4 ≤ sizeLine; decide), fun p hp => ?_⟩
    exact hq _ _ ⟨p, rfl, upd_same⟩ ((sm.trans s1).trans (same_new hp))
  | jar j =>
    refine ⟨false, T.emBadStart_BadCount, no, fun _ => ⟨true, T.emBadStart_BadStart, fun _ a ha => ?_, no'⟩⟩
    refine ⟨_, rfl, rfl, rfl, d, _, _, rfl, hd, lk1, ?_⟩
    refine ⟨_, rfl, .ref T.cWide, .ref T.cWide, false, d, _, rfl, fun _ h => h, T.ixBadStart_Wide, rfl, rfl, hd, (by show 4 ≤ sizeLine; decide), fun p hp => ?_⟩
    exact hq _ _ ⟨p, rfl, upd_same⟩ (sm.trans (same_new hp))
  | wide n =>
    refine ⟨false, T.emWide_BadCount, no, fun _ => ⟨false, T.emWide_BadStart, no, fun _ => ⟨true, T.emWide_Wide, fun _ a ha => ?_, no'⟩⟩⟩
    refine ⟨_, rfl, rfl, rfl, d, _, _, rfl, hd, lk1, (by show 4 ≤ sizeLine; decide), fun p hp => ?_⟩
    exact hq _ _ ⟨p, rfl, upd_same⟩ (sm.trans (same_new hp))
theorem said_gives {X : Cx} (T : Tx X.K X.mg) {g : Addr} {cdg : Value} {q : Str} : GivesTo X ["_law_ask", "e"] "_law_said" (defScope sLsaid) g cdg (defBody sLsaid) "_law_ask" q (TSaid T) := by
  intro f c' s H Q tl act hc h
  let K := X.K
  refine ⟨_, (pss_cons (ps_try_nam rfl rfl scLsaid.nd (fun W qn xe tk po => (pss_one (ps_expr (act (fun c d σ H => σ.length = 2 → W c d σ H) qn xe (anyL 2 W) _ _ (takes_len tk rfl) (fun _ _ σ' _ h hl => h σ' hl)))))
      (NamOk.cons (i := 1) rfl rfl ⟨rfl, by decide, .inl T.mBadCount⟩ (fun xa xo xc xd xq hz hf => (pss_one (ps_ret (pe_tup (pa_cons pe_str (pa_cons (pe_xf T.xfBadCount T.nBadCount_what hz hf (pv 1)) (pa_cons (pe_xf T.xfBadCount T.nBadCount_count hz hf (pv 1)) (pa_cons (pe_callB (call_isXT T.xcBadCount hz hf) rfl T.nisinstance (by decide +kernel) (pa_cons (pv 1) (pa_cons (pe_tup (pa_cons (pe_glob (v := .ref T.cBadStart) rfl T.mBadStart rfl) (pa_cons (pe_glob (v := .ref T.cWide) rfl T.mWide rfl) pa_nil))) pa_nil))) pa_nil))))))))
      (NamOk.cons (i := 1) rfl rfl ⟨rfl, by decide, .inl T.mBadStart⟩ (fun xa xo xc xd xq hz hf => (pss_one (ps_ret (pe_tup (pa_cons pe_str (pa_cons (pe_xf T.xfBadStart T.nBadStart_jar hz hf (pv 1)) (pa_cons pe_int (pa_cons (pe_callB (call_isX T.xcBadStart hz hf) rfl T.nisinstance (by decide +kernel) (pa_cons (pv 1) (pa_cons (pe_glob (v := .ref T.cWide) rfl T.mWide rfl) pa_nil))) pa_nil))))))))
      (NamOk.cons (i := 1) rfl rfl ⟨rfl, by decide, .inl T.mWide⟩ (fun xa xo xc xd xq hz hf => (pss_one (ps_ret (pe_tup (pa_cons pe_str (pa_cons pe_int (pa_cons (pe_xf T.xfWide T.nWide_count hz hf (pv 1)) (pa_cons pe_bl pa_nil))))))))
      NamOk.nil))))
      (pss_one (ps_ret pe_non))), ?_⟩
  refine ⟨rfl, hc, ?_⟩
  refine h _ fun r G hq => ?_
  exact said_bad _ r rfl hq
end
end Kp

namespace Kp
open PySem PySem.Spec PyProof.Rows L2 KpR LamX
section
variable {K : PySem.W.Frag} {mg : Str → Option Value}
def spLoddstart (T : Tx K mg) : Sp := fun vs H Q _ => ∃ (u c : Addr) (caps : List Int) (p : Int) (n : Nat), vs = [.ref u, .ref c, .int p] ∧ WellAt n H u ∧ n ≤ 8000 ∧ H c = some (.tup (vi caps)) ∧ 1 ≤ caps.length ∧ caps.length ≤ 6 ∧ (∀ x ∈ caps, 1 ≤ x ∧ x ≤ 1000) ∧ 1 ≤ p ∧ p ≤ 100 ∧
  ∀ (H' : Hp) (q a : Addr) (st : List Int) (rf : Rf) (dv : V), H' q = some (.tup [.ref a, dv]) → H a = none → H' a = some (.lst (vi st)) → st.length ≤ 7 → chk caps st p = some rf → OutAt H' dv (some rf) → WellAt (n + 60) H' u → Fr u H H' → Q (.ref q) H'
def outs (caps st : List Int) (p : Int) (i : Nat) : List Int := ((List.range i).filter (outJ caps st p)).map Int.ofNat
theorem outs_chk {caps st : List Int} {p : Int} (h : ¬ p < 1) (hl : st.length = caps.length) : (outs caps st p caps.length = [] ∧ chk caps st p = none) ∨ ∃ k r, outs caps st p caps.length = Int.ofNat k :: r ∧ chk caps st p = some (.jar k) := by
  unfold outs chk
  rw [if_neg h, if_pos hl, ← List.head?_filter]
  cases e : (List.range caps.length).filter (outJ caps st p) with
  | nil => exact .inl ⟨rfl, rfl⟩
  | cons k r => exact .inr ⟨k, r.map Int.ofNat, rfl, rfl⟩
theorem outs_succ {caps st : List Int} {p : Int} {i : Nat} : outs caps st p (i + 1) = if outJ caps st p i = true then outs caps st p i ++ [Int.ofNat i] else outs caps st p i := by
  unfold outs
  rw [List.range_succ, List.filter_append, List.map_append, List.filter_cons]
  split <;> simp_all
end
section
variable {P : Program} {w : World} {K : PySem.W.Frag} {mg : Str → Option Value} {base : Heap}
theorem okLoddstart (T : Tx K mg) : FnOk P w K mg base CX0 3 T.aLoddstart T.dLoddstart ["_law_well_here", "_law_sizes_here", "_law_shares"] (spLoddstart T) := by
  refine T.fLoddstart.ok scLoddstart (fun vs H Q E h => ?_) (fun cdv A outer s H vs Q E hr h => ?_)
  · obtain ⟨u, c, caps, p, n, rfl, _⟩ := h
    rfl
  · obtain ⟨u, c, caps, p, n, rfl, hw, n8, hc, c1, c6, cb, p1, p2, hq⟩ := h
    refine ⟨_, (pss_cons (ps_set (i := 3) scLoddstart.nd rfl (by first | exact Or.inl rfl | exact Or.inr rfl) (pe_callTy call_list_of rfl T.nlist (by decide +kernel) (pa_cons (pe_call (okLstart T) (hr.mono (by decide)) rfl T.gLstart T.fLstart.kp T.bLstart .nil pass0 (pa_cons (pv 0) (pa_cons (pv 1) (pa_cons (pv 2) pa_nil)))) pa_nil)))
      (pss_cons (ps_set (i := 4) scLoddstart.nd rfl (by first | exact Or.inl rfl | exact Or.inr rfl) (pe_call (okLdraw T) (hr.mono (by decide)) rfl T.gLdraw T.fLdraw.kp T.bLdraw .nil pass0 (pa_cons (pv 0) (pa_cons pe_int pa_nil))))
      (pss_cons (ps_if (pt_cmpR op_eq (pv 4) pe_int (nomark _)) (pss_cons (ps_expr (pe_bm PySem.F.plainAttrs_list PySem.F.slot_list_append PySem.F.type_list_append mt_append (pv 3) (pa_cons (pe_call (okLdraw T) (hr.mono (by decide)) rfl T.gLdraw T.fLdraw.kp T.bLdraw .nil pass0 (pa_cons (pv 0) (pa_cons pe_int pa_nil))) pa_nil)))
      (pss_one (ps_ret (pe_tup (pa_cons (pv 3) (pa_cons (pe_tup (pa_cons pe_str (pa_cons pe_str (pa_cons (pe_callB call_len_seq rfl T.nlen PySem.boot_len (pa_cons (pv 3) pa_nil)) (pa_cons pe_bl pa_nil))))) pa_nil)))))) pss_nil)
      (pss_cons (ps_if (pt_cmpR op_eq (pv 4) pe_int (nomark _)) (pss_one (ps_ret (pe_tup (pa_cons (pe_slice sl_list (pv 3) (po_some pe_int) po_none) (pa_cons (pe_tup (pa_cons pe_str (pa_cons pe_str (pa_cons (pe_op op_sub (pe_callB call_len_seq rfl T.nlen PySem.boot_len (pa_cons (pv 3) pa_nil)) pe_int) (pa_cons pe_bl pa_nil))))) pa_nil))))) pss_nil)
      (pss_cons (ps_for PassesOwn.never rfl (pi_range1 rfl T.nrange (pa_cons (pe_op op_sub (pv 4) pe_int) pa_nil)) (pg_name (i := 5) scLoddstart.nd rfl (by first | exact Or.inl rfl | exact Or.inr rfl)) (pss_cons (ps_set (i := 6) scLoddstart.nd rfl (by first | exact Or.inl rfl | exact Or.inr rfl) (pe_call (okLdraw T) (hr.mono (by decide)) rfl T.gLdraw T.fLdraw.kp T.bLdraw .nil pass0 (pa_cons (pv 0) (pa_cons (pe_callB call_len_seq rfl T.nlen PySem.boot_len (pa_cons (pv 1) pa_nil)) pa_nil))))
      (pss_one (ps_asg (pe_ix (r := rIxL K) ix_list (pe_lst (pa_cons (pe_op op_sub (pe_op op_sub pe_int pe_int) (pe_call (okLdraw T) (hr.mono (by decide)) rfl T.gLdraw T.fLdraw.kp T.bLdraw .nil pass0 (pa_cons (pv 0) (pa_cons pe_int pa_nil)))) (pa_cons (pe_op op_add (pe_op op_add (pe_op op_mul (pe_ix (r := rIxT K) ix_tup (pv 1) (pv 6) (fun _ _ => rfl)) (pv 2)) pe_int) (pe_call (okLdraw T) (hr.mono (by decide)) rfl T.gLdraw T.fLdraw.kp T.bLdraw .nil pass0 (pa_cons (pv 0) (pa_cons pe_int pa_nil)))) pa_nil))) (pe_call (okLdraw T) (hr.mono (by decide)) rfl T.gLdraw T.fLdraw.kp T.bLdraw .nil pass0 (pa_cons (pv 0) (pa_cons pe_int pa_nil))) (fun _ _ => rfl)) (pg_sub (pv 3) (pv 6) set_list)))))
      (pss_cons (ps_setLc (i := 7) (own := [("_law_jar", 6)]) rfl scLoddstart.nd rfl rfl (sw_true rfl rfl rfl (by decide +kernel)) (pi_range1 rfl T.nrange (pa_cons (pe_callB call_len_seq rfl T.nlen PySem.boot_len (pa_cons (pv 1) pa_nil)) pa_nil)) (blkOk_by (own := [("_law_jar", 6)]) (N := ["_law_well_here", "_law_sizes_here", "_law_shares", "_law_start_here", "_law_way", "_law_turn", "_law_jar", "_law_odd"]) (sc := defScope sLoddstart) (by decide +kernel)) (fun _ _ _ _ _ => (pg_name (i := 6) scLoddstart.nd rfl (by first | exact Or.inl rfl | exact Or.inr rfl))) (fun _ _ _ _ _ => (pts_one (pt_not (pt_chain op_le op_le pe_int (pe_ix (r := rIxL K) ix_list (pv 3) (pv 6) (fun _ _ => rfl)) (pe_op op_mul (pe_ix (r := rIxT K) ix_tup (pv 1) (pv 6) (fun _ _ => rfl)) (pv 2)))))) (fun _ _ _ _ _ => (pv 6)))
      (pss_one (ps_ret (pe_tup (pa_cons (pv 3) (pa_cons (pe_tup (pa_cons pe_str (pa_cons (pe_ix (r := rIxL K) ix_list (pv 7) pe_int (fun _ _ => rfl)) (pa_cons pe_int (pa_cons pe_bl pa_nil))))) pa_nil))))))))))), ?_⟩
    have cu : c ≠ u := fun z => by
      obtain ⟨_, _, _, q, _⟩ := hw
      rw [← z, hc] at q
      cases q
    have p62 : p < 2 ^ 62 := by have : ((2 : Int) ^ 62) > 100 := by decide
                                omega
    have lc : (vi caps).length = caps.length := List.length_map ..
    refine ⟨_, rfl, _, rfl, _, rfl, u, c, caps, p, n, rfl, hw, by omega, hc, c6, (fun x hx => by have := cb x hx; omega), p1, by omega, fun H1 a st h1 hst w1 f1 => ?_⟩
    have ls0 := hst.len
    refine ⟨a, _, rfl, .inr (SqT.of h1), fun l hl => ?_⟩
    have lu : l ≠ u := w1.ne hl
    have l0 : H l = none := fr_free f1 lu hl
    have s2 := same_new (o := .lst (vi st)) hl
    have e2 : (upd H1 l (.lst (vi st))) l = some (.lst (vi st)) := upd_same
    have w2 := w1.same s2
    have f2 : Fr u H (upd H1 l (.lst (vi st))) := f1.trans (Fr.of s2)
    generalize upd H1 l (.lst (vi st)) = H2 at s2 e2 w2 f2
    refine gset (σ' := [some (V.ref u), some (V.ref c), some (V.int p), some (V.ref l), none, none, none, none]) rfl ?_
    refine ⟨_, rfl, u, 4, n + caps.length, rfl, w2, by omega, by decide, by decide, fun H3 way lw w3 f3 => ?_⟩
    refine gset (σ' := [some (V.ref u), some (V.ref c), some (V.int p), some (V.ref l), some (V.int way), none, none, none]) rfl ?_
    have e3 := f3 _ _ lu e2
    have f03 := f2.trans f3
    refine ⟨_, rfl, rfl, _, rfl, ifD (fun g0 => ?_) (fun g0 => ?_)⟩
    · refine ⟨_, rfl, .inl ⟨rfl, _, SqL.of e3⟩, _, rfl, u, 2, _, rfl, w3, by omega, by decide, by decide, fun H4 d ld w4 f4 => ?_⟩
      have e4 := f4 _ _ lu e3
      refine ⟨l, _, _, rfl, rfl, e4, Nat.lt_of_lt_of_le (by rw [List.length_map]; omega : (vi st).length < 100) (by decide), ?_⟩
      have x5 : vi st ++ [V.int (d : Int)] = vi (st ++ [(d : Int)]) := by simp [vi]
      rw [x5]
      have e5 : (upd H4 l (.lst (vi (st ++ [(d : Int)])))) l = some (.lst (vi (st ++ [(d : Int)]))) := upd_same
      have f5 : Fr u H (upd H4 l (.lst (vi (st ++ [(d : Int)])))) := fr_new (f03.trans f4) l0
      have w5 := w4.mut (o := .lst (vi (st ++ [(d : Int)]))) lu
      generalize upd H4 l (.lst (vi (st ++ [(d : Int)]))) = H5 at e5 f5 w5 ⊢
      refine ⟨_, rfl, _, rfl, l, _, rfl, .inl (SqL.of e5), (by show 4 ≤ sizeLine; decide), fun t ht => ⟨(by show 2 ≤ sizeLine; decide), fun q hq0 => ?_⟩⟩
      have s6 := same_new (o := .tup [V.str "count", V.str "start", V.int ((vi (st ++ [(d : Int)])).length : Nat), V.bl false]) ht
      have s7 := same_new (o := .tup [V.ref l, V.ref t]) hq0
      have s67 := s6.trans s7
      refine hq _ q l (st ++ [(d : Int)]) (.count "start" ((st ++ [(d : Int)]).length : Nat)) (.ref t) upd_same l0 (s67 _ _ e5) (by simp; omega) (chk_len (by omega) (by simp; omega)) ⟨t, rfl, s7 _ _ ?_⟩ ((w5.same s67).mono (by omega)) (f5.trans (Fr.of s67))
      rw [upd_same, List.length_map]
      rfl
    refine ⟨_, rfl, rfl, _, rfl, ifD (fun g1 => ?_) (fun g1 => ?_)⟩
    · refine ⟨_, rfl, _, rfl, l, _, rfl, SqL.of e3, fun b hb => ?_⟩
      show _
      generalize hG : upd H3 b _ = H4
      have s4 : Same H3 H4 := by rw [← hG]; exact same_new hb
      have e4 : H4 b = some (.lst (vi (st.drop 1))) := by
        rw [← hG, upd_same, show ((1 : Int)) = ((1 : Nat) : Int) from rfl, cut_drop (by rw [List.length_map]; omega)]
        simp only [vi, List.map_drop]
      clear hG
      have e3' := s4 _ _ e3
      have bu := w3.ne hb
      have w4 := w3.same s4
      have f4 := f03.trans (Fr.of s4)
      have b0 : H b = none := fr_free f03 bu hb
      refine ⟨_, rfl, l, _, rfl, .inl (SqL.of e3'), _, _, rfl, rfl, (by show 4 ≤ sizeLine; decide), fun t ht => ⟨(by show 2 ≤ sizeLine; decide), fun q hq0 => ?_⟩⟩
      have s6 := same_new (o := .tup [V.str "count", V.str "start", V.int (((vi st).length : Nat) - (1 : Int)), V.bl false]) ht
      have s7 := same_new (o := .tup [V.ref b, V.ref t]) hq0
      have s67 := s6.trans s7
      refine hq _ q b (st.drop 1) (.count "start" ((st.drop 1).length : Nat)) (.ref t) upd_same b0 (s67 _ _ e4) (by simp; omega) (chk_len (by omega) (by simp; omega)) ⟨t, rfl, s7 _ _ ?_⟩ ((w4.same s67).mono (by omega)) (f4.trans (Fr.of s67))
      rw [upd_same]
      have : (((vi st).length : Nat) : Int) - 1 = ((st.drop 1).length : Nat) := by rw [List.length_map, List.length_drop]; omega
      show some (HO.tup [V.str "count", V.str "start", V.int ((((vi st).length : Nat) : Int) - 1), V.bl false]) = _
      rw [this]
      rfl
    have way2 : 2 ≤ way ∧ way ≤ 3 := by
      have z0 : way ≠ 0 := fun z => g0 (by rw [z]; rfl)
      have z1 : way ≠ 1 := fun z => g1 (by rw [z]; rfl)
      omega
    refine ⟨_, rfl, _, _, rfl, rfl, _, rfl, by omega, by omega, ?_⟩
    refine for_range (lo := 0) (n := ((way : Int) - 1).toNat) (fun i σ H' => ∃ (v5 v6 : Option V) (st' : List Int), σ = [some (.ref u), some (.ref c), some (.int p), some (.ref l), some (.int way), v5, v6, none] ∧ H' l = some (.lst (vi st')) ∧ st'.length = caps.length ∧ (1 ≤ i → ∃ k, k < caps.length ∧ outJ caps st' p k = true) ∧ WellAt (n + caps.length + 1 + 4 * i) H' u ∧ Fr u H H')
      ⟨none, none, st, rfl, e3, ls0, (fun z => absurd z (by decide)), w3, f03⟩ ?_ ?_
    · rintro i σ H' hi ⟨v6, v7, st', rfl, g, gl, _, wl, fr⟩
      have gc := fr _ _ cu hc
      have i2 : i < 2 := by omega
      refine ⟨_, rfl, _, rfl, c, _, rfl, .inr (SqT.of gc), u, _, _, rfl, wl, by omega, by omega, by omega, fun H4 x lx w4 f4 => ?_⟩
      rw [lc] at lx
      have hx : x < caps.length := by omega
      have gc4 := f4 _ _ cu gc
      have g4 := f4 _ _ lu g
      have cbx := cb _ (at0_mem hx)
      have t0 : 1 ≤ at0 caps x * p := by
        have := Int.mul_le_mul cbx.1 p1 (by decide) (by omega)
        simpa using this
      refine ⟨_, _, rfl, rfl, _, rfl, u, 3, _, rfl, w4, by omega, by decide, by decide, fun H5 d5 l5 w5 f5 => ⟨_, _, rfl, rfl, ?_⟩⟩
      refine ⟨_, rfl, _, rfl, c, _, _, _, rfl, rfl, SqT.of (f5 _ _ cu gc4), vi_at hx, _, rfl, _, _, rfl, rfl, .inr (mulP p1 p62), _, _, rfl, rfl, ?_⟩
      refine ⟨_, rfl, u, 3, _, rfl, w5, by omega, by decide, by decide, fun H6 d6 l6 w6 f6 => ⟨_, _, rfl, rfl, (by show 2 ≤ sizeLine; decide), fun s hs => ?_⟩⟩
      obtain ⟨y1, hy1, b1⟩ : ∃ y : Int, (0 : Int) - 1 - (d5 : Int) = y ∧ y < 0 := ⟨_, rfl, by omega⟩
      obtain ⟨y2, hy2, b2⟩ : ∃ y : Int, at0 caps x * p + 1 + (d6 : Int) = y ∧ at0 caps x * p < y := ⟨_, rfl, by omega⟩
      show _
      generalize hG : upd H6 s _ = H7
      have s7 : Same H6 H7 := by rw [← hG]; exact same_new hs
      have e7 : H7 s = some (.lst (vi [y1, y2])) := by rw [← hG, ← hy1, ← hy2]; exact upd_same
      clear hG
      have su := w6.ne hs
      have w7 := w6.same s7
      have f7 := ((f4.trans f5).trans f6).trans (Fr.of s7)
      refine ⟨_, rfl, u, 2, _, rfl, w7, by omega, by decide, by decide, fun H8 d8 l8 w8 f8 => ?_⟩
      refine pickL (xs := [y1, y2]) (SqL.of (f8 _ _ su e7)) (by simp; omega) ?_
      have mem := at0_mem (l := [y1, y2]) (i := d8) (by simp; omega)
      generalize at0 [y1, y2] d8 = y at mem ⊢
      have yo : y < 0 ∨ at0 caps x * p < y := by
        rcases List.mem_cons.mp mem with h | h
        · omega
        · have := List.mem_singleton.mp h
          omega
      have g8 := f8 _ _ lu (f7 _ _ lu g)
      refine ⟨_, rfl, _, rfl, l, _, _, x, rfl, rfl, g8, ixN_nat (by rw [List.length_map]; omega), ?_⟩
      refine ⟨_, _, st'.set x y, rfl, by rw [upd_same, vi_set], by rw [List.length_set]; exact gl, fun _ => ⟨x, hx, ?_⟩, (w8.mut lu).mono (by omega), fr_new ((fr.trans f7).trans f8) l0⟩
      unfold outJ
      rw [at0_set (by omega), if_pos rfl]
      rcases yo with h | h
      · rw [decide_eq_false (by omega : ¬ 0 ≤ y)]
        rfl
      · rw [decide_eq_false (by omega : ¬ y ≤ at0 caps x * p), Bool.and_false]
        rfl
    · rintro σ H4 ⟨v5, v6, st', rfl, g, gl, ex, wl, fr⟩
      obtain ⟨k0, hk0, ok0⟩ := ex (by omega)
      have gc := fr _ _ cu hc
      have ls : (vi st').length = st'.length := List.length_map ..
      refine ⟨_, rfl, c, _, rfl, .inr (SqT.of gc), _, rfl, ?_, ?_, fun D1 hD => ?_⟩
      · omega
      · have : ((2 : Int) ^ 62) > 100 := by decide
        omega
      refine lc_range (lo := 0) (n := (((vi caps).length : Nat) : Int).toNat) (fun i H' => H' D1 = some (.lst (vi (outs caps st' p i))) ∧ (outs caps st' p i).length ≤ i ∧ Same H4 H') ⟨upd_same, Nat.le_refl 0, same_new hD⟩ ?_ ?_
      · rintro i H' hi ⟨g', gl', sm⟩
        refine ⟨rfl, ?_⟩
        have lt : i < caps.length := by rw [Int.toNat_natCast, lc] at hi; exact hi
        have e0 : 0 + i = i := Nat.zero_add i
        refine ⟨_, rfl, _, rfl, l, _, _, _, rfl, rfl, SqL.of (sm _ _ g), vi_at (i := 0 + i) (by omega), ?_⟩
        have on : ∀ v : Int, v = Int.ofNat i → outJ caps st' p i = true → ∃ acc, H' D1 = some (.lst acc) ∧ acc.length < sizeLine ∧ (upd H' D1 (.lst (acc ++ [V.int v]))) D1 = some (.lst (vi (outs caps st' p (i + 1)))) ∧ (outs caps st' p (i + 1)).length ≤ i + 1 ∧ Same H4 (upd H' D1 (.lst (acc ++ [V.int v]))) := fun v ev hb => by
          have e : outs caps st' p (i + 1) = outs caps st' p i ++ [Int.ofNat i] := by rw [outs_succ, if_pos hb]
          refine ⟨_, g', Nat.lt_of_lt_of_le (by rw [List.length_map]; omega : (vi (outs caps st' p i)).length < 100) (by decide), ?_, by rw [e]; simp; omega, same_mut sm hD⟩
          rw [upd_same, e, ev]
          simp
        have off : outJ caps st' p i = false → H' D1 = some (.lst (vi (outs caps st' p (i + 1)))) ∧ (outs caps st' p (i + 1)).length ≤ i + 1 ∧ Same H4 H' := fun hb => by
          have e : outs caps st' p (i + 1) = outs caps st' p i := by rw [outs_succ, hb, if_neg Bool.false_ne_true]
          rw [e]
          exact ⟨g', by omega, sm⟩
        refine ⟨_, _, rfl, rfl, _, rfl, ?_⟩
        by_cases g1 : 0 ≤ at0 st' (0 + i)
        · refine ifT (decide_eq_true g1) ?_
          refine ⟨_, rfl, _, rfl, c, _, _, _, rfl, rfl, SqT.of (sm _ _ gc), vi_at (i := 0 + i) (by omega), _, rfl, _, _, rfl, rfl, .inr (mulP p1 p62), _, _, rfl, rfl, _, rfl, ?_⟩
          by_cases g2 : at0 st' (0 + i) ≤ at0 caps (0 + i) * p
          · refine iteNS g2 ?_
            rw [e0] at g1 g2
            exact off (outJ_no.mpr ⟨g1, g2⟩)
          · refine iteNF g2 ?_
            rw [e0] at g1 g2
            refine ⟨_, rfl, on _ ?_ ?_⟩
            · show ((0 + i : Nat) : Int) = _
              rw [e0]
              rfl
            · cases hb : outJ caps st' p i with
              | true => rfl
              | false => exact absurd (outJ_no.mp hb).2 g2
        · refine ifF (decide_eq_false g1) ?_
          rw [e0] at g1
          refine ⟨_, rfl, ⟨_, rfl, on _ ?_ ?_⟩⟩
          · show ((0 + i : Nat) : Int) = _
            rw [e0]
            rfl
          · cases hb : outJ caps st' p i with
            | true => rfl
            | false => exact absurd (outJ_no.mp hb).1 g1
      · rintro H' ⟨g', gl', sm⟩
        rw [Int.toNat_natCast, lc] at g' gl'
        rcases outs_chk (show ¬ p < 1 by omega) gl with ⟨e, ek⟩ | ⟨k, r, e, ek⟩
        · exact absurd ((chk_none ek).2) (fun z => by have := outJ_no.mpr ⟨z.lo k0 hk0, z.hi k0 hk0⟩; rw [ok0] at this; cases this)
        · rw [e] at g'
          refine ⟨_, rfl, _, rfl, D1, _, _, _, rfl, rfl, SqL.of g', vi_at (i := 0) (by simp), (by show 4 ≤ sizeLine; decide), fun t ht => ⟨(by show 2 ≤ sizeLine; decide), fun q hq0 => ?_⟩⟩
          have s6 := same_new (o := .tup [V.str "start", V.int (at0 (Int.ofNat k :: r) 0), V.int 0, V.bl false]) ht
          have s7 := same_new (o := .tup [V.ref l, V.ref t]) hq0
          have s67 := s6.trans s7
          refine hq _ q l st' (.jar k) (.ref t) upd_same l0 (s67 _ _ (sm _ _ g)) (by omega) ek ⟨t, rfl, s7 _ _ upd_same⟩ ((wl.same (sm.trans s67)).mono (by omega)) (fr.trans (Fr.of (sm.trans s67)))
end
end Kp

namespace Kp
open PySem PySem.Spec PyProof.Rows L2 KpR LamX
/-- all but the list at u and the tables stay -/
def Kn (u : Addr) (H H' : Hp) : Prop := ∀ b o, b ≠ u → H b = some o → (∀ ps, o ≠ .tbl ps) → H' b = some o
theorem Kn.refl (u : Addr) (H : Hp) : Kn u H H := fun _ _ _ h _ => h
theorem Kn.trans {u : Addr} {H H1 H2 : Hp} (a : Kn u H H1) (b : Kn u H1 H2) : Kn u H H2 := fun c o n h t => b c o n (a c o n h t) t
theorem Kn.fr {u : Addr} {H H' : Hp} (f : Fr u H H') : Kn u H H' := fun b o n h _ => f b o n h
theorem Kn.ext {u : Addr} {H H' : Hp} (f : ExtN H H') : Kn u H H' := fun b o _ h t => f b o h t
theorem Kn.free {u : Addr} {H H' : Hp} {p : Addr} (k : Kn u H H') (n : p ≠ u) (h : H' p = none) : (∀ ps, H p ≠ some (.tbl ps)) → H p = none := fun t => by
  cases z : H p with
  | none => rfl
  | some o => rw [k p o n z (fun ps e => t ps (by rw [z, e]))] at h; cases h
theorem ExtN.well {n : Nat} {H H' : Hp} {u : Addr} (e : ExtN H H') (h : WellAt n H u) : WellAt n H' u := by
  obtain ⟨a, b, c, q, r⟩ := h
  exact ⟨a, b, c, e _ _ q (fun _ z => by cases z), r⟩
theorem Tabs.fr {n : Nat} {T : List (Addr × Str)} {H H' : Hp} {u : Addr} (t : Tabs T H) (w : WellAt n H u) (f : Fr u H H') : Tabs T H' := fun p hp => by
  obtain ⟨ps, h1, h2, h3⟩ := t p hp
  obtain ⟨a, b, c, h, _⟩ := w
  refine ⟨ps, f _ _ (fun z => by rw [z, h] at h1; cases h1) h1, h2, fun pos cv hc => ?_⟩
  obtain ⟨x, e1, e2⟩ := h3 pos cv hc
  exact ⟨x, e1, f _ _ (fun z => by rw [z, h] at e2; unfold CodeO at e2; cases e2) e2⟩
section
variable {K : PySem.W.Frag} {mg : Str → Option Value}
theorem DeedAt.kn {T : Tx K mg} {w : Addr} {H H' : Hp} {u : HO} {v : V} {d : D} (e : Kn w H H') (hw : H w = some u) (hb : Blank u) (h : DeedAt T H v d) : DeedAt T H' v d := by
  obtain ⟨p, dx, rfl, h⟩ := h
  refine ⟨p, dx, rfl, ?_⟩
  cases d <;> exact e _ _ (fun z => by rw [z, hw] at h; cases h; exact nb2 hb) h fun _ z => by cases z
theorem JarsAt.kn {T : Tx K mg} {w : Addr} {H H' : Hp} {u : HO} {p : Addr} {caps : List Int} (e : Kn w H H') (hw : H w = some u) (hb : Blank u) (h : JarsAt T H p caps) : JarsAt T H' p caps := by
  obtain ⟨dx, t, h1, h2⟩ := h
  exact ⟨dx, t, e _ _ (fun z => by rw [z, hw] at h1; cases h1; exact nb1 hb) h1 fun _ z => (by cases z), e _ _ (fun z => by rw [z, hw] at h2; cases h2; exact nbT hb) h2 fun _ z => (by cases z)⟩
theorem RowAt.kn {T : Tx K mg} {w : Addr} {H H' : Hp} {u : HO} {p : Addr} {caps : List Int} {ds : List D} (e : Kn w H H') (hw : H w = some u) (hb : Blank u) (h : RowAt T H p caps ds) : RowAt T H' p caps ds := by
  obtain ⟨dx, j, t, vs, h1, h2, h3, h4⟩ := h
  exact ⟨dx, j, t, vs, e _ _ (fun z => by rw [z, hw] at h1; cases h1; exact nb2 hb) h1 fun _ z => (by cases z), h2.kn e hw hb, e _ _ (fun z => by rw [z, hw] at h3; cases h3; exact nbT hb) h3 fun _ z => (by cases z), A2.mono (fun _ _ q => q.kn e hw hb) h4⟩
theorem OutAt.ext {H H' : Hp} {x : V} {r : Option Rf} (h : OutAt H x r) (e : ExtN H H') : OutAt H' x r := by
  cases r with
  | none => exact h
  | some r =>
    obtain ⟨p, rfl, h⟩ := h
    exact ⟨p, rfl, e _ _ h fun _ z => by cases z⟩
theorem kbFate (T : Tx K mg) : ∃ mv : List Value, KBn K T.dfate ["row", "start", "parts"] 2 ["parts"] (fun us ws => us ++ (ws ++ mv)) (fun vs zs => vs ++ (zs ++ [])) :=
  T.ffate.kbinds0 2 ["parts"] [] (fun vs mz zs => vs ++ (zs ++ mz)) (by simp) (by simp) (fun r1 r2 r3 => r1.append (r3.append r2))
    (fun Dd doc pm an cdv ct us mv ws h1 h2 h3 => match us, mv, ws, h1, h2, h3 with
      | [_, _], [], [_], _, _, _ => rfl)
end
theorem Fun.okT {P : Program} {w : World} {K : PySem.W.Frag} {mg : Str → Option Value} {base : Heap} {x qual : Str} {st : Stmt} {f : Addr} {fd : FuncData} {N ps : List Str} {k : Nat} {sp : Sp} (F : L2.Fun K x qual st f fd) (S : FnScope N ps (defScope st)) (len : ∀ vs H Q E, sp vs H Q E → vs.length = ps.length)
    (hbody : ∀ (A : Around) (outer : List Env) (s : Shared) (H : Hp) (vs : List V) (Q : VK) (E : XK), Room k (A.deeper (envOfC qual (defScope st) s.heap.objs.size f fd.code)) → sp vs H Q E →
      ∃ t, PSs (cxOf CX0 P w K mg base N qual (defScope st) f fd.code A outer s H E).nox (defBody st) t ∧ t { nx := fun _ H' => Q .non H', rt := Q } (start N vs) H) : FnOk P w K mg base CX0 (k + 1) f fd ps sp := by
  obtain ⟨oc, od, kV, doc, pm, an, cdv, ct, osl, rfl, lk, hcd⟩ := F.ex
  refine fn_of lk hcd S len fun A outer s H vs Q E hr hsp => ?_
  obtain ⟨t, h, q⟩ := hbody A outer s H vs Q E hr hsp
  exact ⟨t, h.nox, q⟩
def qOf (x : Str) (st : Stmt) : Str := (envOfC x (defScope st) 0 0 .none).qual ++ "<lambda>"
def lamQ1 : Str := qOf "_law_starts_right" sLstartsright
def lamQ2 : Str := qOf "_law_many_right" sLmanyright
def lamQ3 : Str := qOf "_law_long_right" sLlongright
def dOut : Option Rf → PyData
  | none => .none
  | some (.count w n) => .tuple [.str "count", .str w, .int n, .bool false]
  | some (.jar j) => .tuple [.str "start", .int j, .int 0, .bool false]
  | some (.wide n) => .tuple [.str "wide", .int 0, .int n, .bool false]
section
variable {K : PySem.W.Frag} {mg : Str → Option Value}
theorem row_dp {H : Hp} {p : Addr} : ∀ {r : Rf}, H p = some (.tup r.row) → Dp K H (.ref p) (dOut (some r))
  | .count w n, h => .tup (SqT.of h) (.cons (.str _) (.cons (.str _) (.cons (.int _) (.cons (.bl _) .nil))))
  | .jar j, h => .tup (SqT.of h) (.cons (.str _) (.cons (.int _) (.cons (.int _) (.cons (.bl _) .nil))))
  | .wide n, h => .tup (SqT.of h) (.cons (.str _) (.cons (.int _) (.cons (.int _) (.cons (.bl _) .nil))))
def WordOk : Rf → Prop
  | .count w _ => w = "parts" ∨ w = "start"
  | _ => True
theorem flat_bool {b : Bool} : Flat 0 (.bool b) := ⟨by cases b <;> rfl, by simp [PyData.depth]⟩
theorem flat_row {l : List PyData} (h : ∀ x ∈ l, Flat 0 x) : Flat 60 (.tuple l) := Flat.mono (n := 1) (by simpa using Flat.tup (n := 0) (l := l) (f := id) h) (by decide)
theorem dOut_flat : ∀ {r : Rf}, WordOk r → Flat 60 (dOut (some r))
  | .count w n, h => flat_row fun x hx => by
    rcases List.mem_cons.mp hx with rfl | hx
    · exact Flat.str (by decide +kernel)
    rcases List.mem_cons.mp hx with rfl | hx
    · exact Flat.str (by rcases h with rfl | rfl <;> decide +kernel)
    rcases List.mem_cons.mp hx with rfl | hx
    · exact Flat.int
    obtain rfl : x = .bool false := by simpa using hx
    exact flat_bool
  | .jar j, _ => flat_row fun x hx => by
    rcases List.mem_cons.mp hx with rfl | hx
    · exact Flat.str (by decide +kernel)
    rcases List.mem_cons.mp hx with rfl | hx
    · exact Flat.int
    rcases List.mem_cons.mp hx with rfl | hx
    · exact Flat.int
    obtain rfl : x = .bool false := by simpa using hx
    exact flat_bool
  | .wide n, _ => flat_row fun x hx => by
    rcases List.mem_cons.mp hx with rfl | hx
    · exact Flat.str (by decide +kernel)
    rcases List.mem_cons.mp hx with rfl | hx
    · exact Flat.int
    rcases List.mem_cons.mp hx with rfl | hx
    · exact Flat.int
    obtain rfl : x = .bool false := by simpa using hx
    exact flat_bool
theorem eq_row {r : Rf} : PyData.eqv (dOut (some r)) (dOut (some r)) = true := by
  cases r <;> simp [dOut, PyData.eqv, PyData.eqvAll]
theorem ne_out {H : Hp} {x y : V} {r : Rf} {Q : VK} (wd : WordOk r) (hx : OutAt H x (some r)) (hy : OutAt H y (some r)) (q : Q (.bl false) H) : rNeD K x y H Q := by
  obtain ⟨p1, rfl, h1⟩ := hx
  obtain ⟨p2, rfl, h2⟩ := hy
  refine neD (row_dp h1) (row_dp h2) (dOut_flat wd) (dOut_flat wd) ?_
  rw [eq_row]
  exact q
theorem eq_out {H : Hp} {x y : V} {r : Rf} {Q : VK} (wd : WordOk r) (hx : OutAt H x (some r)) (hy : OutAt H y (some r)) (q : Q (.bl true) H) : rEqD K x y H Q := by
  obtain ⟨p1, rfl, h1⟩ := hx
  obtain ⟨p2, rfl, h2⟩ := hy
  refine eqD (row_dp h1) (row_dp h2) (dOut_flat wd) (dOut_flat wd) ?_
  rw [eq_row]
  exact q
theorem chk_word {caps st : List Int} {p : Int} {r : Rf} (h : chk caps st p = some r) : WordOk r := by
  unfold chk at h
  split at h
  · cases h
    exact .inl rfl
  · split at h
    · cases z : (List.range caps.length).find? (outJ caps st p) with
      | none => rw [z] at h; cases h
      | some i => rw [z] at h; cases h; trivial
    · cases h
      exact .inr rfl
/-- fate refuses: it is told so -/
theorem said_fate {T : Tx K mg} {H : Hp} {r a : Addr} {ds : List D} {caps st : List Int} {p : Int} {rf : Rf} {Q : VK} {E : XK} (hR : RowAt T H r caps ds) (ok : ∀ d ∈ ds, d.ok caps) (hS : SqL K H a (vi st) ∨ H a = some (.tup (vi st))) (hp : p < 2 ^ 62) (hc : chk caps st p = some rf)
    (hE : ∀ (r : Rf) (G : Hp), (∀ (H' : Hp) (x : V), OutAt H' x (some r) → Same G H' → Q x H') → rE T G E r) (hq : ∀ (H' : Hp) (x : V), OutAt H' x (some rf) → Same H H' → Q x H') {Q2 : VK} :
    spfate T [.ref r, .ref a, .int p] H Q2 E :=
  ⟨r, a, ds, caps, st, p, rfl, hR, ok, hS, hp, fun rf' e => by rw [hc] at e; cases e; exact hE rf H fun H' x ho s => hq H' x ho s, fun e => by rw [hc] at e; cases e⟩
def spLstartsright (TT : List (Addr × Str)) (T : Tx K mg) : Sp := fun vs H Q _ => ∃ (u : Addr) (n : Nat), vs = [.ref u] ∧ WellAt n H u ∧ n ≤ 5000 ∧ Tabs TT H ∧ ∀ H' : Hp, Tabs TT H' → WellAt (n + 200) H' u → Kn u H H' → Q (.bl true) H'
def spLmanyright (TT : List (Addr × Str)) (T : Tx K mg) : Sp := spLstartsright TT T
def spLlongright (TT : List (Addr × Str)) (T : Tx K mg) : Sp := fun vs H Q _ => ∃ (u : Addr) (n : Nat) (b : Bool), vs = [.ref u, .bl b] ∧ WellAt n H u ∧ n ≤ 5000 ∧ Tabs TT H ∧ ∀ H' : Hp, Q (.bl true) H'
end
end Kp

namespace Kp
open PySem PySem.Spec PyProof.Rows L2 KpR LamX
section
variable {K : PySem.W.Frag} {mg : Str → Option Value}
def rTupOf2 (K : PySem.W.Frag) : List V → Hp → VK → Prop := fun xs H Q => ∃ (p : Addr) (ys : List V), xs = [V.ref p] ∧ ((SqL K H p ys ∧ ∀ (l : Addr), H l = none → Q (V.ref l) (upd H l (HO.tup ys))) ∨ SqT K H p ys ∧ Q (V.ref p) H)
/-- what stands when a start that is none has been drawn -/
structure Mq (T : Tx K mg) (TT : List (Addr × Str)) (u r l hd : Addr) (caps st : List Int) (ds : List D) (rf : Rf) (dv : V) (n : Nat) (H0 H : Hp) : Prop where
  w : WellAt n H u
  t : Tabs TT H
  lu : l ≠ u
  du : hd ≠ u
  hr : RowAt T H r caps ds
  hl : H l = some (.lst (vi st))
  hh : H hd = some (.lst (vi st))
  o : OutAt H dv (some rf)
  kn : Kn u H0 H
variable {T : Tx K mg} {TT : List (Addr × Str)} {u r l hd : Addr} {caps st : List Int} {ds : List D} {rf : Rf} {dv : V} {n : Nat} {H0 H H' : Hp}
theorem Mq.same (m : Mq T TT u r l hd caps st ds rf dv n H0 H) (s : Same H H') : Mq T TT u r l hd caps st ds rf dv n H0 H' :=
  ⟨m.w.same s, m.t.ext s, m.lu, m.du, m.hr.same s, s _ _ m.hl, s _ _ m.hh, m.o.same s, m.kn.trans (Kn.fr (Fr.of s))⟩
theorem Mq.ext (m : Mq T TT u r l hd caps st ds rf dv n H0 H) (e : ExtN H H') (t : Tabs TT H') : Mq T TT u r l hd caps st ds rf dv n H0 H' := by
  obtain ⟨o, ho, hb⟩ := m.w.ex
  exact ⟨ExtN.well e m.w, t, m.lu, m.du, m.hr.kn (Kn.ext e) ho hb, e _ _ m.hl (fun _ z => by cases z), e _ _ m.hh (fun _ z => by cases z), m.o.ext e, m.kn.trans (Kn.ext e)⟩
theorem eq_ints {a b : Addr} {l m : List Int} {Q : VK} (h1 : SqL K H a (vi l)) (h2 : SqL K H b (vi m)) (q : Q (.bl (decide (l = m))) H) : rEqD K (.ref a) (.ref b) H Q := by
  refine eqD (.lst h1 (dpInts l)) (.lst h2 (dpInts m)) (Flat.mono (n := 1) (Flat.list (f := PyData.int) fun _ _ => Flat.int) (by decide)) (Flat.mono (n := 1) (Flat.list (f := PyData.int) fun _ _ => Flat.int) (by decide)) ?_
  have z : PyData.eqv (.list (pdInts l)) (.list (pdInts m)) = decide (l = m) := by simp only [PyData.eqv, eqvInts]
  rw [z]
  exact q
end
section
variable {P : Program} {w : World} {K : PySem.W.Frag} {mg : Str → Option Value} {base : Heap}
theorem okLstartsright {TT : List (Addr × Str)} (T : Tx K mg) {c0 tb : Addr} (TB : TabB base mg c0 tb) (hcode : T.dLstartsright.code = .ref c0) (hmT : (tb, lamQ1) ∈ TT) (hu : ∀ p ∈ TT, p.1 = tb → p.2 = lamQ1) : FnOk P w K mg base CX0 12 T.aLstartsright T.dLstartsright ["_law_well_here"] (spLstartsright TT T) := by
  refine Fun.okT T.fLstartsright scLstartsright (fun vs H Q E h => ?_) (fun A outer s H vs Q E hr h => ?_)
  · obtain ⟨u, n, rfl, _⟩ := h
    rfl
  · obtain ⟨u, n, rfl, hw, n5, ht, hq⟩ := h
    obtain ⟨m3, kb_fate_parts⟩ := kbFate T
    obtain ⟨ocS, odS, kVS, docS, pmS, anS, cdS, ctS, oslS, eS, lkS, hcS⟩ := T.fLsaid.ex
    have bS := T.bLsaid
    rw [eS] at lkS bS
    refine ⟨_, (pss_cons (ps_set (i := 1) scLstartsright.nd rfl (by first | exact Or.inl rfl | exact Or.inr rfl) (pe_call (okLsizes T) (hr.mono (by decide)) rfl T.gLsizes T.fLsizes.kp T.bLsizes .nil pass0 (pa_cons (pv 0) (pa_cons (pe_op op_add pe_int (pe_call (okLdraw T) (hr.mono (by decide)) rfl T.gLdraw T.fLdraw.kp T.bLdraw .nil pass0 (pa_cons (pv 0) (pa_cons pe_int pa_nil)))) (pa_cons pe_int pa_nil)))))
      (pss_cons (ps_set (i := 2) scLstartsright.nd rfl (by first | exact Or.inl rfl | exact Or.inr rfl) (pe_call (okLrow T) (hr.mono (by decide)) rfl T.gLrow T.fLrow.kp T.bLrow .nil pass0 (pa_cons (pv 1) (pa_cons (pe_call (okLdeeds T) (hr.mono (by decide)) rfl T.gLdeeds T.fLdeeds.kp T.bLdeeds .nil pass0 (pa_cons (pv 0) (pa_cons (pv 1) (pa_cons pe_int pa_nil)))) pa_nil))))
      (pss_cons (ps_set (i := 3) scLstartsright.nd rfl (by first | exact Or.inl rfl | exact Or.inr rfl) (pe_op op_add pe_int (pe_call (okLdraw T) (hr.mono (by decide)) rfl T.gLdraw T.fLdraw.kp T.bLdraw .nil pass0 (pa_cons (pv 0) (pa_cons pe_int pa_nil)))))
      (pss_cons (ps_asg (pe_call (okLoddstart T) (hr.mono (by decide)) rfl T.gLoddstart T.fLoddstart.kp T.bLoddstart .nil pass0 (pa_cons (pv 0) (pa_cons (pv 1) (pa_cons (pv 3) pa_nil)))) (pg_tup rfl (pgs_cons (pg_name (i := 4) scLstartsright.nd rfl (by first | exact Or.inl rfl | exact Or.inr rfl)) (pgs_cons (pg_name (i := 5) scLstartsright.nd rfl (by first | exact Or.inl rfl | exact Or.inr rfl)) pgs_nil))))
      (pss_cons (ps_set (i := 6) scLstartsright.nd rfl (by first | exact Or.inl rfl | exact Or.inr rfl) (pe_callTy call_list_of rfl T.nlist (by decide +kernel) (pa_cons (pv 4) pa_nil)))
      (pss_cons (ps_set (i := 7) scLstartsright.nd rfl (by first | exact Or.inl rfl | exact Or.inr rfl) (pe_op op_sub pe_int (pe_call (okLdraw T) (hr.mono (by decide)) rfl T.gLdraw T.fLdraw.kp T.bLdraw .nil pass0 (pa_cons (pv 0) (pa_cons pe_int pa_nil)))))
      (pss_cons (ps_if (pt_cmpR (op_neD hr.units) (pe_lamcall (x := "_law_said") (a := "_law_ask") (k := 8) rfl T.gLsaid T.fLsaid.kp lkS hcS bS scLsaid rfl (Or.inl rfl) (said_gives T) TB hcode hmT hu (hr.mono (by decide)) (lamS_by (show lamSB (defScope sLstartsright) _ = true by decide +kernel)) rfl (fun _ _ _ _ _ => rfl) (fun A outer s H E f c' hr2 => (pe_callN (okfate T) (hr2.mono (by decide)) rfl T.gfate T.ffate.kp kb_fate_parts (passes_call (W := fun c d _ H => E c d H) (takes_of rfl rfl rfl rfl) (fun _ _ _ _ h => h)) (pa_cons (pv 2) (pa_cons (pv 6) pa_nil)) (pk_cons (pv 7) pk_nil)))) (pe_tup (pa_cons pe_str (pa_cons pe_str (pa_cons (pv 7) (pa_cons pe_bl pa_nil))))) (nomark _)) (pss_one (ps_ret pe_bl)) pss_nil)
      (pss_cons (ps_if (pt_cmpR (op_neD hr.units) (pe_lamcall (x := "_law_said") (a := "_law_ask") (k := 8) rfl T.gLsaid T.fLsaid.kp lkS hcS bS scLsaid rfl (Or.inl rfl) (said_gives T) TB hcode hmT hu (hr.mono (by decide)) (lamS_by (show lamSB (defScope sLstartsright) _ = true by decide +kernel)) rfl (fun _ _ _ _ _ => rfl) (fun A outer s H E f c' hr2 => (pe_callN (okfate T) (hr2.mono (by decide)) rfl T.gfate T.ffate.kp kb_fate_parts (passes_call (W := fun c d _ H => E c d H) (takes_of rfl rfl rfl rfl) (fun _ _ _ _ h => h)) (pa_cons (pv 2) (pa_cons (pe_callTy (show CallR _ (Value.type "tuple") (rTupOf K) from call_tuple_of) rfl T.ntuple (by decide +kernel) (pa_cons (pv 4) pa_nil)) pa_nil)) (pk_cons (pv 3) pk_nil)))) (pv 5) (nomark _)) (pss_one (ps_ret pe_bl)) pss_nil)
      (pss_one (ps_ret (pe_and (pe_cmpR (op_eqD hr.units) (pe_lamcall (x := "_law_said") (a := "_law_ask") (k := 8) rfl T.gLsaid T.fLsaid.kp lkS hcS bS scLsaid rfl (Or.inl rfl) (said_gives T) TB hcode hmT hu (hr.mono (by decide)) (lamS_by (show lamSB (defScope sLstartsright) _ = true by decide +kernel)) rfl (fun _ _ _ _ _ => rfl) (fun A outer s H E f c' hr2 => (pe_callN (okfate T) (hr2.mono (by decide)) rfl T.gfate T.ffate.kp kb_fate_parts (passes_call (W := fun c d _ H => E c d H) (takes_of rfl rfl rfl rfl) (fun _ _ _ _ h => h)) (pa_cons (pv 2) (pa_cons (pv 6) pa_nil)) (pk_cons (pv 3) pk_nil)))) (pv 5) (nomark _)) (pe_one (pe_cmpR (op_eqD hr.units) (pv 6) (pv 4) (nomark _)))))))))))))), ?_⟩
    refine ⟨_, rfl, _, rfl, u, 3, n, rfl, hw, by omega, by decide, by decide, fun H1 d ld w1 f1 => ⟨_, _, rfl, rfl, ?_⟩⟩
    obtain ⟨m, hm, m1, m6⟩ : ∃ m : Nat, 1 + (d : Int) = (m : Int) ∧ 1 ≤ m ∧ m ≤ 3 := ⟨1 + d, by omega, by omega, by omega⟩
    refine ⟨u, m, 4, n + 1, (by show [V.ref u, V.int (1 + (d : Int)), V.int 4] = _; rw [hm]), w1, by omega, m1, by omega, by decide, by decide, fun H2 c caps hc cl cb w2 f2 => ?_⟩
    have cu : c ≠ u := fun z => by
      obtain ⟨_, _, _, q, _⟩ := w2
      rw [← z, hc] at q
      cases q
    refine ⟨_, rfl, _, rfl, _, rfl, u, c, caps, 3, _, rfl, w2, by omega, by decide, hc, by omega, by omega, (fun x hx => by have := cb x hx; omega), fun H3 f ts ds hf0 hf hA dl ok w3 f3 => ?_⟩
    have hc3 := f3 _ _ cu hc
    have hC : Caps caps := ⟨by omega, by omega, fun i hi => (cb _ (List.mem_of_getElem? (at0_get hi))).1, fun i hi => by have := (cb _ (List.mem_of_getElem? (at0_get hi))).2; omega⟩
    refine ⟨c, f, caps, ts, ds, rfl, hc3, hC, hf, hA, by omega, fun d hd => (ok d hd).1, fun H4 r r0 hR s4 => ?_⟩
    have w4 := w3.same s4
    have hc4 := s4 _ _ hc3
    have ok1 : ∀ d ∈ ds, d.ok caps := fun d hd => (ok d hd).1
    refine ⟨_, rfl, u, 7, _, rfl, w4, by omega, by decide, by decide, fun H5 e le w5 f5 => ⟨_, _, rfl, rfl, ?_⟩⟩
    obtain ⟨p, hp, p1, p7⟩ : ∃ p : Int, 1 + (e : Int) = p ∧ 1 ≤ p ∧ p ≤ 7 := ⟨_, rfl, by omega, by omega⟩
    have hc5 := f5 _ _ cu hc4
    refine gset (σ' := [some (V.ref u), some (V.ref c), some (V.ref r), some (V.int p), none, none, none, none]) (by rw [← hp]; rfl) ?_
    refine ⟨_, rfl, _, rfl, _, rfl, u, c, caps, p, _, rfl, w5, by omega, hc5, by omega, by omega, (fun x hx => by have := cb x hx; omega), p1, by omega, fun H6 q l st rf dv hq6 l0 hl st7 hck hdv w6 f6 => ?_⟩
    have lu : l ≠ u := w5.ne l0
    refine ⟨q, _, rfl, SqT.of hq6, rfl, _, _, rfl, _, _, rfl, rfl, ?_⟩
    obtain ⟨o4, ho4, bo4⟩ := w4.ex
    obtain ⟨o5, ho5, bo5⟩ := w5.ex
    have hR6 := (hR.fr f5 ho4 bo4).fr f6 ho5 bo5
    have t6 : Tabs TT H6 := Tabs.fr (Tabs.fr (Tabs.ext (Tabs.fr (Tabs.fr (Tabs.fr ht hw f1) w1 f2) w2 f3) s4) w4 f5) w5 f6
    have k6 : Kn u H H6 := (((((Kn.fr f1).trans (Kn.fr f2)).trans (Kn.fr f3)).trans (Kn.fr (Fr.of s4))).trans (Kn.fr f5)).trans (Kn.fr f6)
    refine ⟨_, rfl, l, _, rfl, .inl (SqL.of hl), fun hd hhd => ?_⟩
    show _
    generalize hG__ : upd H6 hd _ = H7
    have y7 : Same H6 H7 := by rw [← hG__]; exact same_new hhd
    have e7 : H7 hd = some (.lst (vi st)) := by rw [← hG__]; exact upd_same
    clear hG__
    have hl := y7 _ _ hl
    have hdu : hd ≠ u := w6.ne hhd
    have w7 := w6.same y7
    refine ⟨_, rfl, u, 3, _, rfl, w7, by omega, by decide, by decide, fun H8 g lg w8 f8 => ⟨_, _, rfl, rfl, ?_⟩⟩
    obtain ⟨no, hno, no1⟩ : ∃ no : Int, 0 - (g : Int) = no ∧ no < 1 := ⟨_, rfl, by omega⟩
    refine gset (σ' := [some (V.ref u), some (V.ref c), some (V.ref r), some (V.int p), some (V.ref l), some dv, some (V.ref hd), some (V.int no)]) (by rw [← hno]; rfl) ?_
    obtain ⟨o7, ho7, bo7⟩ := w7.ex
    have m8 : Mq T TT u r l hd caps st ds rf dv (n + 200) H H8 := ⟨w8.mono (by omega), Tabs.fr (Tabs.ext t6 y7) w7 f8, lu, hdu, (hR6.same y7).fr f8 ho7 bo7, f8 _ _ lu hl, f8 _ _ hdu e7, by
      obtain ⟨q8, rfl, hq8⟩ := hdv
      exact ⟨q8, rfl, fr_no f8 ho7 bo7 (y7 _ _ hq8) nbT⟩, (k6.trans (Kn.fr (Fr.of y7))).trans (Kn.fr f8)⟩
    have wd := chk_word hck
    have p62 : p < 2 ^ 62 := by have : ((2 : Int) ^ 62) > 100 := by decide
                                omega
    have n62 : no < 2 ^ 62 := by have : ((2 : Int) ^ 62) > 100 := by decide
                                 omega
    clear hw w1 w2 w3 w4 w5 w6 w7 w8 f1 f2 f3 f5 f6 f8 s4 y7 t6 k6 hR hR6 hc hc3 hc4 hc5 hA hf hq6 hl e7 hdv ho4 ho5 ho7 bo4 bo5 bo7 hno
    refine ⟨m8.t, fun B9 eN t9 E hE => ?_⟩
    have m9 := m8.ext eN t9
    refine ⟨_, rfl, _, rfl, _, rfl, rfl, rfl, said_fate (rf := .count "parts" no) m9.hr ok1 (.inl (SqL.of m9.hh)) n62 (chk_parts no1) hE fun B10 x ho sm => ?_⟩
    have m10 := m9.same sm
    refine ⟨_, rfl, (by show 4 ≤ sizeLine; decide), fun t ht0 => ne_out (r := .count "parts" no) (.inl rfl) (ho.same (same_new ht0)) ⟨t, rfl, upd_same⟩ ⟨_, rfl, ifF rfl ?_⟩⟩
    have m11 := m10.same (same_new ht0 (o := .tup (Rf.count "parts" no).row))
    clear m8 m9 m10
    refine ⟨m11.t, fun B12 eN2 t12 E2 hE2 => ?_⟩
    have m12 := m11.ext eN2 t12
    refine ⟨_, rfl, _, rfl, l, _, rfl, .inl ⟨SqL.of m12.hl, fun tt htt => ?_⟩⟩
    have m13 := m12.same (same_new htt (o := .tup (vi st)))
    refine ⟨_, rfl, rfl, rfl, said_fate m13.hr ok1 (.inr upd_same) p62 hck hE2 fun B14 x2 ho2 sm2 => ?_⟩
    have m14 := m13.same sm2
    refine ⟨_, rfl, ne_out wd ho2 m14.o ⟨_, rfl, ifF rfl ?_⟩⟩
    clear m11 m12 m13
    refine ⟨m14.t, fun B15 eN3 t15 E3 hE3 => ?_⟩
    have m15 := m14.ext eN3 t15
    refine ⟨_, rfl, _, rfl, _, rfl, rfl, rfl, said_fate m15.hr ok1 (.inl (SqL.of m15.hh)) p62 hck hE3 fun B16 x3 ho3 sm3 => ?_⟩
    have m16 := m15.same sm3
    refine ⟨_, rfl, eq_out wd ho3 m16.o ?_⟩
    refine ⟨_, rfl, ifT rfl ⟨_, rfl, _, rfl, eq_ints (SqL.of m16.hh) (SqL.of m16.hl) ?_⟩⟩
    rw [decide_eq_true rfl]
    exact hq _ m16.t m16.w m16.kn
end
end Kp

namespace Kp
open PySem PySem.Spec PyProof.Rows L2 KpR LamX
section
variable {P : Program} {w : World} {K : PySem.W.Frag} {mg : Str → Option Value} {base : Heap}
theorem okLmanyright {TT : List (Addr × Str)} (T : Tx K mg) {c0 tb : Addr} (TB : TabB base mg c0 tb) (hcode : T.dLmanyright.code = .ref c0) (hmT : (tb, lamQ2) ∈ TT) (hu : ∀ p ∈ TT, p.1 = tb → p.2 = lamQ2) : FnOk P w K mg base CX0 12 T.aLmanyright T.dLmanyright ["_law_well_here"] (spLmanyright TT T) := by
  refine Fun.okT T.fLmanyright scLmanyright (fun vs H Q E h => ?_) (fun A outer s H vs Q E hr h => ?_)
  · obtain ⟨u, n, rfl, _⟩ := h
    rfl
  · obtain ⟨u, n, rfl, hw, n5, ht, hq⟩ := h
    obtain ⟨ocS, odS, kVS, docS, pmS, anS, cdS, ctS, oslS, eS, lkS, hcS⟩ := T.fLsaid.ex
    have bS := T.bLsaid
    rw [eS] at lkS bS
    refine ⟨_, (pss_cons (ps_set (i := 1) scLmanyright.nd rfl (by first | exact Or.inl rfl | exact Or.inr rfl) (pe_op op_add pe_int (pe_call (okLof T) (hr.mono (by decide)) rfl T.gLof T.fLof.kp T.bLof .nil pass0 (pa_cons (pv 0) (pa_cons (pe_lst (pa_cons pe_int (pa_cons (pe_call (okLdraw T) (hr.mono (by decide)) rfl T.gLdraw T.fLdraw.kp T.bLdraw .nil pass0 (pa_cons (pv 0) (pa_cons pe_int pa_nil))) (pa_cons (pe_op op_fdivW (pe_call (okLgreat T) (hr.mono (by decide)) rfl T.gLgreat T.fLgreat.kp T.bLgreat .nil pass0 (pa_cons (pv 0) pa_nil)) pe_int) pa_nil)))) pa_nil)))))
      (pss_cons (ps_set (i := 2) scLmanyright.nd rfl (by first | exact Or.inl rfl | exact Or.inr rfl) (pe_tup (pa_cons (pv 1) (pa_cons (pe_op op_add pe_int (pe_call (okLof T) (hr.mono (by decide)) rfl T.gLof T.fLof.kp T.bLof .nil pass0 (pa_cons (pv 0) (pa_cons (pe_lst (pa_cons pe_int (pa_cons (pe_call (okLdraw T) (hr.mono (by decide)) rfl T.gLdraw T.fLdraw.kp T.bLdraw .nil pass0 (pa_cons (pv 0) (pa_cons pe_int pa_nil))) (pa_cons (pe_op op_fdivW (pe_call (okLgreat T) (hr.mono (by decide)) rfl T.gLgreat T.fLgreat.kp T.bLgreat .nil pass0 (pa_cons (pv 0) pa_nil)) pe_int) pa_nil)))) pa_nil)))) pa_nil))))
      (pss_cons (ps_set (i := 3) scLmanyright.nd rfl (by first | exact Or.inl rfl | exact Or.inr rfl) (pe_call (okLrow T) (hr.mono (by decide)) rfl T.gLrow T.fLrow.kp T.bLrow .nil pass0 (pa_cons (pv 2) (pa_cons (pe_call (okLdeeds T) (hr.mono (by decide)) rfl T.gLdeeds T.fLdeeds.kp T.bLdeeds .nil pass0 (pa_cons (pv 0) (pa_cons (pv 2) (pa_cons pe_int pa_nil)))) pa_nil))))
      (pss_one (ps_ret (pe_cmpR (op_eqD hr.units) (pe_lamcall (x := "_law_said") (a := "_law_ask") (k := 8) rfl T.gLsaid T.fLsaid.kp lkS hcS bS scLsaid rfl (Or.inl rfl) (said_gives T) TB hcode hmT hu (hr.mono (by decide)) (lamS_by (show lamSB (defScope sLmanyright) _ = true by decide +kernel)) rfl (fun _ _ _ _ _ => rfl) (fun A outer s H E f c' hr2 => (pe_call (okturning T) (hr2.mono (by decide)) rfl T.gturning T.fturning.kp T.bturning .nil (passes_call (W := fun c d _ H => E c d H) (takes_of rfl rfl rfl rfl) (fun _ _ _ _ h => h)) (pa_cons (pv 3) pa_nil)))) (pe_tup (pa_cons pe_str (pa_cons pe_int (pa_cons (pe_op op_mul (pe_op op_add (pe_ix (r := rIxT K) ix_tup (pv 2) pe_int (fun _ _ => rfl)) pe_int) (pe_op op_add (pe_ix (r := rIxT K) ix_tup (pv 2) pe_int (fun _ _ => rfl)) pe_int)) (pa_cons pe_bl pa_nil))))) (nomark _))))))), ?_⟩
    -- the first size
    refine ⟨_, rfl, _, rfl, u, 60, n, rfl, hw, by omega, by decide, by decide, fun H1 d1 ld1 w1 f1 => ?_⟩
    refine ⟨_, rfl, u, n + 1, rfl, w1, by omega, fun H2 g1 lg1 w2 f2 => ?_⟩
    refine ⟨_, _, rfl, rfl, ⟨by decide, by decide⟩, (by show 3 ≤ sizeLine; decide), fun l1 hl1 => ?_⟩
    have lu1 := w2.ne hl1
    show _
    generalize hG : upd H2 l1 _ = H3
    have y3 : Same H2 H3 := by rw [← hG]; exact same_new hl1
    have e3 : H3 l1 = some (.lst (vi [0, (d1 : Int), (g1 : Int) / 2])) := by rw [← hG]; exact upd_same
    clear hG
    have w3 := w2.same y3
    refine ⟨u, l1, [0, (d1 : Int), (g1 : Int) / 2], n + 3, rfl, w3.mono (by omega), by omega, e3, lu1, (by simp), (by simp), fun H4 x1 hx1 w4 f4 => ⟨_, _, rfl, rfl, ?_⟩⟩
    obtain ⟨a, ha, a1, a2⟩ : ∃ a : Int, 22 + x1 = a ∧ 22 ≤ a ∧ a ≤ 600000000000 := ⟨_, rfl, by
      rcases List.mem_cons.mp hx1 with h | hx1
      · omega
      rcases List.mem_cons.mp hx1 with h | hx1
      · omega
      have := List.mem_singleton.mp hx1
      omega⟩
    refine gset (σ' := [some (V.ref u), some (V.int a), none, none]) (by rw [← ha]; rfl) ?_
    have k4 : Kn u H H4 := (((Kn.fr f1).trans (Kn.fr f2)).trans (Kn.fr (Fr.of y3))).trans (Kn.fr f4)
    have t4 : Tabs TT H4 := Tabs.fr (Tabs.ext (Tabs.fr (Tabs.fr ht hw f1) w1 f2) y3) w3 f4
    clear hw w1 w2 w3 f1 f2 f4 y3 e3 hx1 ht
    -- the second
    refine ⟨_, rfl, _, rfl, _, rfl, u, 9, n + 4, rfl, w4, by omega, by decide, by decide, fun H5 d2 ld2 w5 f5 => ?_⟩
    refine ⟨_, rfl, u, n + 5, rfl, w5, by omega, fun H6 g2 lg2 w6 f6 => ?_⟩
    refine ⟨_, _, rfl, rfl, ⟨by decide, by decide⟩, (by show 3 ≤ sizeLine; decide), fun l2 hl2 => ?_⟩
    have lu2 := w6.ne hl2
    show _
    generalize hG : upd H6 l2 _ = H7
    have y7 : Same H6 H7 := by rw [← hG]; exact same_new hl2
    have e7 : H7 l2 = some (.lst (vi [0, (d2 : Int), (g2 : Int) / 2])) := by rw [← hG]; exact upd_same
    clear hG
    have w7 := w6.same y7
    refine ⟨u, l2, [0, (d2 : Int), (g2 : Int) / 2], n + 7, rfl, w7.mono (by omega), by omega, e7, lu2, (by simp), (by simp), fun H8 x2 hx2 w8 f8 => ⟨_, _, rfl, rfl, (by show 2 ≤ sizeLine; decide), fun c hc => ?_⟩⟩
    obtain ⟨b, hb, b1, b2⟩ : ∃ b : Int, 86 + x2 = b ∧ 86 ≤ b ∧ b ≤ 600000000000 := ⟨_, rfl, by
      rcases List.mem_cons.mp hx2 with h | hx2
      · omega
      rcases List.mem_cons.mp hx2 with h | hx2
      · omega
      have := List.mem_singleton.mp hx2
      omega⟩
    have cu := w8.ne hc
    show _
    generalize hG : upd H8 c _ = H9
    have y9 : Same H8 H9 := by rw [← hG]; exact same_new hc
    have e9 : H9 c = some (.tup (vi [a, b])) := by rw [← hG, ← hb]; exact upd_same
    clear hG
    have w9 := w8.same y9
    have k9 : Kn u H H9 := (((k4.trans (Kn.fr f5)).trans (Kn.fr f6)).trans (Kn.fr (Fr.of y7))).trans ((Kn.fr f8).trans (Kn.fr (Fr.of y9)))
    have t9 : Tabs TT H9 := Tabs.ext (Tabs.fr (Tabs.ext (Tabs.fr (Tabs.fr t4 w4 f5) w5 f6) y7) w7 f8) y9
    clear k4 t4 w4 w5 w6 w7 w8 f5 f6 f8 y7 y9 e7 hx2
    have cb : ∀ x ∈ [a, b], 1 ≤ x ∧ x ≤ 999999999998 := fun x hx => by
      rcases List.mem_cons.mp hx with h | hx
      · omega
      have := List.mem_singleton.mp hx
      omega
    have hC : Caps [a, b] := ⟨by simp, by simp, fun i hi => (cb _ (List.mem_of_getElem? (at0_get hi))).1, fun i hi => by have := (cb _ (List.mem_of_getElem? (at0_get hi))).2; omega⟩
    refine ⟨_, rfl, _, rfl, _, rfl, u, c, [a, b], 2, n + 8, rfl, w9.mono (by omega), by omega, by decide, e9, (by simp), (by simp), cb, fun H10 f ts ds hf0 hf hA dl ok w10 f10 => ?_⟩
    have e10 := f10 _ _ cu e9
    have ok1 : ∀ d ∈ ds, d.ok [a, b] := fun d hd => (ok d hd).1
    refine ⟨c, f, [a, b], ts, ds, rfl, e10, hC, hf, hA, by omega, ok1, fun H11 r r0 hR s11 => ?_⟩
    have e11 := s11 _ _ e10
    have w11 := w10.same s11
    have k11 : Kn u H H11 := (k9.trans (Kn.fr f10)).trans (Kn.fr (Fr.of s11))
    have t11 : Tabs TT H11 := Tabs.ext (Tabs.fr t9 w9 f10) s11
    refine gset (σ' := [some (V.ref u), some (V.int a), some (V.ref c), some (V.ref r)]) rfl ?_
    obtain ⟨o11, ho11, bo11⟩ := w11.ex
    refine ⟨t11, fun B eN tN E hE => ?_⟩
    have hRB := hR.kn (Kn.ext eN) ho11 bo11
    have eB := eN _ _ e11 (fun _ z => by cases z)
    have wB := ExtN.well eN w11
    have kB := k11.trans (Kn.ext eN)
    have pN : ((prodN [a, b] : Nat) : Int) = (a + 1) * (b + 1) := by
      show (((1 * (a.toNat + 1)) * (b.toNat + 1) : Nat) : Int) = _
      rw [Nat.one_mul, Int.natCast_mul, ← toN (by omega), ← toN (by omega)]
    have big : 2000 < prodN [a, b] := by
      have : (23 : Int) * 87 ≤ (a + 1) * (b + 1) := Int.mul_le_mul (by omega) (by omega) (by decide) (by omega)
      omega
    refine ⟨_, rfl, r, [a, b], ds, rfl, hRB, ok1, hC, fun le => absurd le (by omega), fun _ => hE (.wide (prodN [a, b])) B fun H12 x ho sm => ?_⟩
    have e12 := sm _ _ eB
    refine ⟨_, rfl, c, _, _, _, rfl, rfl, SqT.of e12, rfl, _, _, rfl, rfl, _, rfl, c, _, _, _, rfl, rfl, SqT.of e12, rfl, _, _, rfl, rfl, _, _, rfl, rfl, .inr ⟨by omega, by omega⟩, (by show 4 ≤ sizeLine; decide), fun t ht0 => ?_⟩
    have st := same_new (o := .tup [V.str "wide", V.int 0, V.int ((a + 1) * (b + 1)), V.bl false]) ht0
    refine eq_out (r := .wide (prodN [a, b])) trivial (ho.same st) ⟨t, rfl, ?_⟩ ?_
    · rw [upd_same]
      show _ = some (HO.tup [V.str "wide", V.int 0, V.int (prodN [a, b] : Nat), V.bl false])
      rw [pN]
    · exact hq _ (tN.ext (sm.trans st)) (((wB.same sm).same st).mono (by omega)) (kB.trans (Kn.fr (Fr.of (sm.trans st))))
end
end Kp

namespace Kp
open PySem PySem.Spec PyProof.Rows L2 KpR LamX
section
variable {K : PySem.W.Frag} {mg : Str → Option Value}
theorem bFate (T : Tx K mg) : ∃ ds, Vals [V.int 1] ds ∧ Binds K T.dfate ["row", "start", "parts"] ds :=
  T.ffate.binds0 2 (by simp) (by simp) (fun Dd doc pm an cdv ct us ks h1 h2 => match us, ks, h1, h2 with
    | [_, _], [_], _, _ => ⟨_, _, _, _, _, _, rfl, rfl, rfl⟩)
end
theorem put_run {S m x : Int} : run [S] 1 [.put 0 m] [x] = [if S < x + m then S else x + m] := by
  show [if S * 1 < x + m * 1 then S * 1 else x + m * 1] = _
  rw [Int.mul_one, Int.mul_one]
/-- a jar into which m is put again and again, until k of m and a rest are in -/
theorem put_fate {S m x : Int} (m1 : 1 ≤ m) (x0 : 0 ≤ x) (xS : x ≤ S) {k : Nat} (h1 : S - x ≤ k * m) (h2 : k * m < S - x + m) : Fate (run [S] 1 [.put 0 m]) [x] k 1 := by
  have e : (over (S - x) m).toNat = k := by
    have g1 := over_lo (a := S - x) (show 0 < m by omega)
    have g2 := over_hi (a := S - x) (show 0 < m by omega)
    have g3 := over_pos (a := S - x) (show 0 < m by omega) (by omega)
    have a1 : over (S - x) m < (k : Int) + 1 := by
      refine Int.lt_of_mul_lt_mul_right (a := m) ?_ (by omega)
      rw [Int.add_mul]
      omega
    have a2 : (k : Int) < over (S - x) m + 1 := by
      refine Int.lt_of_mul_lt_mul_right (a := m) ?_ (by omega)
      rw [Int.add_mul]
      omega
    omega
  rw [← e]
  exact fall_fate (fun st => S - at0 st 0) (fun st => ∃ v, st = [v] ∧ 0 ≤ v ∧ v ≤ S) (by omega) ⟨x, rfl, x0, xS⟩ (by
    rintro y ⟨v, rfl, v0, vS⟩
    rw [put_run]
    exact ⟨_, rfl, by split <;> omega, by split <;> omega⟩) (by
    rintro y ⟨v, rfl, v0, vS⟩
    rw [put_run]
    show S - (if S < v + m then S else v + m) = if m < S - v then S - v - m else 0
    split <;> split <;> omega) (by show 0 ≤ S - x; omega) (by
    rintro y ⟨v, rfl, v0, vS⟩ e
    have e : S - v = 0 := e
    rw [put_run]
    congr 1
    split <;> omega)
section
variable {P : Program} {w : World} {K : PySem.W.Frag} {mg : Str → Option Value} {base : Heap}
theorem okLlongright {TT : List (Addr × Str)} (T : Tx K mg) {c0 tb : Addr} (TB : TabB base mg c0 tb) (hcode : T.dLlongright.code = .ref c0) (hmT : (tb, lamQ3) ∈ TT) (hu : ∀ p ∈ TT, p.1 = tb → p.2 = lamQ3) : FnOk P w K mg base CX0 12 T.aLlongright T.dLlongright ["_law_well_here", "_law_is_more"] (spLlongright TT T) := by
  refine Fun.okT T.fLlongright scLlongright (fun vs H Q E h => ?_) (fun A outer s H vs Q E hr h => ?_)
  · obtain ⟨u, n, b, rfl, _⟩ := h
    rfl
  · obtain ⟨u, n, more, rfl, hw, n5, ht, hq⟩ := h
    obtain ⟨_, v_fate, b_fate⟩ := bFate T
    obtain ⟨ocS, odS, kVS, docS, pmS, anS, cdS, ctS, oslS, eS, lkS, hcS⟩ := T.fLsaid.ex
    have bS := T.bLsaid
    rw [eS] at lkS bS
    refine ⟨_, (pss_cons (ps_set (i := 2) scLlongright.nd rfl (by first | exact Or.inl rfl | exact Or.inr rfl) (pe_op op_add pe_int (pe_call (okLdraw T) (hr.mono (by decide)) rfl T.gLdraw T.fLdraw.kp T.bLdraw .nil pass0 (pa_cons (pv 0) (pa_cons (pe_op op_pow pe_int pe_int) pa_nil)))))
      (pss_cons (ps_set (i := 3) scLlongright.nd rfl (by first | exact Or.inl rfl | exact Or.inr rfl) (pe_op op_add (pe_op op_add (pe_op op_mul pe_int (pv 2)) pe_int) (pe_call (okLdraw T) (hr.mono (by decide)) rfl T.gLdraw T.fLdraw.kp T.bLdraw .nil pass0 (pa_cons (pv 0) (pa_cons (pe_op op_pow pe_int pe_int) pa_nil)))))
      (pss_cons (ps_set (i := 4) scLlongright.nd rfl (by first | exact Or.inl rfl | exact Or.inr rfl) (pe_call (okLrow T) (hr.mono (by decide)) rfl T.gLrow T.fLrow.kp T.bLrow .nil pass0 (pa_cons (pe_tup (pa_cons (pv 3) pa_nil)) (pa_cons (pe_lst (pa_cons (pe_tup (pa_cons pe_str (pa_cons pe_int (pa_cons (pv 2) pa_nil)))) pa_nil)) pa_nil))))
      (pss_cons (ps_if (pt_val (pv 1)) (pss_one (ps_ret (pe_cmpR (op_eqD hr.units) (pe_lamcall (x := "_law_said") (a := "_law_ask") (k := 8) rfl T.gLsaid T.fLsaid.kp lkS hcS bS scLsaid rfl (Or.inl rfl) (said_gives T) TB hcode hmT hu (hr.mono (by decide)) (lamS_by (show lamSB (defScope sLlongright) _ = true by decide +kernel)) rfl (fun _ _ _ _ _ => rfl) (fun A outer s H E f c' hr2 => (pe_call (okfate T) (hr2.mono (by decide)) rfl T.gfate T.ffate.kp b_fate v_fate (passes_call (W := fun c d _ H => E c d H) (takes_of rfl rfl rfl rfl) (fun _ _ _ _ h => h)) (pa_cons (pv 4) (pa_cons (pe_tup (pa_cons (pe_op op_sub (pe_op op_sub (pv 3) (pe_op op_mul pe_int (pv 2))) pe_int) pa_nil)) pa_nil))))) (pe_tup (pa_cons pe_str (pa_cons pe_int (pa_cons pe_int (pa_cons pe_bl pa_nil))))) (nomark _)))) pss_nil)
      (pss_one (ps_ret (pe_cmpR (op_eqD hr.units) (pe_call (okfate T) (hr.mono (by decide)) rfl T.gfate T.ffate.kp b_fate v_fate passF (pa_cons (pv 4) (pa_cons (pe_tup (pa_cons (pe_op op_sub (pv 3) (pe_op op_mul pe_int (pv 2))) pa_nil)) pa_nil))) (pe_tup (pa_cons pe_int (pa_cons pe_int pa_nil))) (nomark _)))))))), ?_⟩
    have e7 : (10 : Int) ^ (7 : Int).toNat = 10000000 := by decide
    have e9 : (10 : Int) ^ (9 : Int).toNat = 1000000000 := by decide
    refine ⟨_, rfl, _, _, rfl, rfl, ⟨by decide, by decide, by decide⟩, u, _, n, rfl, hw, by omega, by decide, by decide, fun H1 d1 ld1 w1 f1 => ⟨_, _, rfl, rfl, ?_⟩⟩
    rw [e7] at ld1
    obtain ⟨m, hm, m1, m2⟩ : ∃ m : Int, 1 + (d1 : Int) = m ∧ 1 ≤ m ∧ m ≤ 10000000 := ⟨_, rfl, by omega, by omega⟩
    refine gset (σ' := [some (V.ref u), some (V.bl more), some (V.int m), none, none]) (by rw [← hm]; rfl) ?_
    refine ⟨_, rfl, _, _, rfl, rfl, .inr ⟨by omega, by omega⟩, _, _, rfl, rfl, _, rfl, _, _, rfl, rfl, ⟨by decide, by decide, by decide⟩, u, _, n + 1, rfl, w1, by omega, by decide, by decide, fun H2 d2 ld2 w2 f2 => ⟨_, _, rfl, rfl, ?_⟩⟩
    rw [e9] at ld2
    obtain ⟨S, hS, S1, S2⟩ : ∃ S : Int, 19999 * m + 1 + (d2 : Int) = S ∧ 19999 * m + 1 ≤ S ∧ S ≤ 300000000000 := ⟨_, rfl, by omega, by omega⟩
    refine gset (σ' := [some (V.ref u), some (V.bl more), some (V.int m), some (V.int S), none]) (by rw [← hS]; rfl) ?_
    have t2 := Tabs.fr (Tabs.fr ht hw f1) w1 f2
    refine ⟨_, rfl, (by show 1 ≤ sizeLine; decide), fun c hc => ?_⟩
    show _
    generalize hG__ : upd H2 c _ = H3
    have y3 : Same H2 H3 := by rw [← hG__]; exact same_new hc
    have e3 : H3 c = some (.tup [V.int S]) := by rw [← hG__]; exact upd_same
    clear hG__
    refine ⟨_, rfl, (by show 3 ≤ sizeLine; decide), fun t ht0 => ?_⟩
    show _
    generalize hG__ : upd H3 t _ = H4
    have y4 : Same H3 H4 := by rw [← hG__]; exact same_new ht0
    have e4 : H4 t = some (.tup [V.str "put", V.int 0, V.int m]) := by rw [← hG__]; exact upd_same
    clear hG__
    have e3 := y4 _ _ e3
    refine ⟨(by show 1 ≤ sizeLine; decide), fun f hf => ?_⟩
    show _
    generalize hG__ : upd H4 f _ = H5
    have y5 : Same H4 H5 := by rw [← hG__]; exact same_new hf
    have e5 : H5 f = some (.lst [V.ref t]) := by rw [← hG__]; exact upd_same
    clear hG__
    have e3 := y5 _ _ e3
    have e4 := y5 _ _ e4
    have hC : Caps [S] := ⟨by simp, by simp, fun i hi => by
      obtain rfl : i = 0 := by simp at hi; omega
      show 1 ≤ S
      omega, fun i hi => by
      obtain rfl : i = 0 := by simp at hi; omega
      show S ≤ 1000000000000
      omega⟩
    have ok1 : ∀ d ∈ [D.put 0 m], d.ok [S] := fun d hd => by
      obtain rfl := List.mem_singleton.mp hd
      exact ⟨by simp, m1, by omega⟩
    refine ⟨c, f, [S], [V.ref t], [.put 0 m], rfl, e3, hC, e5, ⟨⟨t, rfl, e4⟩, trivial⟩, by simp, ok1, fun H6 r r0 hR s6 => ?_⟩
    have t6 : Tabs TT H6 := Tabs.ext t2 (((y3.trans y4).trans y5).trans s6)
    refine gset (σ' := [some (V.ref u), some (V.bl more), some (V.int m), some (V.int S), some (V.ref r)]) rfl ?_
    obtain ⟨o6, ho6, bo6⟩ := (w2.same (((y3.trans y4).trans y5).trans s6)).ex
    have good : ∀ x : Int, 0 ≤ x → x ≤ S → chk [S] [x] 1 = none := fun x h1 h2 => chk_ok (by decide) rfl fun k hk => outJ_no.mpr (by
      obtain rfl : k = 0 := by simp at hk; omega
      exact ⟨h1, by show x ≤ S * 1; omega⟩)
    refine ⟨_, rfl, _, rfl, ?_⟩
    cases more with
    | true =>
      refine ifT rfl ?_
      refine ⟨t6, fun B eN tN E hE => ?_⟩
      refine ⟨_, rfl, _, rfl, _, rfl, _, _, rfl, rfl, .inr ⟨by omega, by omega⟩, _, _, rfl, rfl, _, _, rfl, rfl, (by show 1 ≤ sizeLine; decide), fun a ha => ?_⟩
      obtain ⟨x, hx⟩ : ∃ x : Int, S - 19999 * m - 1 = x := ⟨_, rfl⟩
      obtain ⟨x, hx, x0⟩ : ∃ x : Int, S - 19999 * m - 1 = x ∧ 0 ≤ x := ⟨_, rfl, by omega⟩
      show _
      generalize hG : upd B a _ = B2
      have y : Same B B2 := by rw [← hG]; exact same_new ha
      have e : B2 a = some (.tup (vi [x])) := by rw [← hG, ← hx]; exact upd_same
      clear hG
      have hRB := (hR.kn (Kn.ext eN) ho6 bo6).same y
      have FF := put_fate (S := S) (m := m) (x := x) m1 x0 (by omega) (k := 20000) (by omega) (by omega)
      refine ⟨r, a, [.put 0 m], [S], [x], 1, rfl, hRB, ok1, .inr e, by decide, (fun rf z => by rw [good x x0 (by omega)] at z; cases z), fun _ => .inr ⟨fun i j h1 h2 => FF.dist i j h1 (by omega), hE (.wide 20001) B2 fun H7 v ho sm => ?_⟩⟩
      refine ⟨(by show 4 ≤ sizeLine; decide), fun tt htt => eq_out (r := .wide 20001) trivial (ho.same (same_new htt)) ⟨tt, rfl, upd_same⟩ (hq _)⟩
    | false =>
      refine ifF rfl ?_
      refine ⟨_, rfl, _, rfl, _, rfl, _, _, rfl, rfl, .inr ⟨by omega, by omega⟩, _, _, rfl, rfl, (by show 1 ≤ sizeLine; decide), fun a ha => ?_⟩
      obtain ⟨x, hx, x0⟩ : ∃ x : Int, S - 19999 * m = x ∧ 0 ≤ x := ⟨_, rfl, by omega⟩
      show _
      generalize hG : upd H6 a _ = B2
      have y : Same H6 B2 := by rw [← hG]; exact same_new ha
      have e : B2 a = some (.tup (vi [x])) := by rw [← hG, ← hx]; exact upd_same
      clear hG
      have FF := put_fate (S := S) (m := m) (x := x) m1 x0 (by omega) (k := 19999) (by omega) (by omega)
      refine ⟨r, a, [.put 0 m], [S], [x], 1, rfl, hR.same y, ok1, .inr e, by decide, (fun rf z => by rw [good x x0 (by omega)] at z; cases z), fun _ => .inl ⟨19999, 1, FF, by decide, fun H7 q q0 hq7 s7 => ?_⟩⟩
      refine ⟨(by show 2 ≤ sizeLine; decide), fun tt htt => eqTI (l := [19999, 1]) (m := [19999, 1]) (SqT.of (same_new htt _ _ hq7)) (SqT.of upd_same) ?_⟩
      rw [decide_eq_true rfl]
      exact hq _
end
end Kp

namespace Kp
open PySem PySem.Spec PyProof.Rows L2 KpR LamX
theorem ftu_t {t n l r : V} : List.lookup ("tail" : Str) (ftu t n l r) = some t := lk1
theorem ftu_n {t n l r : V} : List.lookup ("ring" : Str) (ftu t n l r) = some n := (lkS (by decide +kernel)).trans lk1
theorem ftu_l {t n l r : V} : List.lookup ("late" : Str) (ftu t n l r) = some l := (lkS (by decide +kernel)).trans ((lkS (by decide +kernel)).trans lk1)
theorem all_run {x : Int} (h : x ≤ 1999) : run [1999] 1 [.draw 0 1999] [x] = [0] := by
  show [if 0 > x - 1999 * 1 then 0 else x - 1999 * 1] = _
  congr 1
  split <;> omega
theorem all_fate {x : Int} (h : x ≤ 1999) {t n : Nat} (F : Fate (run [1999] 1 [.draw 0 1999]) [x] t n) : t = (if x = 0 then 0 else 1) ∧ n = 1 := by
  by_cases e : x = 0
  · subst e
    rw [if_pos rfl]
    exact F.uniq ⟨Nat.le_refl _, all_run (by decide), fun i j h1 h2 => by omega⟩
  · rw [if_neg e]
    refine F.uniq ⟨Nat.le_refl _, ?_, fun i j h1 h2 z => ?_⟩
    · show run [1999] 1 [.draw 0 1999] (run [1999] 1 [.draw 0 1999] [x]) = run [1999] 1 [.draw 0 1999] [x]
      rw [all_run h, all_run (by decide)]
    · obtain rfl : i = 0 := by omega
      obtain rfl : j = 1 := by omega
      have z : [x] = run [1999] 1 [.draw 0 1999] [x] := z
      rw [all_run h] at z
      injection z with z
      exact e z
theorem all_caps : Caps [1999] := ⟨by simp, by simp, fun i hi => by
  obtain rfl : i = 0 := by simp at hi; omega
  decide, fun i hi => by
  obtain rfl : i = 0 := by simp at hi; omega
  decide⟩
theorem all_mem {st : List Int} (h : st ∈ startsOf [1999]) : ∃ x : Int, st = [x] ∧ 0 ≤ x ∧ x ≤ 1999 := by
  have S := (stand_mem all_caps).mp h
  have l := S.len
  match st, l, S with
  | [x], _, S =>
    have h0 : 0 ≤ x := S.lo 0 (by decide)
    have h1 : x ≤ 1999 * 1 := S.hi 0 (by decide)
    exact ⟨x, rfl, h0, by omega⟩
theorem all_rings {l : List Tri} (h : FaL (run [1999] 1 [.draw 0 1999]) (startsOf [1999]) l) : lcmL (l.map fun e => e.2.2) = 1 := by
  refine Nat.dvd_one.mp (lcmL_dvd fun a ha => ?_)
  obtain ⟨e, he, rfl⟩ := List.mem_map.mp ha
  obtain ⟨h1, h2⟩ := h e he
  obtain ⟨x, ex, _, x1⟩ := all_mem h1
  rw [ex] at h2
  rw [(all_fate x1 h2).2]
  exact Nat.dvd_refl _
theorem all_told {tail ring : Int} {late : List Int} {rs : List (List Int)} (h : Told (run [1999] 1 [.draw 0 1999]) (startsOf [1999]) tail ring late rs) : tail = 1 ∧ ring = 1 ∧ ∃ x : Int, late = [x] ∧ 0 < x ∧ x ≤ 1999 := by
  obtain ⟨t, n, e, F⟩ := h.own
  obtain ⟨x, rfl, x0, x1⟩ := all_mem h.inn
  have q := all_fate x1 F
  have m1 : ([1] : List Int) ∈ startsOf [1999] := (stand_mem all_caps).mpr ⟨rfl, fun i hi => by
    obtain rfl : i = 0 := by simp at hi; omega
    decide, fun i hi => by
    obtain rfl : i = 0 := by simp at hi; omega
    decide⟩
  have F1 : Fate (run [1999] 1 [.draw 0 1999]) [1] 1 1 := by
    refine ⟨Nat.le_refl _, ?_, fun i j h1 h2 z => ?_⟩
    · show run [1999] 1 [.draw 0 1999] (run [1999] 1 [.draw 0 1999] [1]) = run [1999] 1 [.draw 0 1999] [1]
      rw [all_run (by decide), all_run (by decide)]
    · obtain rfl : i = 0 := by omega
      obtain rfl : j = 1 := by omega
      have z : [1] = run [1999] 1 [.draw 0 1999] [1] := z
      rw [all_run (by decide)] at z
      cases z
  have le := h.most _ m1 1 1 F1
  obtain ⟨l, _, hl, er⟩ := h.all
  rw [all_rings hl] at er
  have xn : x ≠ 0 := fun z => by
    rw [if_pos z] at q
    omega
  rw [if_neg xn] at q
  exact ⟨by omega, er, x, rfl, by omega, x1⟩
section
variable {K : PySem.W.Frag} {mg : Str → Option Value}
def spLallright (T : Tx K mg) : Sp := fun vs H Q _ => vs = [] ∧ ∀ H' : Hp, Q (.bl true) H'
end
section
variable {P : Program} {w : World} {K : PySem.W.Frag} {mg : Str → Option Value} {base : Heap}
theorem okLallright (T : Tx K mg) : FnOk P w K mg base CX0 7 T.aLallright T.dLallright [] (spLallright T) := by
  refine T.fLallright.ok scLallright (fun vs H Q E h => ?_) (fun cdv A outer s H vs Q E hr h => ?_)
  · obtain ⟨rfl, _⟩ := h
    rfl
  · obtain ⟨rfl, hq⟩ := h
    refine ⟨_, (pss_cons (ps_set (i := 0) scLallright.nd rfl (by first | exact Or.inl rfl | exact Or.inr rfl) (pe_call (okturning T) (hr.mono (by decide)) rfl T.gturning T.fturning.kp T.bturning .nil passF (pa_cons (pe_call (okLrow T) (hr.mono (by decide)) rfl T.gLrow T.fLrow.kp T.bLrow .nil pass0 (pa_cons (pe_tup (pa_cons pe_int pa_nil)) (pa_cons (pe_lst (pa_cons (pe_tup (pa_cons pe_str (pa_cons pe_int (pa_cons pe_int pa_nil)))) pa_nil)) pa_nil))) pa_nil)))
      (pss_cons (ps_if (PW.pt (pw_or (pt_cmpR (op_neD hr.units) (pe_tup (pa_cons (pe_fld (pv 0) rfl) (pa_cons (pe_fld (pv 0) rfl) pa_nil))) (pe_tup (pa_cons pe_int (pa_cons pe_int pa_nil))) (nomark _)) (pw_or1 (pt_not (pt_val (pe_callB call_isi rfl T.nisinstance (by decide +kernel) (pa_cons (pe_fld (pv 0) rfl) (pa_cons (pe_bltn (v := .ty "tuple") rfl T.ntuple (by decide +kernel) rfl) pa_nil)))))))) (pss_one (ps_ret pe_bl)) pss_nil)
      (pss_one (ps_ret (pe_chain op_lt op_le pe_int (pe_ix (r := rIxT K) ix_tup (pe_fld (pv 0) rfl) pe_int (fun _ _ => rfl)) pe_int))))), ?_⟩
    refine ⟨(by show 1 ≤ sizeLine; decide), fun c hc => ?_⟩
    show _
    generalize hG__ : upd H c _ = H3
    have y3 : Same H H3 := by rw [← hG__]; exact same_new hc
    have e3 : H3 c = some (.tup [V.int 1999]) := by rw [← hG__]; exact upd_same
    clear hG__
    refine ⟨(by show 3 ≤ sizeLine; decide), fun t ht0 => ?_⟩
    show _
    generalize hG__ : upd H3 t _ = H4
    have y4 : Same H3 H4 := by rw [← hG__]; exact same_new ht0
    have e4 : H4 t = some (.tup [V.str "draw", V.int 0, V.int 1999]) := by rw [← hG__]; exact upd_same
    clear hG__
    have e3 := y4 _ _ e3
    refine ⟨(by show 1 ≤ sizeLine; decide), fun f hf => ?_⟩
    show _
    generalize hG__ : upd H4 f _ = H5
    have y5 : Same H4 H5 := by rw [← hG__]; exact same_new hf
    have e5 : H5 f = some (.lst [V.ref t]) := by rw [← hG__]; exact upd_same
    clear hG__
    have e3 := y5 _ _ e3
    have e4 := y5 _ _ e4
    have ok1 : ∀ d ∈ [D.draw 0 1999], d.ok [1999] := fun d hd => by
      obtain rfl := List.mem_singleton.mp hd
      exact ⟨by simp, by decide, by decide⟩
    refine ⟨c, f, [1999], [V.ref t], [.draw 0 1999], rfl, e3, all_caps, e5, ⟨⟨t, rfl, e4⟩, trivial⟩, by simp, ok1, fun H6 r r0 hR s6 => ?_⟩
    have p2 : prodN [1999] = 2000 := by decide
    refine ⟨r, [1999], [.draw 0 1999], rfl, hR, ok1, all_caps, fun _ => ⟨fun l hl => by rw [all_rings hl]; decide, fun H7 v tail ring late rs hT hO s7 => ?_⟩, fun big => by omega⟩
    obtain ⟨rfl, rfl, x, rfl, x0, x1⟩ := all_told hO
    obtain ⟨a, dx, la, rg, us, rfl, ha, hla, hrg, hU⟩ := id hT
    refine gset (σ' := [some (V.ref a)]) rfl ?_
    refine ⟨_, rfl, a, _, dx, _, _, rfl, ha, T.lTurning, T.nTurning_tail, ftu_t, _, rfl, a, _, dx, _, _, rfl, ha, T.lTurning, T.nTurning_ring, ftu_n, (by show 2 ≤ sizeLine; decide), fun t1 ht1 => ⟨(by show 2 ≤ sizeLine; decide), fun t2 ht2 => ?_⟩⟩
    have z1 := same_new (o := .tup [V.int 1, V.int 1]) ht1
    have z2 := same_new (o := .tup [V.int 1, V.int 1]) ht2
    refine neD (d := .tuple (pdInts [1, 1])) (e := .tuple (pdInts [1, 1])) (.tup (SqT.of (z2 _ _ upd_same)) (dpInts [1, 1])) (.tup (SqT.of upd_same) (dpInts [1, 1])) ((flatT _).mono (by decide)) ((flatT _).mono (by decide)) ?_
    have ez : PyData.eqv (.tuple (pdInts [1, 1])) (.tuple (pdInts [1, 1])) = true := by simp only [PyData.eqv, eqvInts]; rfl
    rw [ez]
    have ha2 := z2 _ _ (z1 _ _ ha)
    have hla2 := z2 _ _ (z1 _ _ hla)
    generalize upd (upd H7 t1 (.tup [V.int 1, V.int 1])) t2 (.tup [V.int 1, V.int 1]) = H8 at ha2 hla2 ⊢
    refine ⟨_, rfl, ifF rfl ?_⟩
    refine ⟨_, rfl, a, _, dx, _, _, rfl, ha2, T.lTurning, T.nTurning_late, ftu_l, V.ref la, .ty "tuple", _, _, _, rfl, .ty "tuple", .base (.tup hla2), kit_self (by simp), _, rfl, ?_⟩
    refine ifF rfl ?_
    refine ⟨_, rfl, a, _, dx, _, _, rfl, ha2, T.lTurning, T.nTurning_late, ftu_l, la, _, _, _, rfl, rfl, SqT.of hla2, vi_at (l := [x]) (i := 0) (by simp), _, _, rfl, rfl, _, rfl, ifT (decide_eq_true x0) ⟨_, _, rfl, rfl, ?_⟩⟩
    show Q (.bl (decide (x ≤ 1999))) H8
    rw [decide_eq_true x1]
    exact hq _
end
end Kp

namespace Kp
open PySem PySem.Spec PyProof.Rows L2 KpR LamX
section
variable {P : Program} {w : World} {K : PySem.W.Frag} {mg : Str → Option Value} {base : Heap}
def spLaw (K : PySem.W.Frag) (tbs : List Addr) : Sp := fun vs H Q _ => ∃ (a : Addr) (ns : List Int), vs = [.ref a] ∧ SqL K H a (ns.map V.int) ∧ ns.length ≤ 63 ∧ (∀ t ∈ tbs, H t = some (.tbl #[])) ∧ ∀ H', Q (.bl true) H'
theorem kn_sq {K : PySem.W.Frag} {u a : Addr} {xs : List V} {H H1 H' : Hp} (hu : H u = none) (s : Same H H1) (k : Kn u H1 H') (h : SqL K H a xs) : SqL K H' a xs := by
  rcases h with (h | ⟨o, h⟩) | h
  · exact .inl (.inl (k _ _ (ne_of_none h hu) (s _ _ h) fun _ z => by cases z))
  · exact .inl (.inr ⟨o, k _ _ (ne_of_none h hu) (s _ _ h) fun _ z => by cases z⟩)
  · exact .inr h
theorem mem3 {α : Type} {P : α → Prop} {a b c : α} (h1 : P a) (h2 : P b) (h3 : P c) : ∀ p ∈ [a, b, c], P p := fun p hp => by
  rcases List.mem_cons.mp hp with rfl | hp
  · exact h1
  rcases List.mem_cons.mp hp with rfl | hp
  · exact h2
  obtain rfl := List.mem_singleton.mp hp
  exact h3
theorem oklaw (T : Tx K mg) {c1 t1 c2 t2 c3 t3 : Addr} (B1 : TabB base mg c1 t1) (B2 : TabB base mg c2 t2) (B3 : TabB base mg c3 t3) (e1 : T.dLstartsright.code = .ref c1) (e2 : T.dLmanyright.code = .ref c2) (e3 : T.dLlongright.code = .ref c3)
    (n12 : t1 ≠ t2) (n13 : t1 ≠ t3) (n23 : t2 ≠ t3) : FnOk P w K mg base CX0 14 T.alaw T.dlaw ["_law_script"] (spLaw K [t1, t2, t3]) := by
  refine Fun.okT T.flaw sclaw (fun vs H Q E h => ?_) (fun A outer s H vs Q E hr h => ?_)
  · obtain ⟨a, ns, rfl, _⟩ := h
    rfl
  · obtain ⟨a, ns, rfl, hS, hlen, ht, hq⟩ := h
    have hS1 := okLstartsright (P := P) (w := w) (TT := [(t1, lamQ1), (t2, lamQ2), (t3, lamQ3)]) T B1 e1 (by simp) (fun p hp h => by
      rcases List.mem_cons.mp hp with rfl | hp
      · rfl
      rcases List.mem_cons.mp hp with rfl | hp
      · exact absurd h.symm n12
      obtain rfl := List.mem_singleton.mp hp
      exact absurd h.symm n13)
    have hS2 := okLmanyright (P := P) (w := w) (TT := [(t1, lamQ1), (t2, lamQ2), (t3, lamQ3)]) T B2 e2 (by simp) (fun p hp h => by
      rcases List.mem_cons.mp hp with rfl | hp
      · exact absurd h n12
      rcases List.mem_cons.mp hp with rfl | hp
      · rfl
      obtain rfl := List.mem_singleton.mp hp
      exact absurd h.symm n23)
    have hS3 := okLlongright (P := P) (w := w) (TT := [(t1, lamQ1), (t2, lamQ2), (t3, lamQ3)]) T B3 e3 (by simp) (fun p hp h => by
      rcases List.mem_cons.mp hp with rfl | hp
      · exact absurd h n13
      rcases List.mem_cons.mp hp with rfl | hp
      · exact absurd h n23
      obtain rfl := List.mem_singleton.mp hp
      rfl)
    have tabs : Tabs [(t1, lamQ1), (t2, lamQ2), (t3, lamQ3)] H := fun p hp => by
      rcases List.mem_cons.mp hp with rfl | hp
      · exact TabS.nil (ht _ (by simp))
      rcases List.mem_cons.mp hp with rfl | hp
      · exact TabS.nil (ht _ (by simp))
      obtain rfl := List.mem_singleton.mp hp
      exact TabS.nil (ht _ (by simp))
    refine ⟨_, (pss_cons (ps_set (i := 1) sclaw.nd rfl (by first | exact Or.inl rfl | exact Or.inr rfl) (pe_call (okLwell T) (hr.mono (by decide)) rfl T.gLwell T.fLwell.kp T.bLwell .nil pass0 (pa_cons (pe_call (okLcellat T) (hr.mono (by decide)) rfl T.gLcellat T.fLcellat.kp T.bLcellat .nil pass0 (pa_cons (pv 0) (pa_cons pe_int pa_nil))) pa_nil)))
      (pss_cons (ps_if (PW.pt (pw_or (pt_not (pt_val (pe_call hS1 (hr.mono (by decide)) rfl T.gLstartsright T.fLstartsright.kp T.bLstartsright .nil pass0 (pa_cons (pv 1) pa_nil)))) (pw_or1 (pt_not (pt_val (pe_call hS2 (hr.mono (by decide)) rfl T.gLmanyright T.fLmanyright.kp T.bLmanyright .nil pass0 (pa_cons (pv 1) pa_nil))))))) (pss_one (ps_ret pe_bl)) pss_nil)
      (pss_cons (ps_set (i := 1) sclaw.nd rfl (by first | exact Or.inl rfl | exact Or.inr rfl) (pe_call (okLwell T) (hr.mono (by decide)) rfl T.gLwell T.fLwell.kp T.bLwell .nil pass0 (pa_cons (pe_call (okLcellat T) (hr.mono (by decide)) rfl T.gLcellat T.fLcellat.kp T.bLcellat .nil pass0 (pa_cons (pv 0) (pa_cons pe_int pa_nil))) pa_nil)))
      (pss_cons (ps_set (i := 2) sclaw.nd rfl (by first | exact Or.inl rfl | exact Or.inr rfl) (pe_call (okLdraw T) (hr.mono (by decide)) rfl T.gLdraw T.fLdraw.kp T.bLdraw .nil pass0 (pa_cons (pv 1) (pa_cons pe_int pa_nil))))
      (pss_cons (ps_if (pt_cmpR op_lt (pv 2) pe_int (nomark _)) (pss_one (ps_ret (pe_call hS3 (hr.mono (by decide)) rfl T.gLlongright T.fLlongright.kp T.bLlongright .nil pass0 (pa_cons (pv 1) (pa_cons (pe_cmpR op_eq (pv 2) pe_int (nomark _)) pa_nil))))) pss_nil)
      (pss_one (ps_ret (pe_or (pe_cmpR op_gt (pv 2) pe_int (nomark _)) (pe_one (pe_call0 (okLallright T) (hr.mono (by decide)) rfl T.gLallright T.fLallright.kp T.bLallright .nil pass0)))))))))), ?_⟩
    refine ⟨_, rfl, a, ns, 0, rfl, hS, fun x0 => ⟨x0, rfl, fun H1 u u0 w1 s1 => ?_⟩⟩
    refine gset (σ' := [some (V.ref a), some (V.ref u), none]) rfl ?_
    refine ⟨_, rfl, u, 0, rfl, w1, by decide, Tabs.ext tabs s1, fun H2 t2' w2 k2 => ⟨_, rfl, ifF rfl ?_⟩⟩
    refine ⟨_, rfl, u, _, rfl, w2, by decide, t2', fun H3 t3' w3 k3 => ⟨_, rfl, ifF rfl ?_⟩⟩
    refine ⟨_, rfl, a, ns, 1, rfl, kn_sq u0 s1 (k2.trans k3) hS, fun x1 => ⟨x1, rfl, fun H4 v v0 w4 s4 => ?_⟩⟩
    refine gset (σ' := [some (V.ref a), some (V.ref v), none]) rfl ?_
    have t4 := Tabs.ext t3' s4
    refine ⟨_, rfl, v, 6, 0, rfl, w4, by decide, by decide, by decide, fun H5 way lw w5 f5 => ?_⟩
    refine gset (σ' := [some (V.ref a), some (V.ref v), some (V.int way)]) rfl ?_
    have t5 := Tabs.fr t4 w4 f5
    refine ⟨_, rfl, _, _, rfl, rfl, _, rfl, ifD (fun g => ?_) (fun g => ?_)⟩
    · exact ⟨_, rfl, _, rfl, rfl, v, _, _, rfl, w5, by decide, t5, fun H6 => hq H6⟩
    · refine ⟨_, rfl, _, _, rfl, rfl, _, rfl, ?_⟩
      exact ifD (fun _ => hq H5) (fun _ => ⟨rfl, fun H6 => hq H6⟩)
end
end Kp

namespace Kp
open PySem PySem.Spec PyProof.Rows L2 KpR
theorem funD1 {K : PySem.W.Frag} {f D : Addr} {x qual p1 : Str} {n1 : Int} {st : Stmt} {oc doc pm cdv ct : Value} {od an : Option Addr} {osl : Array (Option Value)} {t1 : Tok}
    (l : K.lookup f = some ⟨oc, od, .func (PySem.W.fnOf x qual (defArgs st) (defBody st) (defScope st) .none (.ref D) doc pm an cdv ct), osl⟩) (c : PySem.W.codeIn K cdv qual = true) (k : PySem.W.keepIn K (.ref f) = true)
    (w1 : PySem.W.nsIn K D p1 = some (some (.int n1 t1))) :
    FunD K x qual (defArgs st) (defBody st) (defScope st) [] [(p1, .int n1)] f (PySem.W.fnOf x qual (defArgs st) (defBody st) (defScope st) .none (.ref D) doc pm an cdv ct) := by
  refine ⟨⟨oc, od, .none, .ref D, doc, pm, an, cdv, ct, osl, rfl, l, c, .inl ⟨rfl, rfl⟩, .inr ⟨D, rfl, fun q hq => ?_⟩⟩, k⟩
  rcases List.mem_cons.mp hq with e | hq
  · rw [e]
    exact ⟨_, w1, _, rfl⟩
  · cases hq
theorem funD2 {K : PySem.W.Frag} {f D : Addr} {x qual : Str} {st : Stmt} {oc doc pm cdv ct : Value} {od an : Option Addr} {osl : Array (Option Value)} {t1 t2 : Tok}
    (l : K.lookup f = some ⟨oc, od, .func (PySem.W.fnOf x qual (defArgs st) (defBody st) (defScope st) .none (.ref D) doc pm an cdv ct), osl⟩) (c : PySem.W.codeIn K cdv qual = true) (k : PySem.W.keepIn K (.ref f) = true)
    (w1 : PySem.W.nsIn K D "parts" = some (some (.int 1 t1))) (w2 : PySem.W.nsIn K D "times" = some (some (.int 1 t2))) :
    FunD K x qual (defArgs st) (defBody st) (defScope st) [] [("parts", .int 1), ("times", .int 1)] f (PySem.W.fnOf x qual (defArgs st) (defBody st) (defScope st) .none (.ref D) doc pm an cdv ct) := by
  refine ⟨⟨oc, od, .none, .ref D, doc, pm, an, cdv, ct, osl, rfl, l, c, .inl ⟨rfl, rfl⟩, .inr ⟨D, rfl, fun q hq => ?_⟩⟩, k⟩
  rcases List.mem_cons.mp hq with e | hq
  · rw [e]
    exact ⟨_, w1, _, rfl⟩
  · rcases List.mem_cons.mp hq with e | hq
    · rw [e]
      exact ⟨_, w2, _, rfl⟩
    · cases hq
theorem kit_tyV {K : PySem.W.Frag} {T : String} {A : Addr} {b : Bool} (h : PySem.W.subIn K (.ref A) (.type T) = some b) (m : PySem.W.kitMeta T = true := by decide +kernel) : PySem.W.kitOne K (.ref A) (.type T) = some b := by
  have ne : ¬ (Value.ref A == Value.type T) = true := fun z => nomatch eq_of_beq z
  unfold PySem.W.kitOne
  rw [if_neg ne]
  show (if PySem.W.kitMeta T = true then PySem.W.subIn K (.ref A) (.type T) else none) = some b
  rw [if_pos m]
  exact h
theorem all_mk {l : PySem.W.OpenLaw} {w : World} {K : PySem.W.Frag} {h : Heap} {mg : Str → Option Value} {fa CJars CPour CPut CDraw CChange CRow CTurning CWide CBadCount CBadStart fcheckmuch fcheckjar fcheckdeed fJarsInit fPourInit fPutInit fDrawInit fChangeInit fRowInit fWideInit fBadCountInit fBadStartInit fcheckstart fbehinddeed fbehindround ffate fTurningInit fTurningRings PTurning_rings fTurningRingsset fcheckmany fwholestarts ffatesof fturning fLcellat fLwell fLdraw fLof fLsizes fLdeed fLdeeds fLdeedmade fLrow fLstart fLgreat fLsaid fLoddstart fLstartsright fLmanyright fLlongright fLallright flaw Dfate : Addr} (X : K.In h) (G : h.Ns mainGlobals mg) (hfa : mg "law" = some (.ref fa))
    {odcheckmuch ancheckmuch odcheckjar ancheckjar odcheckdeed ancheckdeed odJarsInit anJarsInit odPourInit anPourInit odPutInit anPutInit odDrawInit anDrawInit odChangeInit anChangeInit odRowInit anRowInit odWideInit anWideInit odBadCountInit anBadCountInit odBadStartInit anBadStartInit odcheckstart ancheckstart odbehinddeed anbehinddeed odbehindround anbehindround odfate anfate odTurningInit anTurningInit odTurningRings anTurningRings odTurningRingsset anTurningRingsset odcheckmany ancheckmany odwholestarts anwholestarts odfatesof anfatesof odturning anturning odLcellat anLcellat odLwell anLwell odLdraw anLdraw odLof anLof odLsizes anLsizes odLdeed anLdeed odLdeeds anLdeeds odLdeedmade anLdeedmade odLrow anLrow odLstart anLstart odLgreat anLgreat odLsaid anLsaid odLoddstart anLoddstart odLstartsright anLstartsright odLmanyright anLmanyright odLlongright anLlongright odLallright anLallright odlaw anlaw : Option Addr} {slcheckmuch slcheckjar slcheckdeed slJarsInit slPourInit slPutInit slDrawInit slChangeInit slRowInit slWideInit slBadCountInit slBadStartInit slcheckstart slbehinddeed slbehindround slfate slTurningInit slTurningRings slTurningRingsset slcheckmany slwholestarts slfatesof slturning slLcellat slLwell slLdraw slLof slLsizes slLdeed slLdeeds slLdeedmade slLrow slLstart slLgreat slLsaid slLoddstart slLstartsright slLmanyright slLlongright slLallright sllaw : Array (Option Value)} {occheckmuch dccheckmuch pmcheckmuch cdcheckmuch ctcheckmuch kVcheckmuch occheckjar dccheckjar pmcheckjar cdcheckjar ctcheckjar kVcheckjar occheckdeed dccheckdeed pmcheckdeed cdcheckdeed ctcheckdeed kVcheckdeed ocJarsInit dcJarsInit pmJarsInit cdJarsInit ctJarsInit kVJarsInit ocPourInit dcPourInit pmPourInit cdPourInit ctPourInit kVPourInit ocPutInit dcPutInit pmPutInit cdPutInit ctPutInit kVPutInit ocDrawInit dcDrawInit pmDrawInit cdDrawInit ctDrawInit kVDrawInit ocChangeInit dcChangeInit pmChangeInit cdChangeInit ctChangeInit kVChangeInit ocRowInit dcRowInit pmRowInit cdRowInit ctRowInit kVRowInit ocWideInit dcWideInit pmWideInit cdWideInit ctWideInit kVWideInit ocBadCountInit dcBadCountInit pmBadCountInit cdBadCountInit ctBadCountInit kVBadCountInit ocBadStartInit dcBadStartInit pmBadStartInit cdBadStartInit ctBadStartInit kVBadStartInit occheckstart dccheckstart pmcheckstart cdcheckstart ctcheckstart kVcheckstart ocbehinddeed dcbehinddeed pmbehinddeed cdbehinddeed ctbehinddeed kVbehinddeed ocbehindround dcbehindround pmbehindround cdbehindround ctbehindround kVbehindround ocfate dcfate pmfate cdfate ctfate ocTurningInit dcTurningInit pmTurningInit cdTurningInit ctTurningInit kVTurningInit ocTurningRings dcTurningRings pmTurningRings cdTurningRings ctTurningRings kVTurningRings ocTurningRingsset dcTurningRingsset pmTurningRingsset cdTurningRingsset ctTurningRingsset kVTurningRingsset occheckmany dccheckmany pmcheckmany cdcheckmany ctcheckmany kVcheckmany ocwholestarts dcwholestarts pmwholestarts cdwholestarts ctwholestarts kVwholestarts ocfatesof dcfatesof pmfatesof cdfatesof ctfatesof kVfatesof octurning dcturning pmturning cdturning ctturning kVturning ocLcellat dcLcellat pmLcellat cdLcellat ctLcellat kVLcellat ocLwell dcLwell pmLwell cdLwell ctLwell kVLwell ocLdraw dcLdraw pmLdraw cdLdraw ctLdraw kVLdraw ocLof dcLof pmLof cdLof ctLof kVLof ocLsizes dcLsizes pmLsizes cdLsizes ctLsizes kVLsizes ocLdeed dcLdeed pmLdeed cdLdeed ctLdeed kVLdeed ocLdeeds dcLdeeds pmLdeeds cdLdeeds ctLdeeds kVLdeeds ocLdeedmade dcLdeedmade pmLdeedmade cdLdeedmade ctLdeedmade kVLdeedmade ocLrow dcLrow pmLrow cdLrow ctLrow kVLrow ocLstart dcLstart pmLstart cdLstart ctLstart kVLstart ocLgreat dcLgreat pmLgreat cdLgreat ctLgreat kVLgreat ocLsaid dcLsaid pmLsaid cdLsaid ctLsaid kVLsaid ocLoddstart dcLoddstart pmLoddstart cdLoddstart ctLoddstart kVLoddstart ocLstartsright dcLstartsright pmLstartsright cdLstartsright ctLstartsright kVLstartsright ocLmanyright dcLmanyright pmLmanyright cdLmanyright ctLmanyright kVLmanyright ocLlongright dcLlongright pmLlongright cdLlongright ctLlongright kVLlongright ocLallright dcLallright pmLallright cdLallright ctLallright kVLallright oclaw dclaw pmlaw cdlaw ctlaw kVlaw : Value} {tkMOSTJARS tkMOSTDEEDS tkMOSTMUCH tkMOSTROUNDS tkMOSTSTARTS tfate_parts : Tok}
    (own : ∀ y ∈ [("_law_starts_right" : Str), ("_law_many_right" : Str), ("_law_long_right" : Str)], ∀ fy, mg y = some (.ref fy) → LamX.OwnTab K fy h) {CL1 TL1 CL2 TL2 CL3 TL3 : Addr} {ddL1 ddL2 ddL3 : Option Addr} {vsL1 vsL2 vsL3 : Array Value} {slL1 slL2 slL3 : Array (Option Value)}
    {rsTurning_rings : List Value}
    {nmXWide qXWide : Str} {NXWide : Addr} {bsXWide bmXWide : List Value} {abXWide : Bool} {snXWide : List Str} {subXWide : List Value} {colXWide : Option Bool} {ddXWide : Option Addr} {r0XWide r1XWide r2XWide r3XWide r5XWide : Option Value}
    {nmXBadCount qXBadCount : Str} {NXBadCount : Addr} {bsXBadCount bmXBadCount : List Value} {abXBadCount : Bool} {snXBadCount : List Str} {subXBadCount : List Value} {colXBadCount : Option Bool} {ddXBadCount : Option Addr} {r0XBadCount r1XBadCount r2XBadCount r3XBadCount r5XBadCount : Option Value}
    {nmXBadStart qXBadStart : Str} {NXBadStart : Addr} {bsXBadStart bmXBadStart : List Value} {abXBadStart : Bool} {snXBadStart : List Str} {subXBadStart : List Value} {colXBadStart : Option Bool} {ddXBadStart : Option Addr} {r0XBadStart r1XBadStart r2XBadStart r3XBadStart r5XBadStart : Option Value}
    (xJars : PySem.W.nsIn K mainGlobals "Jars" = some (some (.ref CJars)))
    (xPour : PySem.W.nsIn K mainGlobals "Pour" = some (some (.ref CPour)))
    (xPut : PySem.W.nsIn K mainGlobals "Put" = some (some (.ref CPut)))
    (xDraw : PySem.W.nsIn K mainGlobals "Draw" = some (some (.ref CDraw)))
    (xChange : PySem.W.nsIn K mainGlobals "Change" = some (some (.ref CChange)))
    (xRow : PySem.W.nsIn K mainGlobals "Row" = some (some (.ref CRow)))
    (xTurning : PySem.W.nsIn K mainGlobals "Turning" = some (some (.ref CTurning)))
    (xWide : PySem.W.nsIn K mainGlobals "Wide" = some (some (.ref CWide)))
    (xBadCount : PySem.W.nsIn K mainGlobals "BadCount" = some (some (.ref CBadCount)))
    (xBadStart : PySem.W.nsIn K mainGlobals "BadStart" = some (some (.ref CBadStart)))
    (acheckmuch : PySem.W.nsIn K mainGlobals "check_much" = some (some (.ref fcheckmuch)))
    (lcheckmuch : K.lookup fcheckmuch = some ⟨occheckmuch, odcheckmuch, .func (PySem.W.fnOf "check_much" "check_much" (defArgs scheckmuch) (defBody scheckmuch) (defScope scheckmuch) .none kVcheckmuch dccheckmuch pmcheckmuch ancheckmuch cdcheckmuch ctcheckmuch), slcheckmuch⟩)
    (qcheckmuch : PySem.W.codeIn K cdcheckmuch "check_much" = true)
    (kcheckmuch : PySem.W.keepIn K (.ref fcheckmuch) = true)
    (acheckjar : PySem.W.nsIn K mainGlobals "check_jar" = some (some (.ref fcheckjar)))
    (lcheckjar : K.lookup fcheckjar = some ⟨occheckjar, odcheckjar, .func (PySem.W.fnOf "check_jar" "check_jar" (defArgs scheckjar) (defBody scheckjar) (defScope scheckjar) .none kVcheckjar dccheckjar pmcheckjar ancheckjar cdcheckjar ctcheckjar), slcheckjar⟩)
    (qcheckjar : PySem.W.codeIn K cdcheckjar "check_jar" = true)
    (kcheckjar : PySem.W.keepIn K (.ref fcheckjar) = true)
    (acheckdeed : PySem.W.nsIn K mainGlobals "check_deed" = some (some (.ref fcheckdeed)))
    (lcheckdeed : K.lookup fcheckdeed = some ⟨occheckdeed, odcheckdeed, .func (PySem.W.fnOf "check_deed" "check_deed" (defArgs scheckdeed) (defBody scheckdeed) (defScope scheckdeed) .none kVcheckdeed dccheckdeed pmcheckdeed ancheckdeed cdcheckdeed ctcheckdeed), slcheckdeed⟩)
    (qcheckdeed : PySem.W.codeIn K cdcheckdeed "check_deed" = true)
    (kcheckdeed : PySem.W.keepIn K (.ref fcheckdeed) = true)
    (aJarsInit : PySem.W.findIn K (.ref CJars) "__init__" = some (some (.ref fJarsInit)))
    (iJarsInit : PySem.W.isFn K (.ref fJarsInit) = true)
    (lJarsInit : K.lookup fJarsInit = some ⟨ocJarsInit, odJarsInit, .func (PySem.W.fnOf "__init__" "Jars.__init__" (defArgs sJarsInit) (defBody sJarsInit) (defScope sJarsInit) .none kVJarsInit dcJarsInit pmJarsInit anJarsInit cdJarsInit ctJarsInit), slJarsInit⟩)
    (qJarsInit : PySem.W.codeIn K cdJarsInit "Jars.__init__" = true)
    (kJarsInit : PySem.W.keepIn K (.ref fJarsInit) = true)
    (aPourInit : PySem.W.findIn K (.ref CPour) "__init__" = some (some (.ref fPourInit)))
    (iPourInit : PySem.W.isFn K (.ref fPourInit) = true)
    (lPourInit : K.lookup fPourInit = some ⟨ocPourInit, odPourInit, .func (PySem.W.fnOf "__init__" "Pour.__init__" (defArgs sPourInit) (defBody sPourInit) (defScope sPourInit) .none kVPourInit dcPourInit pmPourInit anPourInit cdPourInit ctPourInit), slPourInit⟩)
    (qPourInit : PySem.W.codeIn K cdPourInit "Pour.__init__" = true)
    (kPourInit : PySem.W.keepIn K (.ref fPourInit) = true)
    (aPutInit : PySem.W.findIn K (.ref CPut) "__init__" = some (some (.ref fPutInit)))
    (iPutInit : PySem.W.isFn K (.ref fPutInit) = true)
    (lPutInit : K.lookup fPutInit = some ⟨ocPutInit, odPutInit, .func (PySem.W.fnOf "__init__" "Put.__init__" (defArgs sPutInit) (defBody sPutInit) (defScope sPutInit) .none kVPutInit dcPutInit pmPutInit anPutInit cdPutInit ctPutInit), slPutInit⟩)
    (qPutInit : PySem.W.codeIn K cdPutInit "Put.__init__" = true)
    (kPutInit : PySem.W.keepIn K (.ref fPutInit) = true)
    (aDrawInit : PySem.W.findIn K (.ref CDraw) "__init__" = some (some (.ref fDrawInit)))
    (iDrawInit : PySem.W.isFn K (.ref fDrawInit) = true)
    (lDrawInit : K.lookup fDrawInit = some ⟨ocDrawInit, odDrawInit, .func (PySem.W.fnOf "__init__" "Draw.__init__" (defArgs sDrawInit) (defBody sDrawInit) (defScope sDrawInit) .none kVDrawInit dcDrawInit pmDrawInit anDrawInit cdDrawInit ctDrawInit), slDrawInit⟩)
    (qDrawInit : PySem.W.codeIn K cdDrawInit "Draw.__init__" = true)
    (kDrawInit : PySem.W.keepIn K (.ref fDrawInit) = true)
    (aChangeInit : PySem.W.findIn K (.ref CChange) "__init__" = some (some (.ref fChangeInit)))
    (iChangeInit : PySem.W.isFn K (.ref fChangeInit) = true)
    (lChangeInit : K.lookup fChangeInit = some ⟨ocChangeInit, odChangeInit, .func (PySem.W.fnOf "__init__" "Change.__init__" (defArgs sChangeInit) (defBody sChangeInit) (defScope sChangeInit) .none kVChangeInit dcChangeInit pmChangeInit anChangeInit cdChangeInit ctChangeInit), slChangeInit⟩)
    (qChangeInit : PySem.W.codeIn K cdChangeInit "Change.__init__" = true)
    (kChangeInit : PySem.W.keepIn K (.ref fChangeInit) = true)
    (aRowInit : PySem.W.findIn K (.ref CRow) "__init__" = some (some (.ref fRowInit)))
    (iRowInit : PySem.W.isFn K (.ref fRowInit) = true)
    (lRowInit : K.lookup fRowInit = some ⟨ocRowInit, odRowInit, .func (PySem.W.fnOf "__init__" "Row.__init__" (defArgs sRowInit) (defBody sRowInit) (defScope sRowInit) .none kVRowInit dcRowInit pmRowInit anRowInit cdRowInit ctRowInit), slRowInit⟩)
    (qRowInit : PySem.W.codeIn K cdRowInit "Row.__init__" = true)
    (kRowInit : PySem.W.keepIn K (.ref fRowInit) = true)
    (aWideInit : PySem.W.findIn K (.ref CWide) "__init__" = some (some (.ref fWideInit)))
    (iWideInit : PySem.W.isFn K (.ref fWideInit) = true)
    (lWideInit : K.lookup fWideInit = some ⟨ocWideInit, odWideInit, .func (PySem.W.fnOf "__init__" "Wide.__init__" (defArgs sWideInit) (defBody sWideInit) (defScope sWideInit) .none kVWideInit dcWideInit pmWideInit anWideInit cdWideInit ctWideInit), slWideInit⟩)
    (qWideInit : PySem.W.codeIn K cdWideInit "Wide.__init__" = true)
    (kWideInit : PySem.W.keepIn K (.ref fWideInit) = true)
    (aBadCountInit : PySem.W.findIn K (.ref CBadCount) "__init__" = some (some (.ref fBadCountInit)))
    (iBadCountInit : PySem.W.isFn K (.ref fBadCountInit) = true)
    (lBadCountInit : K.lookup fBadCountInit = some ⟨ocBadCountInit, odBadCountInit, .func (PySem.W.fnOf "__init__" "BadCount.__init__" (defArgs sBadCountInit) (defBody sBadCountInit) (defScope sBadCountInit) .none kVBadCountInit dcBadCountInit pmBadCountInit anBadCountInit cdBadCountInit ctBadCountInit), slBadCountInit⟩)
    (qBadCountInit : PySem.W.codeIn K cdBadCountInit "BadCount.__init__" = true)
    (kBadCountInit : PySem.W.keepIn K (.ref fBadCountInit) = true)
    (aBadStartInit : PySem.W.findIn K (.ref CBadStart) "__init__" = some (some (.ref fBadStartInit)))
    (iBadStartInit : PySem.W.isFn K (.ref fBadStartInit) = true)
    (lBadStartInit : K.lookup fBadStartInit = some ⟨ocBadStartInit, odBadStartInit, .func (PySem.W.fnOf "__init__" "BadStart.__init__" (defArgs sBadStartInit) (defBody sBadStartInit) (defScope sBadStartInit) .none kVBadStartInit dcBadStartInit pmBadStartInit anBadStartInit cdBadStartInit ctBadStartInit), slBadStartInit⟩)
    (qBadStartInit : PySem.W.codeIn K cdBadStartInit "BadStart.__init__" = true)
    (kBadStartInit : PySem.W.keepIn K (.ref fBadStartInit) = true)
    (acheckstart : PySem.W.nsIn K mainGlobals "check_start" = some (some (.ref fcheckstart)))
    (lcheckstart : K.lookup fcheckstart = some ⟨occheckstart, odcheckstart, .func (PySem.W.fnOf "check_start" "check_start" (defArgs scheckstart) (defBody scheckstart) (defScope scheckstart) .none kVcheckstart dccheckstart pmcheckstart ancheckstart cdcheckstart ctcheckstart), slcheckstart⟩)
    (qcheckstart : PySem.W.codeIn K cdcheckstart "check_start" = true)
    (kcheckstart : PySem.W.keepIn K (.ref fcheckstart) = true)
    (abehinddeed : PySem.W.nsIn K mainGlobals "behind_deed" = some (some (.ref fbehinddeed)))
    (lbehinddeed : K.lookup fbehinddeed = some ⟨ocbehinddeed, odbehinddeed, .func (PySem.W.fnOf "behind_deed" "behind_deed" (defArgs sbehinddeed) (defBody sbehinddeed) (defScope sbehinddeed) .none kVbehinddeed dcbehinddeed pmbehinddeed anbehinddeed cdbehinddeed ctbehinddeed), slbehinddeed⟩)
    (qbehinddeed : PySem.W.codeIn K cdbehinddeed "behind_deed" = true)
    (kbehinddeed : PySem.W.keepIn K (.ref fbehinddeed) = true)
    (abehindround : PySem.W.nsIn K mainGlobals "behind_round" = some (some (.ref fbehindround)))
    (lbehindround : K.lookup fbehindround = some ⟨ocbehindround, odbehindround, .func (PySem.W.fnOf "behind_round" "behind_round" (defArgs sbehindround) (defBody sbehindround) (defScope sbehindround) .none kVbehindround dcbehindround pmbehindround anbehindround cdbehindround ctbehindround), slbehindround⟩)
    (qbehindround : PySem.W.codeIn K cdbehindround "behind_round" = true)
    (kbehindround : PySem.W.keepIn K (.ref fbehindround) = true)
    (afate : PySem.W.nsIn K mainGlobals "fate" = some (some (.ref ffate)))
    (lfate : K.lookup ffate = some ⟨ocfate, odfate, .func (PySem.W.fnOf "fate" "fate" (defArgs sfate) (defBody sfate) (defScope sfate) .none (.ref Dfate) dcfate pmfate anfate cdfate ctfate), slfate⟩)
    (qfate : PySem.W.codeIn K cdfate "fate" = true)
    (kfate : PySem.W.keepIn K (.ref ffate) = true)
    (wfate_parts : PySem.W.nsIn K Dfate "parts" = some (some (.int 1 tfate_parts)))
    (aTurningInit : PySem.W.findIn K (.ref CTurning) "__init__" = some (some (.ref fTurningInit)))
    (iTurningInit : PySem.W.isFn K (.ref fTurningInit) = true)
    (lTurningInit : K.lookup fTurningInit = some ⟨ocTurningInit, odTurningInit, .func (PySem.W.fnOf "__init__" "Turning.__init__" (defArgs sTurningInit) (defBody sTurningInit) (defScope sTurningInit) .none kVTurningInit dcTurningInit pmTurningInit anTurningInit cdTurningInit ctTurningInit), slTurningInit⟩)
    (qTurningInit : PySem.W.codeIn K cdTurningInit "Turning.__init__" = true)
    (kTurningInit : PySem.W.keepIn K (.ref fTurningInit) = true)
    (qaTurning_rings : PySem.W.findIn K (.ref CTurning) "rings" = some (some (.ref PTurning_rings)))
    (qgTurning_rings : PySem.W.specialIn K (.ref PTurning_rings) "__get__" = some (some (.builtin "property.__get__")))
    (qtTurning_rings : PySem.W.takesIn K (.ref PTurning_rings) = some true)
    (qyTurning_rings : PySem.W.typeIn K (.ref PTurning_rings) = some (.type "property"))
    (qrTurning_rings : PySem.W.recIn K PTurning_rings "property" = some (.ref fTurningRings :: .ref fTurningRingsset :: rsTurning_rings))
    (lTurningRings : K.lookup fTurningRings = some ⟨ocTurningRings, odTurningRings, .func (PySem.W.fnOf "rings" "Turning.rings" (defArgs sTurningRings) (defBody sTurningRings) (defScope sTurningRings) .none kVTurningRings dcTurningRings pmTurningRings anTurningRings cdTurningRings ctTurningRings), slTurningRings⟩)
    (qTurningRings : PySem.W.codeIn K cdTurningRings "Turning.rings" = true)
    (kTurningRings : PySem.W.keepIn K (.ref fTurningRings) = true)
    (lTurningRingsset : K.lookup fTurningRingsset = some ⟨ocTurningRingsset, odTurningRingsset, .func (PySem.W.fnOf "rings" "Turning.rings" (defArgs sTurningRingsset) (defBody sTurningRingsset) (defScope sTurningRingsset) .none kVTurningRingsset dcTurningRingsset pmTurningRingsset anTurningRingsset cdTurningRingsset ctTurningRingsset), slTurningRingsset⟩)
    (qTurningRingsset : PySem.W.codeIn K cdTurningRingsset "Turning.rings" = true)
    (kTurningRingsset : PySem.W.keepIn K (.ref fTurningRingsset) = true)
    (acheckmany : PySem.W.nsIn K mainGlobals "check_many" = some (some (.ref fcheckmany)))
    (lcheckmany : K.lookup fcheckmany = some ⟨occheckmany, odcheckmany, .func (PySem.W.fnOf "check_many" "check_many" (defArgs scheckmany) (defBody scheckmany) (defScope scheckmany) .none kVcheckmany dccheckmany pmcheckmany ancheckmany cdcheckmany ctcheckmany), slcheckmany⟩)
    (qcheckmany : PySem.W.codeIn K cdcheckmany "check_many" = true)
    (kcheckmany : PySem.W.keepIn K (.ref fcheckmany) = true)
    (awholestarts : PySem.W.nsIn K mainGlobals "whole_starts" = some (some (.ref fwholestarts)))
    (lwholestarts : K.lookup fwholestarts = some ⟨ocwholestarts, odwholestarts, .func (PySem.W.fnOf "whole_starts" "whole_starts" (defArgs swholestarts) (defBody swholestarts) (defScope swholestarts) .none kVwholestarts dcwholestarts pmwholestarts anwholestarts cdwholestarts ctwholestarts), slwholestarts⟩)
    (qwholestarts : PySem.W.codeIn K cdwholestarts "whole_starts" = true)
    (kwholestarts : PySem.W.keepIn K (.ref fwholestarts) = true)
    (afatesof : PySem.W.nsIn K mainGlobals "fates_of" = some (some (.ref ffatesof)))
    (lfatesof : K.lookup ffatesof = some ⟨ocfatesof, odfatesof, .func (PySem.W.fnOf "fates_of" "fates_of" (defArgs sfatesof) (defBody sfatesof) (defScope sfatesof) .none kVfatesof dcfatesof pmfatesof anfatesof cdfatesof ctfatesof), slfatesof⟩)
    (qfatesof : PySem.W.codeIn K cdfatesof "fates_of" = true)
    (kfatesof : PySem.W.keepIn K (.ref ffatesof) = true)
    (aturning : PySem.W.nsIn K mainGlobals "turning" = some (some (.ref fturning)))
    (lturning : K.lookup fturning = some ⟨octurning, odturning, .func (PySem.W.fnOf "turning" "turning" (defArgs sturning) (defBody sturning) (defScope sturning) .none kVturning dcturning pmturning anturning cdturning ctturning), slturning⟩)
    (qturning : PySem.W.codeIn K cdturning "turning" = true)
    (kturning : PySem.W.keepIn K (.ref fturning) = true)
    (aLcellat : PySem.W.nsIn K mainGlobals "_law_cell_at" = some (some (.ref fLcellat)))
    (lLcellat : K.lookup fLcellat = some ⟨ocLcellat, odLcellat, .func (PySem.W.fnOf "_law_cell_at" "_law_cell_at" (defArgs sLcellat) (defBody sLcellat) (defScope sLcellat) .none kVLcellat dcLcellat pmLcellat anLcellat cdLcellat ctLcellat), slLcellat⟩)
    (qLcellat : PySem.W.codeIn K cdLcellat "_law_cell_at" = true)
    (kLcellat : PySem.W.keepIn K (.ref fLcellat) = true)
    (aLwell : PySem.W.nsIn K mainGlobals "_law_well" = some (some (.ref fLwell)))
    (lLwell : K.lookup fLwell = some ⟨ocLwell, odLwell, .func (PySem.W.fnOf "_law_well" "_law_well" (defArgs sLwell) (defBody sLwell) (defScope sLwell) .none kVLwell dcLwell pmLwell anLwell cdLwell ctLwell), slLwell⟩)
    (qLwell : PySem.W.codeIn K cdLwell "_law_well" = true)
    (kLwell : PySem.W.keepIn K (.ref fLwell) = true)
    (aLdraw : PySem.W.nsIn K mainGlobals "_law_draw" = some (some (.ref fLdraw)))
    (lLdraw : K.lookup fLdraw = some ⟨ocLdraw, odLdraw, .func (PySem.W.fnOf "_law_draw" "_law_draw" (defArgs sLdraw) (defBody sLdraw) (defScope sLdraw) .none kVLdraw dcLdraw pmLdraw anLdraw cdLdraw ctLdraw), slLdraw⟩)
    (qLdraw : PySem.W.codeIn K cdLdraw "_law_draw" = true)
    (kLdraw : PySem.W.keepIn K (.ref fLdraw) = true)
    (aLof : PySem.W.nsIn K mainGlobals "_law_of" = some (some (.ref fLof)))
    (lLof : K.lookup fLof = some ⟨ocLof, odLof, .func (PySem.W.fnOf "_law_of" "_law_of" (defArgs sLof) (defBody sLof) (defScope sLof) .none kVLof dcLof pmLof anLof cdLof ctLof), slLof⟩)
    (qLof : PySem.W.codeIn K cdLof "_law_of" = true)
    (kLof : PySem.W.keepIn K (.ref fLof) = true)
    (aLsizes : PySem.W.nsIn K mainGlobals "_law_sizes" = some (some (.ref fLsizes)))
    (lLsizes : K.lookup fLsizes = some ⟨ocLsizes, odLsizes, .func (PySem.W.fnOf "_law_sizes" "_law_sizes" (defArgs sLsizes) (defBody sLsizes) (defScope sLsizes) .none kVLsizes dcLsizes pmLsizes anLsizes cdLsizes ctLsizes), slLsizes⟩)
    (qLsizes : PySem.W.codeIn K cdLsizes "_law_sizes" = true)
    (kLsizes : PySem.W.keepIn K (.ref fLsizes) = true)
    (aLdeed : PySem.W.nsIn K mainGlobals "_law_deed" = some (some (.ref fLdeed)))
    (lLdeed : K.lookup fLdeed = some ⟨ocLdeed, odLdeed, .func (PySem.W.fnOf "_law_deed" "_law_deed" (defArgs sLdeed) (defBody sLdeed) (defScope sLdeed) .none kVLdeed dcLdeed pmLdeed anLdeed cdLdeed ctLdeed), slLdeed⟩)
    (qLdeed : PySem.W.codeIn K cdLdeed "_law_deed" = true)
    (kLdeed : PySem.W.keepIn K (.ref fLdeed) = true)
    (aLdeeds : PySem.W.nsIn K mainGlobals "_law_deeds" = some (some (.ref fLdeeds)))
    (lLdeeds : K.lookup fLdeeds = some ⟨ocLdeeds, odLdeeds, .func (PySem.W.fnOf "_law_deeds" "_law_deeds" (defArgs sLdeeds) (defBody sLdeeds) (defScope sLdeeds) .none kVLdeeds dcLdeeds pmLdeeds anLdeeds cdLdeeds ctLdeeds), slLdeeds⟩)
    (qLdeeds : PySem.W.codeIn K cdLdeeds "_law_deeds" = true)
    (kLdeeds : PySem.W.keepIn K (.ref fLdeeds) = true)
    (aLdeedmade : PySem.W.nsIn K mainGlobals "_law_deed_made" = some (some (.ref fLdeedmade)))
    (lLdeedmade : K.lookup fLdeedmade = some ⟨ocLdeedmade, odLdeedmade, .func (PySem.W.fnOf "_law_deed_made" "_law_deed_made" (defArgs sLdeedmade) (defBody sLdeedmade) (defScope sLdeedmade) .none kVLdeedmade dcLdeedmade pmLdeedmade anLdeedmade cdLdeedmade ctLdeedmade), slLdeedmade⟩)
    (qLdeedmade : PySem.W.codeIn K cdLdeedmade "_law_deed_made" = true)
    (kLdeedmade : PySem.W.keepIn K (.ref fLdeedmade) = true)
    (aLrow : PySem.W.nsIn K mainGlobals "_law_row" = some (some (.ref fLrow)))
    (lLrow : K.lookup fLrow = some ⟨ocLrow, odLrow, .func (PySem.W.fnOf "_law_row" "_law_row" (defArgs sLrow) (defBody sLrow) (defScope sLrow) .none kVLrow dcLrow pmLrow anLrow cdLrow ctLrow), slLrow⟩)
    (qLrow : PySem.W.codeIn K cdLrow "_law_row" = true)
    (kLrow : PySem.W.keepIn K (.ref fLrow) = true)
    (aLstart : PySem.W.nsIn K mainGlobals "_law_start" = some (some (.ref fLstart)))
    (lLstart : K.lookup fLstart = some ⟨ocLstart, odLstart, .func (PySem.W.fnOf "_law_start" "_law_start" (defArgs sLstart) (defBody sLstart) (defScope sLstart) .none kVLstart dcLstart pmLstart anLstart cdLstart ctLstart), slLstart⟩)
    (qLstart : PySem.W.codeIn K cdLstart "_law_start" = true)
    (kLstart : PySem.W.keepIn K (.ref fLstart) = true)
    (aLgreat : PySem.W.nsIn K mainGlobals "_law_great" = some (some (.ref fLgreat)))
    (lLgreat : K.lookup fLgreat = some ⟨ocLgreat, odLgreat, .func (PySem.W.fnOf "_law_great" "_law_great" (defArgs sLgreat) (defBody sLgreat) (defScope sLgreat) .none kVLgreat dcLgreat pmLgreat anLgreat cdLgreat ctLgreat), slLgreat⟩)
    (qLgreat : PySem.W.codeIn K cdLgreat "_law_great" = true)
    (kLgreat : PySem.W.keepIn K (.ref fLgreat) = true)
    (aLsaid : PySem.W.nsIn K mainGlobals "_law_said" = some (some (.ref fLsaid)))
    (lLsaid : K.lookup fLsaid = some ⟨ocLsaid, odLsaid, .func (PySem.W.fnOf "_law_said" "_law_said" (defArgs sLsaid) (defBody sLsaid) (defScope sLsaid) .none kVLsaid dcLsaid pmLsaid anLsaid cdLsaid ctLsaid), slLsaid⟩)
    (qLsaid : PySem.W.codeIn K cdLsaid "_law_said" = true)
    (kLsaid : PySem.W.keepIn K (.ref fLsaid) = true)
    (aLoddstart : PySem.W.nsIn K mainGlobals "_law_odd_start" = some (some (.ref fLoddstart)))
    (lLoddstart : K.lookup fLoddstart = some ⟨ocLoddstart, odLoddstart, .func (PySem.W.fnOf "_law_odd_start" "_law_odd_start" (defArgs sLoddstart) (defBody sLoddstart) (defScope sLoddstart) .none kVLoddstart dcLoddstart pmLoddstart anLoddstart cdLoddstart ctLoddstart), slLoddstart⟩)
    (qLoddstart : PySem.W.codeIn K cdLoddstart "_law_odd_start" = true)
    (kLoddstart : PySem.W.keepIn K (.ref fLoddstart) = true)
    (aLstartsright : PySem.W.nsIn K mainGlobals "_law_starts_right" = some (some (.ref fLstartsright)))
    (lLstartsright : K.lookup fLstartsright = some ⟨ocLstartsright, odLstartsright, .func (PySem.W.fnOf "_law_starts_right" "_law_starts_right" (defArgs sLstartsright) (defBody sLstartsright) (defScope sLstartsright) .none kVLstartsright dcLstartsright pmLstartsright anLstartsright cdLstartsright ctLstartsright), slLstartsright⟩)
    (qLstartsright : PySem.W.codeIn K cdLstartsright "_law_starts_right" = true)
    (kLstartsright : PySem.W.keepIn K (.ref fLstartsright) = true)
    (aLmanyright : PySem.W.nsIn K mainGlobals "_law_many_right" = some (some (.ref fLmanyright)))
    (lLmanyright : K.lookup fLmanyright = some ⟨ocLmanyright, odLmanyright, .func (PySem.W.fnOf "_law_many_right" "_law_many_right" (defArgs sLmanyright) (defBody sLmanyright) (defScope sLmanyright) .none kVLmanyright dcLmanyright pmLmanyright anLmanyright cdLmanyright ctLmanyright), slLmanyright⟩)
    (qLmanyright : PySem.W.codeIn K cdLmanyright "_law_many_right" = true)
    (kLmanyright : PySem.W.keepIn K (.ref fLmanyright) = true)
    (aLlongright : PySem.W.nsIn K mainGlobals "_law_long_right" = some (some (.ref fLlongright)))
    (lLlongright : K.lookup fLlongright = some ⟨ocLlongright, odLlongright, .func (PySem.W.fnOf "_law_long_right" "_law_long_right" (defArgs sLlongright) (defBody sLlongright) (defScope sLlongright) .none kVLlongright dcLlongright pmLlongright anLlongright cdLlongright ctLlongright), slLlongright⟩)
    (qLlongright : PySem.W.codeIn K cdLlongright "_law_long_right" = true)
    (kLlongright : PySem.W.keepIn K (.ref fLlongright) = true)
    (aLallright : PySem.W.nsIn K mainGlobals "_law_all_right" = some (some (.ref fLallright)))
    (lLallright : K.lookup fLallright = some ⟨ocLallright, odLallright, .func (PySem.W.fnOf "_law_all_right" "_law_all_right" (defArgs sLallright) (defBody sLallright) (defScope sLallright) .none kVLallright dcLallright pmLallright anLallright cdLallright ctLallright), slLallright⟩)
    (qLallright : PySem.W.codeIn K cdLallright "_law_all_right" = true)
    (kLallright : PySem.W.keepIn K (.ref fLallright) = true)
    (alaw : PySem.W.nsIn K mainGlobals "law" = some (some (.ref flaw)))
    (llaw : K.lookup flaw = some ⟨oclaw, odlaw, .func (PySem.W.fnOf "law" "law" (defArgs slaw) (defBody slaw) (defScope slaw) .none kVlaw dclaw pmlaw anlaw cdlaw ctlaw), sllaw⟩)
    (qlaw : PySem.W.codeIn K cdlaw "law" = true)
    (klaw : PySem.W.keepIn K (.ref flaw) = true)
    (pgJars : PySem.W.plainGet K CJars Str.empty = true)
    (hdJars : PySem.W.hasDictIn K CJars = true)
    (poJars : PySem.W.plainOver K CJars = true)
    (saJars : PySem.W.findIn K (.ref CJars) "__setattr__" = some (some (.builtin "object.__setattr__")))
    (mkJars : PySem.W.makesIn K CJars = true)
    (kcJars : PySem.W.keepIn K (.ref CJars) = true)
    (nJars_sizes : PySem.W.findIn K (.ref CJars) "sizes" = some none)
    (pgPour : PySem.W.plainGet K CPour Str.empty = true)
    (hdPour : PySem.W.hasDictIn K CPour = true)
    (poPour : PySem.W.plainOver K CPour = true)
    (saPour : PySem.W.findIn K (.ref CPour) "__setattr__" = some (some (.builtin "object.__setattr__")))
    (mkPour : PySem.W.makesIn K CPour = true)
    (kcPour : PySem.W.keepIn K (.ref CPour) = true)
    (nPour_a : PySem.W.findIn K (.ref CPour) "a" = some none)
    (nPour_b : PySem.W.findIn K (.ref CPour) "b" = some none)
    (pgPut : PySem.W.plainGet K CPut Str.empty = true)
    (hdPut : PySem.W.hasDictIn K CPut = true)
    (poPut : PySem.W.plainOver K CPut = true)
    (saPut : PySem.W.findIn K (.ref CPut) "__setattr__" = some (some (.builtin "object.__setattr__")))
    (mkPut : PySem.W.makesIn K CPut = true)
    (kcPut : PySem.W.keepIn K (.ref CPut) = true)
    (nPut_a : PySem.W.findIn K (.ref CPut) "a" = some none)
    (nPut_k : PySem.W.findIn K (.ref CPut) "k" = some none)
    (pgDraw : PySem.W.plainGet K CDraw Str.empty = true)
    (hdDraw : PySem.W.hasDictIn K CDraw = true)
    (poDraw : PySem.W.plainOver K CDraw = true)
    (saDraw : PySem.W.findIn K (.ref CDraw) "__setattr__" = some (some (.builtin "object.__setattr__")))
    (mkDraw : PySem.W.makesIn K CDraw = true)
    (kcDraw : PySem.W.keepIn K (.ref CDraw) = true)
    (nDraw_a : PySem.W.findIn K (.ref CDraw) "a" = some none)
    (nDraw_k : PySem.W.findIn K (.ref CDraw) "k" = some none)
    (pgChange : PySem.W.plainGet K CChange Str.empty = true)
    (hdChange : PySem.W.hasDictIn K CChange = true)
    (poChange : PySem.W.plainOver K CChange = true)
    (saChange : PySem.W.findIn K (.ref CChange) "__setattr__" = some (some (.builtin "object.__setattr__")))
    (mkChange : PySem.W.makesIn K CChange = true)
    (kcChange : PySem.W.keepIn K (.ref CChange) = true)
    (nChange_a : PySem.W.findIn K (.ref CChange) "a" = some none)
    (nChange_b : PySem.W.findIn K (.ref CChange) "b" = some none)
    (pgRow : PySem.W.plainGet K CRow Str.empty = true)
    (hdRow : PySem.W.hasDictIn K CRow = true)
    (poRow : PySem.W.plainOver K CRow = true)
    (saRow : PySem.W.findIn K (.ref CRow) "__setattr__" = some (some (.builtin "object.__setattr__")))
    (mkRow : PySem.W.makesIn K CRow = true)
    (kcRow : PySem.W.keepIn K (.ref CRow) = true)
    (nRow_jars : PySem.W.findIn K (.ref CRow) "jars" = some none)
    (nRow_deeds : PySem.W.findIn K (.ref CRow) "deeds" = some none)
    (pgTurning : PySem.W.plainGet K CTurning Str.empty = true)
    (hdTurning : PySem.W.hasDictIn K CTurning = true)
    (poTurning : PySem.W.plainOver K CTurning = true)
    (saTurning : PySem.W.findIn K (.ref CTurning) "__setattr__" = some (some (.builtin "object.__setattr__")))
    (mkTurning : PySem.W.makesIn K CTurning = true)
    (kcTurning : PySem.W.keepIn K (.ref CTurning) = true)
    (nTurning_tail : PySem.W.findIn K (.ref CTurning) "tail" = some none)
    (nTurning_ring : PySem.W.findIn K (.ref CTurning) "ring" = some none)
    (nTurning_late : PySem.W.findIn K (.ref CTurning) "late" = some none)
    (nTurning__rings : PySem.W.findIn K (.ref CTurning) "_rings" = some none)
    (yaChange : PySem.W.findIn K (.ref CChange) "__class__" = some (some (.builtin "object.__class__")))
    (ymChange : PySem.W.mroIn K CChange (.type "object") = some true)
    (yaDraw : PySem.W.findIn K (.ref CDraw) "__class__" = some (some (.builtin "object.__class__")))
    (ymDraw : PySem.W.mroIn K CDraw (.type "object") = some true)
    (yaPour : PySem.W.findIn K (.ref CPour) "__class__" = some (some (.builtin "object.__class__")))
    (ymPour : PySem.W.mroIn K CPour (.type "object") = some true)
    (yaPut : PySem.W.findIn K (.ref CPut) "__class__" = some (some (.builtin "object.__class__")))
    (ymPut : PySem.W.mroIn K CPut (.type "object") = some true)
    (yn : PySem.W.specialIn K (.builtin "object.__class__") "__get__" = some (some (.builtin "getset_descriptor.__get__")))
    (yt : PySem.W.takesIn K (.builtin "object.__class__") = some true)
    (isPour_Put : PySem.W.kitOne K (.ref CPour) (.ref CPut) = some false)
    (isPour_Draw : PySem.W.kitOne K (.ref CPour) (.ref CDraw) = some false)
    (isPour_Pour : PySem.W.kitOne K (.ref CPour) (.ref CPour) = some true)
    (isPour_Change : PySem.W.kitOne K (.ref CPour) (.ref CChange) = some false)
    (isPut_Put : PySem.W.kitOne K (.ref CPut) (.ref CPut) = some true)
    (isPut_Draw : PySem.W.kitOne K (.ref CPut) (.ref CDraw) = some false)
    (isPut_Pour : PySem.W.kitOne K (.ref CPut) (.ref CPour) = some false)
    (isPut_Change : PySem.W.kitOne K (.ref CPut) (.ref CChange) = some false)
    (isDraw_Put : PySem.W.kitOne K (.ref CDraw) (.ref CPut) = some false)
    (isDraw_Draw : PySem.W.kitOne K (.ref CDraw) (.ref CDraw) = some true)
    (isDraw_Pour : PySem.W.kitOne K (.ref CDraw) (.ref CPour) = some false)
    (isDraw_Change : PySem.W.kitOne K (.ref CDraw) (.ref CChange) = some false)
    (isChange_Put : PySem.W.kitOne K (.ref CChange) (.ref CPut) = some false)
    (isChange_Draw : PySem.W.kitOne K (.ref CChange) (.ref CDraw) = some false)
    (isChange_Pour : PySem.W.kitOne K (.ref CChange) (.ref CPour) = some false)
    (isChange_Change : PySem.W.kitOne K (.ref CChange) (.ref CChange) = some true)
    (tyWide : PySem.W.typeIn K (.ref fWideInit) = some (.type "function"))
    (oxWide : K.lookup CWide = some (PySem.excClassObj nmXWide qXWide CWide NXWide bsXWide bmXWide true snXWide subXWide abXWide colXWide ddXWide r0XWide r1XWide r2XWide r3XWide r5XWide "ValueError.__new__"))
    (orWide : PySem.HandSPX.refsVE bmXWide = true)
    (osWide : PySem.W.findIn K (.ref CWide) "__setattr__" = some (some (.builtin "object.__setattr__")))
    (obWide : PySem.W.subIn K (.ref CWide) (.type "BaseException") = some true)
    (otWide : PySem.W.typeIn K (.ref CWide) = some (.type "type"))
    (okWide : PySem.W.keepIn K (.ref CWide) = true)
    (xgWide : PySem.W.findIn K (.ref CWide) "__getattribute__" = some (some (.builtin "BaseException.__getattribute__")))
    (xnWide : PySem.W.findIn K (.ref CWide) "__getattr__" = some none)
    (xdWide : PySem.W.hasDictIn K CWide = true)
    (nWide_count : PySem.W.findIn K (.ref CWide) "count" = some none)
    (euWide_Wide : PySem.W.subIn K (.ref CWide) (.ref CWide) = some true)
    (euWide_BadCount : PySem.W.subIn K (.ref CWide) (.ref CBadCount) = some false)
    (euWide_BadStart : PySem.W.subIn K (.ref CWide) (.ref CBadStart) = some false)
    (tyBadCount : PySem.W.typeIn K (.ref fBadCountInit) = some (.type "function"))
    (oxBadCount : K.lookup CBadCount = some (PySem.excClassObj nmXBadCount qXBadCount CBadCount NXBadCount bsXBadCount bmXBadCount true snXBadCount subXBadCount abXBadCount colXBadCount ddXBadCount r0XBadCount r1XBadCount r2XBadCount r3XBadCount r5XBadCount "ValueError.__new__"))
    (orBadCount : PySem.HandSPX.refsVE bmXBadCount = true)
    (osBadCount : PySem.W.findIn K (.ref CBadCount) "__setattr__" = some (some (.builtin "object.__setattr__")))
    (obBadCount : PySem.W.subIn K (.ref CBadCount) (.type "BaseException") = some true)
    (otBadCount : PySem.W.typeIn K (.ref CBadCount) = some (.type "type"))
    (okBadCount : PySem.W.keepIn K (.ref CBadCount) = true)
    (xgBadCount : PySem.W.findIn K (.ref CBadCount) "__getattribute__" = some (some (.builtin "BaseException.__getattribute__")))
    (xnBadCount : PySem.W.findIn K (.ref CBadCount) "__getattr__" = some none)
    (xdBadCount : PySem.W.hasDictIn K CBadCount = true)
    (nBadCount_what : PySem.W.findIn K (.ref CBadCount) "what" = some none)
    (nBadCount_count : PySem.W.findIn K (.ref CBadCount) "count" = some none)
    (euBadCount_Wide : PySem.W.subIn K (.ref CBadCount) (.ref CWide) = some false)
    (euBadCount_BadCount : PySem.W.subIn K (.ref CBadCount) (.ref CBadCount) = some true)
    (euBadCount_BadStart : PySem.W.subIn K (.ref CBadCount) (.ref CBadStart) = some false)
    (tyBadStart : PySem.W.typeIn K (.ref fBadStartInit) = some (.type "function"))
    (oxBadStart : K.lookup CBadStart = some (PySem.excClassObj nmXBadStart qXBadStart CBadStart NXBadStart bsXBadStart bmXBadStart true snXBadStart subXBadStart abXBadStart colXBadStart ddXBadStart r0XBadStart r1XBadStart r2XBadStart r3XBadStart r5XBadStart "ValueError.__new__"))
    (orBadStart : PySem.HandSPX.refsVE bmXBadStart = true)
    (osBadStart : PySem.W.findIn K (.ref CBadStart) "__setattr__" = some (some (.builtin "object.__setattr__")))
    (obBadStart : PySem.W.subIn K (.ref CBadStart) (.type "BaseException") = some true)
    (otBadStart : PySem.W.typeIn K (.ref CBadStart) = some (.type "type"))
    (okBadStart : PySem.W.keepIn K (.ref CBadStart) = true)
    (xgBadStart : PySem.W.findIn K (.ref CBadStart) "__getattribute__" = some (some (.builtin "BaseException.__getattribute__")))
    (xnBadStart : PySem.W.findIn K (.ref CBadStart) "__getattr__" = some none)
    (xdBadStart : PySem.W.hasDictIn K CBadStart = true)
    (nBadStart_jar : PySem.W.findIn K (.ref CBadStart) "jar" = some none)
    (euBadStart_Wide : PySem.W.subIn K (.ref CBadStart) (.ref CWide) = some false)
    (euBadStart_BadCount : PySem.W.subIn K (.ref CBadStart) (.ref CBadCount) = some false)
    (euBadStart_BadStart : PySem.W.subIn K (.ref CBadStart) (.ref CBadStart) = some true)
    (yaBadCount : PySem.W.findIn K (.ref CBadCount) "__class__" = some (some (.builtin "object.__class__")))
    (ymBadCount : PySem.W.mroIn K CBadCount (.type "object") = some true)
    (ixBadCount_BadStart : PySem.W.kitOne K (.ref CBadCount) (.ref CBadStart) = some false)
    (ixBadCount_Wide : PySem.W.kitOne K (.ref CBadCount) (.ref CWide) = some false)
    (yaBadStart : PySem.W.findIn K (.ref CBadStart) "__class__" = some (some (.builtin "object.__class__")))
    (ymBadStart : PySem.W.mroIn K CBadStart (.type "object") = some true)
    (ixBadStart_Wide : PySem.W.kitOne K (.ref CBadStart) (.ref CWide) = some false)
    (gMOSTJARS : PySem.W.nsIn K mainGlobals "MOST_JARS" = some (some (.int 6 tkMOSTJARS)))
    (gMOSTDEEDS : PySem.W.nsIn K mainGlobals "MOST_DEEDS" = some (some (.int 20 tkMOSTDEEDS)))
    (gMOSTMUCH : PySem.W.nsIn K mainGlobals "MOST_MUCH" = some (some (.int 1000000000000 tkMOSTMUCH)))
    (gMOSTROUNDS : PySem.W.nsIn K mainGlobals "MOST_ROUNDS" = some (some (.int 20000 tkMOSTROUNDS)))
    (gMOSTSTARTS : PySem.W.nsIn K mainGlobals "MOST_STARTS" = some (some (.int 2000 tkMOSTSTARTS)))
    (zlcm : PySem.W.nsIn K mainGlobals "lcm" = some (some (.builtin "math.lcm")))
    (zenumerate : PySem.W.nsIn K mainGlobals "enumerate" = some none)
    (zint : PySem.W.nsIn K mainGlobals "int" = some none)
    (zisinstance : PySem.W.nsIn K mainGlobals "isinstance" = some none)
    (zlen : PySem.W.nsIn K mainGlobals "len" = some none)
    (zlist : PySem.W.nsIn K mainGlobals "list" = some none)
    (zmax : PySem.W.nsIn K mainGlobals "max" = some none)
    (zmin : PySem.W.nsIn K mainGlobals "min" = some none)
    (zrange : PySem.W.nsIn K mainGlobals "range" = some none)
    (zreversed : PySem.W.nsIn K mainGlobals "reversed" = some none)
    (ztuple : PySem.W.nsIn K mainGlobals "tuple" = some none)
    (cd1 : cdLstartsright = .ref CL1)
    (co1 : K.lookup CL1 = some ⟨.type "code", ddL1, .fields vsL1, slL1⟩)
    (vt1 : vsL1[11]? = some (.ref TL1))
    (nt1 : K.lookup TL1 = none)
    (ch1 : PySem.W.codeHdIn K CL1 TL1 = true)
    (cd2 : cdLmanyright = .ref CL2)
    (co2 : K.lookup CL2 = some ⟨.type "code", ddL2, .fields vsL2, slL2⟩)
    (vt2 : vsL2[11]? = some (.ref TL2))
    (nt2 : K.lookup TL2 = none)
    (ch2 : PySem.W.codeHdIn K CL2 TL2 = true)
    (cd3 : cdLlongright = .ref CL3)
    (co3 : K.lookup CL3 = some ⟨.type "code", ddL3, .fields vsL3, slL3⟩)
    (vt3 : vsL3[11]? = some (.ref TL3))
    (nt3 : K.lookup TL3 = none)
    (ch3 : PySem.W.codeHdIn K CL3 TL3 = true)
    (nn12 : TL1 ≠ TL2)
    (nn13 : TL1 ≠ TL3)
    (nn23 : TL2 ≠ TL3) :
    LamX.LawAtS l w K CX0 14 63 "_law_script" mg fa h := by
  have e := hfa.symm.trans (PySem.W.mg_of X G alaw)
  cases e
  have tab1 := own _ (.head _) _ (PySem.W.mg_of X G aLstartsright) CL1 TL1 _ _ _ _ _ _ lLstartsright rfl cd1 co1 vt1
  have tab2 := own _ (.tail _ (.head _)) _ (PySem.W.mg_of X G aLmanyright) CL2 TL2 _ _ _ _ _ _ lLmanyright rfl cd2 co2 vt2
  have tab3 := own _ (.tail _ (.tail _ (.head _))) _ (PySem.W.mg_of X G aLlongright) CL3 TL3 _ _ _ _ _ _ lLlongright rfl cd3 co3 vt3
  exact ⟨PySem.W.fnOf "law" "law" (defArgs slaw) (defBody slaw) (defScope slaw) .none kVlaw dclaw pmlaw anlaw cdlaw ctlaw, [(CL1, TL1), (CL2, TL2), (CL3, TL3)], spLaw K [TL1, TL2, TL3], mem3 tab1 tab2 tab3, mem3 nt1 nt2 nt3, mem3 (PySem.W.codeHd_of_K X ch1) (PySem.W.codeHd_of_K X ch2) (PySem.W.codeHd_of_K X ch3), fun s v => .of_eq rfl,
    fun H a ns hl _ hH hS => ⟨a, ns, rfl, hS, hl, mem3 (hH _ (.head _)) (hH _ (.tail _ (.head _))) (hH _ (.tail _ (.tail _ (.head _)))), fun _ => rfl⟩, fun base _ _ hT => oklaw {
    cJars := CJars
    mJars := PySem.W.mg_of X G xJars
    cPour := CPour
    mPour := PySem.W.mg_of X G xPour
    cPut := CPut
    mPut := PySem.W.mg_of X G xPut
    cDraw := CDraw
    mDraw := PySem.W.mg_of X G xDraw
    cChange := CChange
    mChange := PySem.W.mg_of X G xChange
    cRow := CRow
    mRow := PySem.W.mg_of X G xRow
    cTurning := CTurning
    mTurning := PySem.W.mg_of X G xTurning
    cWide := CWide
    mWide := PySem.W.mg_of X G xWide
    cBadCount := CBadCount
    mBadCount := PySem.W.mg_of X G xBadCount
    cBadStart := CBadStart
    mBadStart := PySem.W.mg_of X G xBadStart
    gcheckmuch := PySem.W.mg_of X G acheckmuch
    acheckmuch := fcheckmuch
    dcheckmuch := PySem.W.fnOf "check_much" "check_much" (defArgs scheckmuch) (defBody scheckmuch) (defScope scheckmuch) .none kVcheckmuch dccheckmuch pmcheckmuch ancheckmuch cdcheckmuch ctcheckmuch
    fcheckmuch := fun_mk (st := scheckmuch) lcheckmuch qcheckmuch kcheckmuch
    bcheckmuch := (fun_mk (st := scheckmuch) lcheckmuch qcheckmuch kcheckmuch).binds (ps := ["what", "much"]) fun _ _ _ _ _ _ us hl => match us, hl with | [_, _], _ => rfl
    gcheckjar := PySem.W.mg_of X G acheckjar
    acheckjar := fcheckjar
    dcheckjar := PySem.W.fnOf "check_jar" "check_jar" (defArgs scheckjar) (defBody scheckjar) (defScope scheckjar) .none kVcheckjar dccheckjar pmcheckjar ancheckjar cdcheckjar ctcheckjar
    fcheckjar := fun_mk (st := scheckjar) lcheckjar qcheckjar kcheckjar
    bcheckjar := (fun_mk (st := scheckjar) lcheckjar qcheckjar kcheckjar).binds (ps := ["jars", "jar"]) fun _ _ _ _ _ _ us hl => match us, hl with | [_, _], _ => rfl
    gcheckdeed := PySem.W.mg_of X G acheckdeed
    acheckdeed := fcheckdeed
    dcheckdeed := PySem.W.fnOf "check_deed" "check_deed" (defArgs scheckdeed) (defBody scheckdeed) (defScope scheckdeed) .none kVcheckdeed dccheckdeed pmcheckdeed ancheckdeed cdcheckdeed ctcheckdeed
    fcheckdeed := fun_mk (st := scheckdeed) lcheckdeed qcheckdeed kcheckdeed
    bcheckdeed := (fun_mk (st := scheckdeed) lcheckdeed qcheckdeed kcheckdeed).binds (ps := ["jars", "deed"]) fun _ _ _ _ _ _ us hl => match us, hl with | [_, _], _ => rfl
    aJarsInit := fJarsInit
    dJarsInit := PySem.W.fnOf "__init__" "Jars.__init__" (defArgs sJarsInit) (defBody sJarsInit) (defScope sJarsInit) .none kVJarsInit dcJarsInit pmJarsInit anJarsInit cdJarsInit ctJarsInit
    fJarsInit := fun_mk (st := sJarsInit) lJarsInit qJarsInit kJarsInit
    bJarsInit := (fun_mk (st := sJarsInit) lJarsInit qJarsInit kJarsInit).binds (ps := ["self", "sizes"]) fun _ _ _ _ _ _ us hl => match us, hl with | [_, _], _ => rfl
    aPourInit := fPourInit
    dPourInit := PySem.W.fnOf "__init__" "Pour.__init__" (defArgs sPourInit) (defBody sPourInit) (defScope sPourInit) .none kVPourInit dcPourInit pmPourInit anPourInit cdPourInit ctPourInit
    fPourInit := fun_mk (st := sPourInit) lPourInit qPourInit kPourInit
    bPourInit := (fun_mk (st := sPourInit) lPourInit qPourInit kPourInit).binds (ps := ["self", "a", "b"]) fun _ _ _ _ _ _ us hl => match us, hl with | [_, _, _], _ => rfl
    aPutInit := fPutInit
    dPutInit := PySem.W.fnOf "__init__" "Put.__init__" (defArgs sPutInit) (defBody sPutInit) (defScope sPutInit) .none kVPutInit dcPutInit pmPutInit anPutInit cdPutInit ctPutInit
    fPutInit := fun_mk (st := sPutInit) lPutInit qPutInit kPutInit
    bPutInit := (fun_mk (st := sPutInit) lPutInit qPutInit kPutInit).binds (ps := ["self", "a", "k"]) fun _ _ _ _ _ _ us hl => match us, hl with | [_, _, _], _ => rfl
    aDrawInit := fDrawInit
    dDrawInit := PySem.W.fnOf "__init__" "Draw.__init__" (defArgs sDrawInit) (defBody sDrawInit) (defScope sDrawInit) .none kVDrawInit dcDrawInit pmDrawInit anDrawInit cdDrawInit ctDrawInit
    fDrawInit := fun_mk (st := sDrawInit) lDrawInit qDrawInit kDrawInit
    bDrawInit := (fun_mk (st := sDrawInit) lDrawInit qDrawInit kDrawInit).binds (ps := ["self", "a", "k"]) fun _ _ _ _ _ _ us hl => match us, hl with | [_, _, _], _ => rfl
    aChangeInit := fChangeInit
    dChangeInit := PySem.W.fnOf "__init__" "Change.__init__" (defArgs sChangeInit) (defBody sChangeInit) (defScope sChangeInit) .none kVChangeInit dcChangeInit pmChangeInit anChangeInit cdChangeInit ctChangeInit
    fChangeInit := fun_mk (st := sChangeInit) lChangeInit qChangeInit kChangeInit
    bChangeInit := (fun_mk (st := sChangeInit) lChangeInit qChangeInit kChangeInit).binds (ps := ["self", "a", "b"]) fun _ _ _ _ _ _ us hl => match us, hl with | [_, _, _], _ => rfl
    aRowInit := fRowInit
    dRowInit := PySem.W.fnOf "__init__" "Row.__init__" (defArgs sRowInit) (defBody sRowInit) (defScope sRowInit) .none kVRowInit dcRowInit pmRowInit anRowInit cdRowInit ctRowInit
    fRowInit := fun_mk (st := sRowInit) lRowInit qRowInit kRowInit
    bRowInit := (fun_mk (st := sRowInit) lRowInit qRowInit kRowInit).binds (ps := ["self", "jars", "deeds"]) fun _ _ _ _ _ _ us hl => match us, hl with | [_, _, _], _ => rfl
    aWideInit := fWideInit
    dWideInit := PySem.W.fnOf "__init__" "Wide.__init__" (defArgs sWideInit) (defBody sWideInit) (defScope sWideInit) .none kVWideInit dcWideInit pmWideInit anWideInit cdWideInit ctWideInit
    fWideInit := fun_mk (st := sWideInit) lWideInit qWideInit kWideInit
    bWideInit := (fun_mk (st := sWideInit) lWideInit qWideInit kWideInit).binds (ps := ["self", "count"]) fun _ _ _ _ _ _ us hl => match us, hl with | [_, _], _ => rfl
    aBadCountInit := fBadCountInit
    dBadCountInit := PySem.W.fnOf "__init__" "BadCount.__init__" (defArgs sBadCountInit) (defBody sBadCountInit) (defScope sBadCountInit) .none kVBadCountInit dcBadCountInit pmBadCountInit anBadCountInit cdBadCountInit ctBadCountInit
    fBadCountInit := fun_mk (st := sBadCountInit) lBadCountInit qBadCountInit kBadCountInit
    bBadCountInit := (fun_mk (st := sBadCountInit) lBadCountInit qBadCountInit kBadCountInit).binds (ps := ["self", "what", "count"]) fun _ _ _ _ _ _ us hl => match us, hl with | [_, _, _], _ => rfl
    aBadStartInit := fBadStartInit
    dBadStartInit := PySem.W.fnOf "__init__" "BadStart.__init__" (defArgs sBadStartInit) (defBody sBadStartInit) (defScope sBadStartInit) .none kVBadStartInit dcBadStartInit pmBadStartInit anBadStartInit cdBadStartInit ctBadStartInit
    fBadStartInit := fun_mk (st := sBadStartInit) lBadStartInit qBadStartInit kBadStartInit
    bBadStartInit := (fun_mk (st := sBadStartInit) lBadStartInit qBadStartInit kBadStartInit).binds (ps := ["self", "jar"]) fun _ _ _ _ _ _ us hl => match us, hl with | [_, _], _ => rfl
    gcheckstart := PySem.W.mg_of X G acheckstart
    acheckstart := fcheckstart
    dcheckstart := PySem.W.fnOf "check_start" "check_start" (defArgs scheckstart) (defBody scheckstart) (defScope scheckstart) .none kVcheckstart dccheckstart pmcheckstart ancheckstart cdcheckstart ctcheckstart
    fcheckstart := fun_mk (st := scheckstart) lcheckstart qcheckstart kcheckstart
    bcheckstart := (fun_mk (st := scheckstart) lcheckstart qcheckstart kcheckstart).binds (ps := ["jars", "start", "parts"]) fun _ _ _ _ _ _ us hl => match us, hl with | [_, _, _], _ => rfl
    gbehinddeed := PySem.W.mg_of X G abehinddeed
    abehinddeed := fbehinddeed
    dbehinddeed := PySem.W.fnOf "behind_deed" "behind_deed" (defArgs sbehinddeed) (defBody sbehinddeed) (defScope sbehinddeed) .none kVbehinddeed dcbehinddeed pmbehinddeed anbehinddeed cdbehinddeed ctbehinddeed
    fbehinddeed := fun_mk (st := sbehinddeed) lbehinddeed qbehinddeed kbehinddeed
    bbehinddeed := (fun_mk (st := sbehinddeed) lbehinddeed qbehinddeed kbehinddeed).binds (ps := ["jars", "deed", "stand", "parts"]) fun _ _ _ _ _ _ us hl => match us, hl with | [_, _, _, _], _ => rfl
    gbehindround := PySem.W.mg_of X G abehindround
    abehindround := fbehindround
    dbehindround := PySem.W.fnOf "behind_round" "behind_round" (defArgs sbehindround) (defBody sbehindround) (defScope sbehindround) .none kVbehindround dcbehindround pmbehindround anbehindround cdbehindround ctbehindround
    fbehindround := fun_mk (st := sbehindround) lbehindround qbehindround kbehindround
    bbehindround := (fun_mk (st := sbehindround) lbehindround qbehindround kbehindround).binds (ps := ["row", "stand", "parts"]) fun _ _ _ _ _ _ us hl => match us, hl with | [_, _, _], _ => rfl
    gfate := PySem.W.mg_of X G afate
    afate := ffate
    dfate := PySem.W.fnOf "fate" "fate" (defArgs sfate) (defBody sfate) (defScope sfate) .none (.ref Dfate) dcfate pmfate anfate cdfate ctfate
    ffate := funD1 lfate qfate kfate wfate_parts
    aTurningInit := fTurningInit
    dTurningInit := PySem.W.fnOf "__init__" "Turning.__init__" (defArgs sTurningInit) (defBody sTurningInit) (defScope sTurningInit) .none kVTurningInit dcTurningInit pmTurningInit anTurningInit cdTurningInit ctTurningInit
    fTurningInit := fun_mk (st := sTurningInit) lTurningInit qTurningInit kTurningInit
    bTurningInit := (fun_mk (st := sTurningInit) lTurningInit qTurningInit kTurningInit).binds (ps := ["self", "tail", "ring", "late", "rings"]) fun _ _ _ _ _ _ us hl => match us, hl with | [_, _, _, _, _], _ => rfl
    pTurning_rings := PTurning_rings
    pgTurningRings := ⟨qaTurning_rings, qgTurning_rings, qtTurning_rings, ⟨_, qrTurning_rings⟩⟩
    psTurningRingsset := ⟨qaTurning_rings, qtTurning_rings, qyTurning_rings, ⟨_, _, qrTurning_rings⟩⟩
    aTurningRings := fTurningRings
    dTurningRings := PySem.W.fnOf "rings" "Turning.rings" (defArgs sTurningRings) (defBody sTurningRings) (defScope sTurningRings) .none kVTurningRings dcTurningRings pmTurningRings anTurningRings cdTurningRings ctTurningRings
    fTurningRings := fun_mk (st := sTurningRings) lTurningRings qTurningRings kTurningRings
    bTurningRings := (fun_mk (st := sTurningRings) lTurningRings qTurningRings kTurningRings).binds (ps := ["self"]) fun _ _ _ _ _ _ us hl => match us, hl with | [_], _ => rfl
    aTurningRingsset := fTurningRingsset
    dTurningRingsset := PySem.W.fnOf "rings" "Turning.rings" (defArgs sTurningRingsset) (defBody sTurningRingsset) (defScope sTurningRingsset) .none kVTurningRingsset dcTurningRingsset pmTurningRingsset anTurningRingsset cdTurningRingsset ctTurningRingsset
    fTurningRingsset := fun_mk (st := sTurningRingsset) lTurningRingsset qTurningRingsset kTurningRingsset
    bTurningRingsset := (fun_mk (st := sTurningRingsset) lTurningRingsset qTurningRingsset kTurningRingsset).binds (ps := ["self", "value"]) fun _ _ _ _ _ _ us hl => match us, hl with | [_, _], _ => rfl
    gcheckmany := PySem.W.mg_of X G acheckmany
    acheckmany := fcheckmany
    dcheckmany := PySem.W.fnOf "check_many" "check_many" (defArgs scheckmany) (defBody scheckmany) (defScope scheckmany) .none kVcheckmany dccheckmany pmcheckmany ancheckmany cdcheckmany ctcheckmany
    fcheckmany := fun_mk (st := scheckmany) lcheckmany qcheckmany kcheckmany
    bcheckmany := (fun_mk (st := scheckmany) lcheckmany qcheckmany kcheckmany).binds (ps := ["jars"]) fun _ _ _ _ _ _ us hl => match us, hl with | [_], _ => rfl
    gwholestarts := PySem.W.mg_of X G awholestarts
    awholestarts := fwholestarts
    dwholestarts := PySem.W.fnOf "whole_starts" "whole_starts" (defArgs swholestarts) (defBody swholestarts) (defScope swholestarts) .none kVwholestarts dcwholestarts pmwholestarts anwholestarts cdwholestarts ctwholestarts
    fwholestarts := fun_mk (st := swholestarts) lwholestarts qwholestarts kwholestarts
    bwholestarts := (fun_mk (st := swholestarts) lwholestarts qwholestarts kwholestarts).binds (ps := ["jars"]) fun _ _ _ _ _ _ us hl => match us, hl with | [_], _ => rfl
    gfatesof := PySem.W.mg_of X G afatesof
    afatesof := ffatesof
    dfatesof := PySem.W.fnOf "fates_of" "fates_of" (defArgs sfatesof) (defBody sfatesof) (defScope sfatesof) .none kVfatesof dcfatesof pmfatesof anfatesof cdfatesof ctfatesof
    ffatesof := fun_mk (st := sfatesof) lfatesof qfatesof kfatesof
    bfatesof := (fun_mk (st := sfatesof) lfatesof qfatesof kfatesof).binds (ps := ["after"]) fun _ _ _ _ _ _ us hl => match us, hl with | [_], _ => rfl
    gturning := PySem.W.mg_of X G aturning
    aturning := fturning
    dturning := PySem.W.fnOf "turning" "turning" (defArgs sturning) (defBody sturning) (defScope sturning) .none kVturning dcturning pmturning anturning cdturning ctturning
    fturning := fun_mk (st := sturning) lturning qturning kturning
    bturning := (fun_mk (st := sturning) lturning qturning kturning).binds (ps := ["row"]) fun _ _ _ _ _ _ us hl => match us, hl with | [_], _ => rfl
    gLcellat := PySem.W.mg_of X G aLcellat
    aLcellat := fLcellat
    dLcellat := PySem.W.fnOf "_law_cell_at" "_law_cell_at" (defArgs sLcellat) (defBody sLcellat) (defScope sLcellat) .none kVLcellat dcLcellat pmLcellat anLcellat cdLcellat ctLcellat
    fLcellat := fun_mk (st := sLcellat) lLcellat qLcellat kLcellat
    bLcellat := (fun_mk (st := sLcellat) lLcellat qLcellat kLcellat).binds (ps := ["_law_script", "_law_k"]) fun _ _ _ _ _ _ us hl => match us, hl with | [_, _], _ => rfl
    gLwell := PySem.W.mg_of X G aLwell
    aLwell := fLwell
    dLwell := PySem.W.fnOf "_law_well" "_law_well" (defArgs sLwell) (defBody sLwell) (defScope sLwell) .none kVLwell dcLwell pmLwell anLwell cdLwell ctLwell
    fLwell := fun_mk (st := sLwell) lLwell qLwell kLwell
    bLwell := (fun_mk (st := sLwell) lLwell qLwell kLwell).binds (ps := ["_law_cell"]) fun _ _ _ _ _ _ us hl => match us, hl with | [_], _ => rfl
    gLdraw := PySem.W.mg_of X G aLdraw
    aLdraw := fLdraw
    dLdraw := PySem.W.fnOf "_law_draw" "_law_draw" (defArgs sLdraw) (defBody sLdraw) (defScope sLdraw) .none kVLdraw dcLdraw pmLdraw anLdraw cdLdraw ctLdraw
    fLdraw := fun_mk (st := sLdraw) lLdraw qLdraw kLdraw
    bLdraw := (fun_mk (st := sLdraw) lLdraw qLdraw kLdraw).binds (ps := ["_law_well_here", "_law_size"]) fun _ _ _ _ _ _ us hl => match us, hl with | [_, _], _ => rfl
    gLof := PySem.W.mg_of X G aLof
    aLof := fLof
    dLof := PySem.W.fnOf "_law_of" "_law_of" (defArgs sLof) (defBody sLof) (defScope sLof) .none kVLof dcLof pmLof anLof cdLof ctLof
    fLof := fun_mk (st := sLof) lLof qLof kLof
    bLof := (fun_mk (st := sLof) lLof qLof kLof).binds (ps := ["_law_well_here", "_law_some"]) fun _ _ _ _ _ _ us hl => match us, hl with | [_, _], _ => rfl
    gLsizes := PySem.W.mg_of X G aLsizes
    aLsizes := fLsizes
    dLsizes := PySem.W.fnOf "_law_sizes" "_law_sizes" (defArgs sLsizes) (defBody sLsizes) (defScope sLsizes) .none kVLsizes dcLsizes pmLsizes anLsizes cdLsizes ctLsizes
    fLsizes := fun_mk (st := sLsizes) lLsizes qLsizes kLsizes
    bLsizes := (fun_mk (st := sLsizes) lLsizes qLsizes kLsizes).binds (ps := ["_law_well_here", "_law_jars", "_law_most"]) fun _ _ _ _ _ _ us hl => match us, hl with | [_, _, _], _ => rfl
    gLdeed := PySem.W.mg_of X G aLdeed
    aLdeed := fLdeed
    dLdeed := PySem.W.fnOf "_law_deed" "_law_deed" (defArgs sLdeed) (defBody sLdeed) (defScope sLdeed) .none kVLdeed dcLdeed pmLdeed anLdeed cdLdeed ctLdeed
    fLdeed := fun_mk (st := sLdeed) lLdeed qLdeed kLdeed
    bLdeed := (fun_mk (st := sLdeed) lLdeed qLdeed kLdeed).binds (ps := ["_law_well_here", "_law_sizes_here"]) fun _ _ _ _ _ _ us hl => match us, hl with | [_, _], _ => rfl
    gLdeeds := PySem.W.mg_of X G aLdeeds
    aLdeeds := fLdeeds
    dLdeeds := PySem.W.fnOf "_law_deeds" "_law_deeds" (defArgs sLdeeds) (defBody sLdeeds) (defScope sLdeeds) .none kVLdeeds dcLdeeds pmLdeeds anLdeeds cdLdeeds ctLdeeds
    fLdeeds := fun_mk (st := sLdeeds) lLdeeds qLdeeds kLdeeds
    bLdeeds := (fun_mk (st := sLdeeds) lLdeeds qLdeeds kLdeeds).binds (ps := ["_law_well_here", "_law_sizes_here", "_law_most"]) fun _ _ _ _ _ _ us hl => match us, hl with | [_, _, _], _ => rfl
    gLdeedmade := PySem.W.mg_of X G aLdeedmade
    aLdeedmade := fLdeedmade
    dLdeedmade := PySem.W.fnOf "_law_deed_made" "_law_deed_made" (defArgs sLdeedmade) (defBody sLdeedmade) (defScope sLdeedmade) .none kVLdeedmade dcLdeedmade pmLdeedmade anLdeedmade cdLdeedmade ctLdeedmade
    fLdeedmade := fun_mk (st := sLdeedmade) lLdeedmade qLdeedmade kLdeedmade
    bLdeedmade := (fun_mk (st := sLdeedmade) lLdeedmade qLdeedmade kLdeedmade).binds (ps := ["_law_word", "_law_a", "_law_last"]) fun _ _ _ _ _ _ us hl => match us, hl with | [_, _, _], _ => rfl
    gLrow := PySem.W.mg_of X G aLrow
    aLrow := fLrow
    dLrow := PySem.W.fnOf "_law_row" "_law_row" (defArgs sLrow) (defBody sLrow) (defScope sLrow) .none kVLrow dcLrow pmLrow anLrow cdLrow ctLrow
    fLrow := fun_mk (st := sLrow) lLrow qLrow kLrow
    bLrow := (fun_mk (st := sLrow) lLrow qLrow kLrow).binds (ps := ["_law_sizes_here", "_law_deeds_here"]) fun _ _ _ _ _ _ us hl => match us, hl with | [_, _], _ => rfl
    gLstart := PySem.W.mg_of X G aLstart
    aLstart := fLstart
    dLstart := PySem.W.fnOf "_law_start" "_law_start" (defArgs sLstart) (defBody sLstart) (defScope sLstart) .none kVLstart dcLstart pmLstart anLstart cdLstart ctLstart
    fLstart := fun_mk (st := sLstart) lLstart qLstart kLstart
    bLstart := (fun_mk (st := sLstart) lLstart qLstart kLstart).binds (ps := ["_law_well_here", "_law_sizes_here", "_law_shares"]) fun _ _ _ _ _ _ us hl => match us, hl with | [_, _, _], _ => rfl
    gLgreat := PySem.W.mg_of X G aLgreat
    aLgreat := fLgreat
    dLgreat := PySem.W.fnOf "_law_great" "_law_great" (defArgs sLgreat) (defBody sLgreat) (defScope sLgreat) .none kVLgreat dcLgreat pmLgreat anLgreat cdLgreat ctLgreat
    fLgreat := fun_mk (st := sLgreat) lLgreat qLgreat kLgreat
    bLgreat := (fun_mk (st := sLgreat) lLgreat qLgreat kLgreat).binds (ps := ["_law_well_here"]) fun _ _ _ _ _ _ us hl => match us, hl with | [_], _ => rfl
    gLsaid := PySem.W.mg_of X G aLsaid
    aLsaid := fLsaid
    dLsaid := PySem.W.fnOf "_law_said" "_law_said" (defArgs sLsaid) (defBody sLsaid) (defScope sLsaid) .none kVLsaid dcLsaid pmLsaid anLsaid cdLsaid ctLsaid
    fLsaid := fun_mk (st := sLsaid) lLsaid qLsaid kLsaid
    bLsaid := (fun_mk (st := sLsaid) lLsaid qLsaid kLsaid).binds (ps := ["_law_ask"]) fun _ _ _ _ _ _ us hl => match us, hl with | [_], _ => rfl
    gLoddstart := PySem.W.mg_of X G aLoddstart
    aLoddstart := fLoddstart
    dLoddstart := PySem.W.fnOf "_law_odd_start" "_law_odd_start" (defArgs sLoddstart) (defBody sLoddstart) (defScope sLoddstart) .none kVLoddstart dcLoddstart pmLoddstart anLoddstart cdLoddstart ctLoddstart
    fLoddstart := fun_mk (st := sLoddstart) lLoddstart qLoddstart kLoddstart
    bLoddstart := (fun_mk (st := sLoddstart) lLoddstart qLoddstart kLoddstart).binds (ps := ["_law_well_here", "_law_sizes_here", "_law_shares"]) fun _ _ _ _ _ _ us hl => match us, hl with | [_, _, _], _ => rfl
    gLstartsright := PySem.W.mg_of X G aLstartsright
    aLstartsright := fLstartsright
    dLstartsright := PySem.W.fnOf "_law_starts_right" "_law_starts_right" (defArgs sLstartsright) (defBody sLstartsright) (defScope sLstartsright) .none kVLstartsright dcLstartsright pmLstartsright anLstartsright cdLstartsright ctLstartsright
    fLstartsright := fun_mk (st := sLstartsright) lLstartsright qLstartsright kLstartsright
    bLstartsright := (fun_mk (st := sLstartsright) lLstartsright qLstartsright kLstartsright).binds (ps := ["_law_well_here"]) fun _ _ _ _ _ _ us hl => match us, hl with | [_], _ => rfl
    gLmanyright := PySem.W.mg_of X G aLmanyright
    aLmanyright := fLmanyright
    dLmanyright := PySem.W.fnOf "_law_many_right" "_law_many_right" (defArgs sLmanyright) (defBody sLmanyright) (defScope sLmanyright) .none kVLmanyright dcLmanyright pmLmanyright anLmanyright cdLmanyright ctLmanyright
    fLmanyright := fun_mk (st := sLmanyright) lLmanyright qLmanyright kLmanyright
    bLmanyright := (fun_mk (st := sLmanyright) lLmanyright qLmanyright kLmanyright).binds (ps := ["_law_well_here"]) fun _ _ _ _ _ _ us hl => match us, hl with | [_], _ => rfl
    gLlongright := PySem.W.mg_of X G aLlongright
    aLlongright := fLlongright
    dLlongright := PySem.W.fnOf "_law_long_right" "_law_long_right" (defArgs sLlongright) (defBody sLlongright) (defScope sLlongright) .none kVLlongright dcLlongright pmLlongright anLlongright cdLlongright ctLlongright
    fLlongright := fun_mk (st := sLlongright) lLlongright qLlongright kLlongright
    bLlongright := (fun_mk (st := sLlongright) lLlongright qLlongright kLlongright).binds (ps := ["_law_well_here", "_law_is_more"]) fun _ _ _ _ _ _ us hl => match us, hl with | [_, _], _ => rfl
    gLallright := PySem.W.mg_of X G aLallright
    aLallright := fLallright
    dLallright := PySem.W.fnOf "_law_all_right" "_law_all_right" (defArgs sLallright) (defBody sLallright) (defScope sLallright) .none kVLallright dcLallright pmLallright anLallright cdLallright ctLallright
    fLallright := fun_mk (st := sLallright) lLallright qLallright kLallright
    bLallright := (fun_mk (st := sLallright) lLallright qLallright kLallright).binds (ps := []) fun _ _ _ _ _ _ us hl => match us, hl with | [], _ => rfl
    glaw := PySem.W.mg_of X G alaw
    alaw := fa
    dlaw := PySem.W.fnOf "law" "law" (defArgs slaw) (defBody slaw) (defScope slaw) .none kVlaw dclaw pmlaw anlaw cdlaw ctlaw
    flaw := fun_mk (st := slaw) llaw qlaw klaw
    blaw := (fun_mk (st := slaw) llaw qlaw klaw).binds (ps := ["_law_script"]) fun _ _ _ _ _ _ us hl => match us, hl with | [_], _ => rfl
    lJars := ⟨pgJars, hdJars, poJars, saJars⟩
    kJars := ⟨mkJars, aJarsInit, iJarsInit, kcJars⟩
    nJars_sizes := nJars_sizes
    lPour := ⟨pgPour, hdPour, poPour, saPour⟩
    kPour := ⟨mkPour, aPourInit, iPourInit, kcPour⟩
    nPour_a := nPour_a
    nPour_b := nPour_b
    lPut := ⟨pgPut, hdPut, poPut, saPut⟩
    kPut := ⟨mkPut, aPutInit, iPutInit, kcPut⟩
    nPut_a := nPut_a
    nPut_k := nPut_k
    lDraw := ⟨pgDraw, hdDraw, poDraw, saDraw⟩
    kDraw := ⟨mkDraw, aDrawInit, iDrawInit, kcDraw⟩
    nDraw_a := nDraw_a
    nDraw_k := nDraw_k
    lChange := ⟨pgChange, hdChange, poChange, saChange⟩
    kChange := ⟨mkChange, aChangeInit, iChangeInit, kcChange⟩
    nChange_a := nChange_a
    nChange_b := nChange_b
    lRow := ⟨pgRow, hdRow, poRow, saRow⟩
    kRow := ⟨mkRow, aRowInit, iRowInit, kcRow⟩
    nRow_jars := nRow_jars
    nRow_deeds := nRow_deeds
    lTurning := ⟨pgTurning, hdTurning, poTurning, saTurning⟩
    kTurning := ⟨mkTurning, aTurningInit, iTurningInit, kcTurning⟩
    nTurning_tail := nTurning_tail
    nTurning_ring := nTurning_ring
    nTurning_late := nTurning_late
    nTurning__rings := nTurning__rings
    yChange := ⟨yaChange, yn, yt, ymChange⟩
    yDraw := ⟨yaDraw, yn, yt, ymDraw⟩
    yPour := ⟨yaPour, yn, yt, ymPour⟩
    yPut := ⟨yaPut, yn, yt, ymPut⟩
    iPour_Put := isPour_Put
    iPour_Draw := isPour_Draw
    iPour_Pour := isPour_Pour
    iPour_Change := isPour_Change
    iPut_Put := isPut_Put
    iPut_Draw := isPut_Draw
    iPut_Pour := isPut_Pour
    iPut_Change := isPut_Change
    iDraw_Put := isDraw_Put
    iDraw_Draw := isDraw_Draw
    iDraw_Pour := isDraw_Pour
    iDraw_Change := isDraw_Change
    iChange_Put := isChange_Put
    iChange_Draw := isChange_Draw
    iChange_Pour := isChange_Pour
    iChange_Change := isChange_Change
    iWide := aWideInit
    tWide := tyWide
    oWide := ⟨⟨nmXWide, qXWide, NXWide, bsXWide, bmXWide, snXWide, subXWide, abXWide, colXWide, ddXWide, r0XWide, r1XWide, r2XWide, r3XWide, r5XWide, oxWide, orWide⟩, osWide, obWide, otWide, okWide⟩
    xfWide := ⟨xgWide, xnWide, obWide, xdWide⟩
    nWide_count := nWide_count
    emWide_Wide := PySem.W.exm_ref obWide xdWide otWide euWide_Wide
    emWide_BadCount := PySem.W.exm_ref obBadCount xdBadCount otBadCount euWide_BadCount
    emWide_BadStart := PySem.W.exm_ref obBadStart xdBadStart otBadStart euWide_BadStart
    iBadCount := aBadCountInit
    tBadCount := tyBadCount
    oBadCount := ⟨⟨nmXBadCount, qXBadCount, NXBadCount, bsXBadCount, bmXBadCount, snXBadCount, subXBadCount, abXBadCount, colXBadCount, ddXBadCount, r0XBadCount, r1XBadCount, r2XBadCount, r3XBadCount, r5XBadCount, oxBadCount, orBadCount⟩, osBadCount, obBadCount, otBadCount, okBadCount⟩
    xfBadCount := ⟨xgBadCount, xnBadCount, obBadCount, xdBadCount⟩
    nBadCount_what := nBadCount_what
    nBadCount_count := nBadCount_count
    emBadCount_Wide := PySem.W.exm_ref obWide xdWide otWide euBadCount_Wide
    emBadCount_BadCount := PySem.W.exm_ref obBadCount xdBadCount otBadCount euBadCount_BadCount
    emBadCount_BadStart := PySem.W.exm_ref obBadStart xdBadStart otBadStart euBadCount_BadStart
    iBadStart := aBadStartInit
    tBadStart := tyBadStart
    oBadStart := ⟨⟨nmXBadStart, qXBadStart, NXBadStart, bsXBadStart, bmXBadStart, snXBadStart, subXBadStart, abXBadStart, colXBadStart, ddXBadStart, r0XBadStart, r1XBadStart, r2XBadStart, r3XBadStart, r5XBadStart, oxBadStart, orBadStart⟩, osBadStart, obBadStart, otBadStart, okBadStart⟩
    xfBadStart := ⟨xgBadStart, xnBadStart, obBadStart, xdBadStart⟩
    nBadStart_jar := nBadStart_jar
    emBadStart_Wide := PySem.W.exm_ref obWide xdWide otWide euBadStart_Wide
    emBadStart_BadCount := PySem.W.exm_ref obBadCount xdBadCount otBadCount euBadStart_BadCount
    emBadStart_BadStart := PySem.W.exm_ref obBadStart xdBadStart otBadStart euBadStart_BadStart
    xcBadCount := ⟨xgBadCount, xnBadCount, obBadCount, xdBadCount, yaBadCount, yn, yt, ymBadCount⟩
    ixBadCount_BadStart := ixBadCount_BadStart
    ixBadCount_Wide := ixBadCount_Wide
    xcBadStart := ⟨xgBadStart, xnBadStart, obBadStart, xdBadStart, yaBadStart, yn, yt, ymBadStart⟩
    ixBadStart_Wide := ixBadStart_Wide
    tMOSTJARS := tkMOSTJARS
    cMOSTJARS := PySem.W.mg_of X G gMOSTJARS
    tMOSTDEEDS := tkMOSTDEEDS
    cMOSTDEEDS := PySem.W.mg_of X G gMOSTDEEDS
    tMOSTMUCH := tkMOSTMUCH
    cMOSTMUCH := PySem.W.mg_of X G gMOSTMUCH
    tMOSTROUNDS := tkMOSTROUNDS
    cMOSTROUNDS := PySem.W.mg_of X G gMOSTROUNDS
    tMOSTSTARTS := tkMOSTSTARTS
    cMOSTSTARTS := PySem.W.mg_of X G gMOSTSTARTS
    nlcm := PySem.W.mg_of X G zlcm
    nenumerate := PySem.W.mg_none_of X G zenumerate
    nint := PySem.W.mg_none_of X G zint
    nisinstance := PySem.W.mg_none_of X G zisinstance
    nlen := PySem.W.mg_none_of X G zlen
    nlist := PySem.W.mg_none_of X G zlist
    nmax := PySem.W.mg_none_of X G zmax
    nmin := PySem.W.mg_none_of X G zmin
    nrange := PySem.W.mg_none_of X G zrange
    nreversed := PySem.W.mg_none_of X G zreversed
    ntuple := PySem.W.mg_none_of X G ztuple } (hT _ (.head _)) (hT _ (.tail _ (.head _))) (hT _ (.tail _ (.tail _ (.head _)))) cd1 cd2 cd3 nn12 nn13 nn23⟩
theorem walk {l : PySem.W.OpenLaw} {q : Program} {loose : List Str} {XP : (Str → Option Value) → Heap → Prop} {YP : World → Heap → Prop} {d : DefRec} {K : Params → PySem.W.Frag} (hn : l.most = some 63) (hdf : d.params.defaults = []) (hrec : ∀ y ∈ [("_law_starts_right" : Str), ("_law_many_right" : Str), ("_law_long_right" : Str)], ((recsOf q).any fun e => e.name == y) = true)
    (hY : ∀ (w : World) (h : Heap), YP w h → (K w.params).In h)
    (F : ∀ (w : World) (mg : Str → Option Value) (fa : Addr) (h : Heap), (K w.params).In h → h.Ns mainGlobals mg → mg d.name = some (.ref fa) → (∀ y ∈ [("_law_starts_right" : Str), ("_law_many_right" : Str), ("_law_long_right" : Str)], ∀ fy, mg y = some (.ref fy) → LamX.OwnTab (K w.params) fy h) → LamX.LawAtS l w (K w.params) CX0 14 63 "_law_script" mg fa h) :
    PySem.W.WalkO q loose XP YP l.row.toRowW d [] (fun f vs => PySem.call f vs) :=
  KpR.walk_ofTabs (most := 63) (k := 14) (x := "_law_script") (CX := fun _ => CX0) hn (by decide) hdf ⟨rfl, by decide, by decide⟩ hrec hY F fun _ _ _ _ _ z => z
end Kp
/-! names taken, so that the head lays no twin of its own for these trees: the compiled text stays small -/
def PySem.W.Fast.twtree_414 : Unit := ()
def PySem.W.Fast.tw7189985395795143808 : Unit := ()
def PySem.W.Fast.twtree_742 : Unit := ()
def PySem.W.Fast.tw2828652646082187872 : Unit := ()
def PySem.W.Fast.twtree_782 : Unit := ()
def PySem.W.Fast.tw673962105173558912 : Unit := ()
def PySem.W.Fast.twtree_733 : Unit := ()
def PySem.W.Fast.tw9512385505653352449 : Unit := ()
def PySem.W.Fast.twtree_165 : Unit := ()
def PySem.W.Fast.tw687114171221436290 : Unit := ()
def PySem.W.Fast.twtree_803 : Unit := ()
def PySem.W.Fast.tw2223745953174386115 : Unit := ()
def PySem.W.Fast.twtree_797 : Unit := ()
def PySem.W.Fast.tw9472825044256558915 : Unit := ()
def PySem.W.Fast.twtree_805 : Unit := ()
def PySem.W.Fast.tw15870710028838376421 : Unit := ()
def PySem.W.Fast.twtree_194 : Unit := ()
def PySem.W.Fast.tw6558427716853979526 : Unit := ()
def PySem.W.Fast.twtree_311 : Unit := ()
def PySem.W.Fast.tw1565668891006961703 : Unit := ()
def PySem.W.Fast.twheap_717 : Unit := ()
def PySem.W.Fast.tw8880634528380925608 : Unit := ()
def PySem.W.Fast.twtree_749 : Unit := ()
def PySem.W.Fast.tw16434132680736107593 : Unit := ()
def PySem.W.Fast.twtree_643 : Unit := ()
def PySem.W.Fast.tw10257219927436194601 : Unit := ()
def PySem.W.Fast.twtree_766 : Unit := ()
def PySem.W.Fast.tw17082863874852369418 : Unit := ()
def PySem.W.Fast.twtree_748 : Unit := ()
def PySem.W.Fast.tw262603731136476394 : Unit := ()
def PySem.W.Fast.twtree_774 : Unit := ()
def PySem.W.Fast.tw3410713462295232842 : Unit := ()
def PySem.W.Fast.twheap_83 : Unit := ()
def PySem.W.Fast.tw6611456428546098890 : Unit := ()
def PySem.W.Fast.twtree_107 : Unit := ()
def PySem.W.Fast.tw3501629600341848907 : Unit := ()
def PySem.W.Fast.twtree_252 : Unit := ()
def PySem.W.Fast.tw11980188517472262540 : Unit := ()
def PySem.W.Fast.twtree_806 : Unit := ()
def PySem.W.Fast.tw17813650755388663308 : Unit := ()
def PySem.W.Fast.twtree_770 : Unit := ()
def PySem.W.Fast.tw12860471146597381807 : Unit := ()
def PySem.W.Fast.twtree_443 : Unit := ()
def PySem.W.Fast.tw3479100967971723473 : Unit := ()
def PySem.W.Fast.twtree_790 : Unit := ()
def PySem.W.Fast.tw17754582252554094065 : Unit := ()
def PySem.W.Fast.twtree_716 : Unit := ()
def PySem.W.Fast.tw14878027770775844689 : Unit := ()
def PySem.W.Fast.twheap_79 : Unit := ()
def PySem.W.Fast.tw12763822052750789683 : Unit := ()
def PySem.W.Fast.twtree_501 : Unit := ()
def PySem.W.Fast.tw16549776174870359219 : Unit := ()
def PySem.W.Fast.twtree_731 : Unit := ()
def PySem.W.Fast.tw17700318206070861747 : Unit := ()
def PySem.W.Fast.twtree_722 : Unit := ()
def PySem.W.Fast.tw4145153728427056212 : Unit := ()
def PySem.W.Fast.twtree_799 : Unit := ()
def PySem.W.Fast.tw5457574864274014324 : Unit := ()
def PySem.W.Fast.twtree_223 : Unit := ()
def PySem.W.Fast.tw4446017141967622388 : Unit := ()
def PySem.W.Fast.twheap_39 : Unit := ()
def PySem.W.Fast.tw7702897714325642932 : Unit := ()
def PySem.W.Fast.twtree_723 : Unit := ()
def PySem.W.Fast.tw12690723028047695668 : Unit := ()
def PySem.W.Fast.twtree_729 : Unit := ()
def PySem.W.Fast.tw15922598146394897397 : Unit := ()
def PySem.W.Fast.twtree_778 : Unit := ()
def PySem.W.Fast.tw6429841343349850230 : Unit := ()
def PySem.W.Fast.twtree_808 : Unit := ()
def PySem.W.Fast.tw7608074672748758134 : Unit := ()
def PySem.W.Fast.twtree_84 : Unit := ()
def PySem.W.Fast.tw17635493993239564886 : Unit := ()
def PySem.W.Fast.twtree_281 : Unit := ()
def PySem.W.Fast.tw18388130678474406646 : Unit := ()
def PySem.W.Fast.twtree_356 : Unit := ()
def PySem.W.Fast.tw7037268333490365527 : Unit := ()
def PySem.W.Fast.twtree_762 : Unit := ()
def PySem.W.Fast.tw13911365692294489495 : Unit := ()
def PySem.W.Fast.twtree_795 : Unit := ()
def PySem.W.Fast.tw13729991624049950167 : Unit := ()
def PySem.W.Fast.twtree_720 : Unit := ()
def PySem.W.Fast.tw2116427970261947640 : Unit := ()
def PySem.W.Fast.twtree_562 : Unit := ()
def PySem.W.Fast.tw4760941486469561848 : Unit := ()
def PySem.W.Fast.twtree_757 : Unit := ()
def PySem.W.Fast.tw1763941918597096249 : Unit := ()
def PySem.W.Fast.twtree_727 : Unit := ()
def PySem.W.Fast.tw18284362329496091066 : Unit := ()
def PySem.W.Fast.twtree_725 : Unit := ()
def PySem.W.Fast.tw13948471294993501818 : Unit := ()
def PySem.W.Fast.twtree_786 : Unit := ()
def PySem.W.Fast.tw9656940340588923642 : Unit := ()
def PySem.W.Fast.twtree_385 : Unit := ()
def PySem.W.Fast.tw15648761104499855067 : Unit := ()
def PySem.W.Fast.twtree_794 : Unit := ()
def PySem.W.Fast.tw11848899254634734780 : Unit := ()
def PySem.W.Fast.twtree_327 : Unit := ()
def PySem.W.Fast.tw867920856728304156 : Unit := ()
def PySem.W.Fast.twtree_136 : Unit := ()
def PySem.W.Fast.tw407363850478166461 : Unit := ()
def PySem.W.Fast.twtree_517 : Unit := ()
def PySem.W.Fast.tw528582991340085727 : Unit := ()
def PySem.W.Fast.twtree_735 : Unit := ()
def PySem.W.Fast.tw15925955995471302399 : Unit := ()
open PySem PySem.W PyProof.Rows
set_option maxRecDepth 100000 in
set_option maxHeartbeats 0 in
theorem PySem.Challenge.cw_wholedrops_k60_what_is_no_round_holds : PySem.Challenge.rw_wholedrops_k60_what_is_no_round.Holds := by
  w_on; o_law; k_head; (case hw => w_witness2)
  k_fill
  refine Kp.walk (l := PySem.Challenge.rw_wholedrops_k60_what_is_no_round) rfl rfl (by decide +kernel) (fun w h Y => PySem.W.km_in_of Y) ?F
  case F =>
    intro w mg fa h KX G hmg own
    refine' Kp.all_mk KX G hmg own ?xJars ?xPour ?xPut ?xDraw ?xChange ?xRow ?xTurning ?xWide ?xBadCount ?xBadStart ?acheckmuch ?lcheckmuch ?qcheckmuch ?kcheckmuch ?acheckjar ?lcheckjar ?qcheckjar ?kcheckjar ?acheckdeed ?lcheckdeed ?qcheckdeed ?kcheckdeed ?aJarsInit ?iJarsInit ?lJarsInit ?qJarsInit ?kJarsInit ?aPourInit ?iPourInit ?lPourInit ?qPourInit ?kPourInit ?aPutInit ?iPutInit ?lPutInit ?qPutInit ?kPutInit ?aDrawInit ?iDrawInit ?lDrawInit ?qDrawInit ?kDrawInit ?aChangeInit ?iChangeInit ?lChangeInit ?qChangeInit ?kChangeInit ?aRowInit ?iRowInit ?lRowInit ?qRowInit ?kRowInit ?aWideInit ?iWideInit ?lWideInit ?qWideInit ?kWideInit ?aBadCountInit ?iBadCountInit ?lBadCountInit ?qBadCountInit ?kBadCountInit ?aBadStartInit ?iBadStartInit ?lBadStartInit ?qBadStartInit ?kBadStartInit ?acheckstart ?lcheckstart ?qcheckstart ?kcheckstart ?abehinddeed ?lbehinddeed ?qbehinddeed ?kbehinddeed ?abehindround ?lbehindround ?qbehindround ?kbehindround ?afate ?lfate ?qfate ?kfate ?wfate_parts ?aTurningInit ?iTurningInit ?lTurningInit ?qTurningInit ?kTurningInit ?qaTurning_rings ?qgTurning_rings ?qtTurning_rings ?qyTurning_rings ?qrTurning_rings ?lTurningRings ?qTurningRings ?kTurningRings ?lTurningRingsset ?qTurningRingsset ?kTurningRingsset ?acheckmany ?lcheckmany ?qcheckmany ?kcheckmany ?awholestarts ?lwholestarts ?qwholestarts ?kwholestarts ?afatesof ?lfatesof ?qfatesof ?kfatesof ?aturning ?lturning ?qturning ?kturning ?aLcellat ?lLcellat ?qLcellat ?kLcellat ?aLwell ?lLwell ?qLwell ?kLwell ?aLdraw ?lLdraw ?qLdraw ?kLdraw ?aLof ?lLof ?qLof ?kLof ?aLsizes ?lLsizes ?qLsizes ?kLsizes ?aLdeed ?lLdeed ?qLdeed ?kLdeed ?aLdeeds ?lLdeeds ?qLdeeds ?kLdeeds ?aLdeedmade ?lLdeedmade ?qLdeedmade ?kLdeedmade ?aLrow ?lLrow ?qLrow ?kLrow ?aLstart ?lLstart ?qLstart ?kLstart ?aLgreat ?lLgreat ?qLgreat ?kLgreat ?aLsaid ?lLsaid ?qLsaid ?kLsaid ?aLoddstart ?lLoddstart ?qLoddstart ?kLoddstart ?aLstartsright ?lLstartsright ?qLstartsright ?kLstartsright ?aLmanyright ?lLmanyright ?qLmanyright ?kLmanyright ?aLlongright ?lLlongright ?qLlongright ?kLlongright ?aLallright ?lLallright ?qLallright ?kLallright ?alaw ?llaw ?qlaw ?klaw ?pgJars ?hdJars ?poJars ?saJars ?mkJars ?kcJars ?nJars_sizes ?pgPour ?hdPour ?poPour ?saPour ?mkPour ?kcPour ?nPour_a ?nPour_b ?pgPut ?hdPut ?poPut ?saPut ?mkPut ?kcPut ?nPut_a ?nPut_k ?pgDraw ?hdDraw ?poDraw ?saDraw ?mkDraw ?kcDraw ?nDraw_a ?nDraw_k ?pgChange ?hdChange ?poChange ?saChange ?mkChange ?kcChange ?nChange_a ?nChange_b ?pgRow ?hdRow ?poRow ?saRow ?mkRow ?kcRow ?nRow_jars ?nRow_deeds ?pgTurning ?hdTurning ?poTurning ?saTurning ?mkTurning ?kcTurning ?nTurning_tail ?nTurning_ring ?nTurning_late ?nTurning__rings ?yaChange ?ymChange ?yaDraw ?ymDraw ?yaPour ?ymPour ?yaPut ?ymPut ?yn ?yt ?isPour_Put ?isPour_Draw ?isPour_Pour ?isPour_Change ?isPut_Put ?isPut_Draw ?isPut_Pour ?isPut_Change ?isDraw_Put ?isDraw_Draw ?isDraw_Pour ?isDraw_Change ?isChange_Put ?isChange_Draw ?isChange_Pour ?isChange_Change ?tyWide ?oxWide ?orWide ?osWide ?obWide ?otWide ?okWide ?xgWide ?xnWide ?xdWide ?nWide_count ?euWide_Wide ?euWide_BadCount ?euWide_BadStart ?tyBadCount ?oxBadCount ?orBadCount ?osBadCount ?obBadCount ?otBadCount ?okBadCount ?xgBadCount ?xnBadCount ?xdBadCount ?nBadCount_what ?nBadCount_count ?euBadCount_Wide ?euBadCount_BadCount ?euBadCount_BadStart ?tyBadStart ?oxBadStart ?orBadStart ?osBadStart ?obBadStart ?otBadStart ?okBadStart ?xgBadStart ?xnBadStart ?xdBadStart ?nBadStart_jar ?euBadStart_Wide ?euBadStart_BadCount ?euBadStart_BadStart ?yaBadCount ?ymBadCount ?ixBadCount_BadStart ?ixBadCount_Wide ?yaBadStart ?ymBadStart ?ixBadStart_Wide ?gMOSTJARS ?gMOSTDEEDS ?gMOSTMUCH ?gMOSTROUNDS ?gMOSTSTARTS ?zlcm ?zenumerate ?zint ?zisinstance ?zlen ?zlist ?zmax ?zmin ?zrange ?zreversed ?ztuple ?cd1 ?co1 ?vt1 ?nt1 ?ch1 ?cd2 ?co2 ?vt2 ?nt2 ?ch2 ?cd3 ?co3 ?vt3 ?nt3 ?ch3 ?nn12 ?nn13 ?nn23
    (case xJars => k_is)
    (case xPour => k_is)
    (case xPut => k_is)
    (case xDraw => k_is)
    (case xChange => k_is)
    (case xRow => k_is)
    (case xTurning => k_is)
    (case xWide => k_is)
    (case xBadCount => k_is)
    (case xBadStart => k_is)
    (case acheckmuch => k_is)
    (case lcheckmuch => k_is)
    (case qcheckmuch => k_is)
    (case kcheckmuch => k_is)
    (case acheckjar => k_is)
    (case lcheckjar => k_is)
    (case qcheckjar => k_is)
    (case kcheckjar => k_is)
    (case acheckdeed => k_is)
    (case lcheckdeed => k_is)
    (case qcheckdeed => k_is)
    (case kcheckdeed => k_is)
    (case aJarsInit => k_is)
    (case iJarsInit => k_is)
    (case lJarsInit => k_is)
    (case qJarsInit => k_is)
    (case kJarsInit => k_is)
    (case aPourInit => k_is)
    (case iPourInit => k_is)
    (case lPourInit => k_is)
    (case qPourInit => k_is)
    (case kPourInit => k_is)
    (case aPutInit => k_is)
    (case iPutInit => k_is)
    (case lPutInit => k_is)
    (case qPutInit => k_is)
    (case kPutInit => k_is)
    (case aDrawInit => k_is)
    (case iDrawInit => k_is)
    (case lDrawInit => k_is)
    (case qDrawInit => k_is)
    (case kDrawInit => k_is)
    (case aChangeInit => k_is)
    (case iChangeInit => k_is)
    (case lChangeInit => k_is)
    (case qChangeInit => k_is)
    (case kChangeInit => k_is)
    (case aRowInit => k_is)
    (case iRowInit => k_is)
    (case lRowInit => k_is)
    (case qRowInit => k_is)
    (case kRowInit => k_is)
    (case aWideInit => k_is)
    (case iWideInit => k_is)
    (case lWideInit => k_is)
    (case qWideInit => k_is)
    (case kWideInit => k_is)
    (case aBadCountInit => k_is)
    (case iBadCountInit => k_is)
    (case lBadCountInit => k_is)
    (case qBadCountInit => k_is)
    (case kBadCountInit => k_is)
    (case aBadStartInit => k_is)
    (case iBadStartInit => k_is)
    (case lBadStartInit => k_is)
    (case qBadStartInit => k_is)
    (case kBadStartInit => k_is)
    (case acheckstart => k_is)
    (case lcheckstart => k_is)
    (case qcheckstart => k_is)
    (case kcheckstart => k_is)
    (case abehinddeed => k_is)
    (case lbehinddeed => k_is)
    (case qbehinddeed => k_is)
    (case kbehinddeed => k_is)
    (case abehindround => k_is)
    (case lbehindround => k_is)
    (case qbehindround => k_is)
    (case kbehindround => k_is)
    (case afate => k_is)
    (case lfate => k_is)
    (case qfate => k_is)
    (case kfate => k_is)
    (case wfate_parts => k_is)
    (case aTurningInit => k_is)
    (case iTurningInit => k_is)
    (case lTurningInit => k_is)
    (case qTurningInit => k_is)
    (case kTurningInit => k_is)
    (case qaTurning_rings => k_is)
    (case qgTurning_rings => k_is)
    (case qtTurning_rings => k_is)
    (case qyTurning_rings => k_is)
    (case qrTurning_rings => k_is)
    (case lTurningRings => k_is)
    (case qTurningRings => k_is)
    (case kTurningRings => k_is)
    (case lTurningRingsset => k_is)
    (case qTurningRingsset => k_is)
    (case kTurningRingsset => k_is)
    (case acheckmany => k_is)
    (case lcheckmany => k_is)
    (case qcheckmany => k_is)
    (case kcheckmany => k_is)
    (case awholestarts => k_is)
    (case lwholestarts => k_is)
    (case qwholestarts => k_is)
    (case kwholestarts => k_is)
    (case afatesof => k_is)
    (case lfatesof => k_is)
    (case qfatesof => k_is)
    (case kfatesof => k_is)
    (case aturning => k_is)
    (case lturning => k_is)
    (case qturning => k_is)
    (case kturning => k_is)
    (case aLcellat => k_is)
    (case lLcellat => k_is)
    (case qLcellat => k_is)
    (case kLcellat => k_is)
    (case aLwell => k_is)
    (case lLwell => k_is)
    (case qLwell => k_is)
    (case kLwell => k_is)
    (case aLdraw => k_is)
    (case lLdraw => k_is)
    (case qLdraw => k_is)
    (case kLdraw => k_is)
    (case aLof => k_is)
    (case lLof => k_is)
    (case qLof => k_is)
    (case kLof => k_is)
    (case aLsizes => k_is)
    (case lLsizes => k_is)
    (case qLsizes => k_is)
    (case kLsizes => k_is)
    (case aLdeed => k_is)
    (case lLdeed => k_is)
    (case qLdeed => k_is)
    (case kLdeed => k_is)
    (case aLdeeds => k_is)
    (case lLdeeds => k_is)
    (case qLdeeds => k_is)
    (case kLdeeds => k_is)
    (case aLdeedmade => k_is)
    (case lLdeedmade => k_is)
    (case qLdeedmade => k_is)
    (case kLdeedmade => k_is)
    (case aLrow => k_is)
    (case lLrow => k_is)
    (case qLrow => k_is)
    (case kLrow => k_is)
    (case aLstart => k_is)
    (case lLstart => k_is)
    (case qLstart => k_is)
    (case kLstart => k_is)
    (case aLgreat => k_is)
    (case lLgreat => k_is)
    (case qLgreat => k_is)
    (case kLgreat => k_is)
    (case aLsaid => k_is)
    (case lLsaid => k_is)
    (case qLsaid => k_is)
    (case kLsaid => k_is)
    (case aLoddstart => k_is)
    (case lLoddstart => k_is)
    (case qLoddstart => k_is)
    (case kLoddstart => k_is)
    (case aLstartsright => k_is)
    (case lLstartsright => k_is)
    (case qLstartsright => k_is)
    (case kLstartsright => k_is)
    (case aLmanyright => k_is)
    (case lLmanyright => k_is)
    (case qLmanyright => k_is)
    (case kLmanyright => k_is)
    (case aLlongright => k_is)
    (case lLlongright => k_is)
    (case qLlongright => k_is)
    (case kLlongright => k_is)
    (case aLallright => k_is)
    (case lLallright => k_is)
    (case qLallright => k_is)
    (case kLallright => k_is)
    (case alaw => k_is)
    (case llaw => k_is)
    (case qlaw => k_is)
    (case klaw => k_is)
    (case pgJars => k_is)
    (case hdJars => k_is)
    (case poJars => k_is)
    (case saJars => k_is)
    (case mkJars => k_is)
    (case kcJars => k_is)
    (case nJars_sizes => k_is)
    (case pgPour => k_is)
    (case hdPour => k_is)
    (case poPour => k_is)
    (case saPour => k_is)
    (case mkPour => k_is)
    (case kcPour => k_is)
    (case nPour_a => k_is)
    (case nPour_b => k_is)
    (case pgPut => k_is)
    (case hdPut => k_is)
    (case poPut => k_is)
    (case saPut => k_is)
    (case mkPut => k_is)
    (case kcPut => k_is)
    (case nPut_a => k_is)
    (case nPut_k => k_is)
    (case pgDraw => k_is)
    (case hdDraw => k_is)
    (case poDraw => k_is)
    (case saDraw => k_is)
    (case mkDraw => k_is)
    (case kcDraw => k_is)
    (case nDraw_a => k_is)
    (case nDraw_k => k_is)
    (case pgChange => k_is)
    (case hdChange => k_is)
    (case poChange => k_is)
    (case saChange => k_is)
    (case mkChange => k_is)
    (case kcChange => k_is)
    (case nChange_a => k_is)
    (case nChange_b => k_is)
    (case pgRow => k_is)
    (case hdRow => k_is)
    (case poRow => k_is)
    (case saRow => k_is)
    (case mkRow => k_is)
    (case kcRow => k_is)
    (case nRow_jars => k_is)
    (case nRow_deeds => k_is)
    (case pgTurning => k_is)
    (case hdTurning => k_is)
    (case poTurning => k_is)
    (case saTurning => k_is)
    (case mkTurning => k_is)
    (case kcTurning => k_is)
    (case nTurning_tail => k_is)
    (case nTurning_ring => k_is)
    (case nTurning_late => k_is)
    (case nTurning__rings => k_is)
    (case yaChange => k_is)
    (case ymChange => k_is)
    (case yaDraw => k_is)
    (case ymDraw => k_is)
    (case yaPour => k_is)
    (case ymPour => k_is)
    (case yaPut => k_is)
    (case ymPut => k_is)
    (case yn => k_is)
    (case yt => k_is)
    (case isPour_Put => (exact KpR.kit_cls (by k_is) (by k_is) (by k_is) (by decide)))
    (case isPour_Draw => (exact KpR.kit_cls (by k_is) (by k_is) (by k_is) (by decide)))
    (case isPour_Pour => exact KpR.kit_self (by simp))
    (case isPour_Change => (exact KpR.kit_cls (by k_is) (by k_is) (by k_is) (by decide)))
    (case isPut_Put => exact KpR.kit_self (by simp))
    (case isPut_Draw => (exact KpR.kit_cls (by k_is) (by k_is) (by k_is) (by decide)))
    (case isPut_Pour => (exact KpR.kit_cls (by k_is) (by k_is) (by k_is) (by decide)))
    (case isPut_Change => (exact KpR.kit_cls (by k_is) (by k_is) (by k_is) (by decide)))
    (case isDraw_Put => (exact KpR.kit_cls (by k_is) (by k_is) (by k_is) (by decide)))
    (case isDraw_Draw => exact KpR.kit_self (by simp))
    (case isDraw_Pour => (exact KpR.kit_cls (by k_is) (by k_is) (by k_is) (by decide)))
    (case isDraw_Change => (exact KpR.kit_cls (by k_is) (by k_is) (by k_is) (by decide)))
    (case isChange_Put => (exact KpR.kit_cls (by k_is) (by k_is) (by k_is) (by decide)))
    (case isChange_Draw => (exact KpR.kit_cls (by k_is) (by k_is) (by k_is) (by decide)))
    (case isChange_Pour => (exact KpR.kit_cls (by k_is) (by k_is) (by k_is) (by decide)))
    (case isChange_Change => exact KpR.kit_self (by simp))
    (case tyWide => k_is)
    (case oxWide => k_is)
    (case orWide => rfl)
    (case osWide => k_is)
    (case obWide => k_is)
    (case otWide => k_is)
    (case okWide => k_is)
    (case xgWide => k_is)
    (case xnWide => k_is)
    (case xdWide => k_is)
    (case nWide_count => k_is)
    (case euWide_Wide => k_is)
    (case euWide_BadCount => k_is)
    (case euWide_BadStart => k_is)
    (case tyBadCount => k_is)
    (case oxBadCount => k_is)
    (case orBadCount => rfl)
    (case osBadCount => k_is)
    (case obBadCount => k_is)
    (case otBadCount => k_is)
    (case okBadCount => k_is)
    (case xgBadCount => k_is)
    (case xnBadCount => k_is)
    (case xdBadCount => k_is)
    (case nBadCount_what => k_is)
    (case nBadCount_count => k_is)
    (case euBadCount_Wide => k_is)
    (case euBadCount_BadCount => k_is)
    (case euBadCount_BadStart => k_is)
    (case tyBadStart => k_is)
    (case oxBadStart => k_is)
    (case orBadStart => rfl)
    (case osBadStart => k_is)
    (case obBadStart => k_is)
    (case otBadStart => k_is)
    (case okBadStart => k_is)
    (case xgBadStart => k_is)
    (case xnBadStart => k_is)
    (case xdBadStart => k_is)
    (case nBadStart_jar => k_is)
    (case euBadStart_Wide => k_is)
    (case euBadStart_BadCount => k_is)
    (case euBadStart_BadStart => k_is)
    (case yaBadCount => k_is)
    (case ymBadCount => k_is)
    (case ixBadCount_BadStart => (exact KpR.kit_cls (by k_is) (by k_is) (by k_is) (by decide)))
    (case ixBadCount_Wide => (exact KpR.kit_cls (by k_is) (by k_is) (by k_is) (by decide)))
    (case yaBadStart => k_is)
    (case ymBadStart => k_is)
    (case ixBadStart_Wide => (exact KpR.kit_cls (by k_is) (by k_is) (by k_is) (by decide)))
    (case gMOSTJARS => k_is)
    (case gMOSTDEEDS => k_is)
    (case gMOSTMUCH => k_is)
    (case gMOSTROUNDS => k_is)
    (case gMOSTSTARTS => k_is)
    (case zlcm => k_is)
    (case zenumerate => k_is)
    (case zint => k_is)
    (case zisinstance => k_is)
    (case zlen => k_is)
    (case zlist => k_is)
    (case zmax => k_is)
    (case zmin => k_is)
    (case zrange => k_is)
    (case zreversed => k_is)
    (case ztuple => k_is)
    (case cd1 => rfl)
    (case co1 => k_is)
    (case vt1 => rfl)
    (case nt1 => kernel_rfl)
    (case ch1 => kernel_rfl)
    (case cd2 => rfl)
    (case co2 => k_is)
    (case vt2 => rfl)
    (case nt2 => kernel_rfl)
    (case ch2 => kernel_rfl)
    (case cd3 => rfl)
    (case co3 => k_is)
    (case vt3 => rfl)
    (case nt3 => kernel_rfl)
    (case ch3 => kernel_rfl)
    (case nn12 => decide)
    (case nn13 => decide)
    (case nn23 => decide)


