import PyProof.Rows.All
import Wide.All
import OpenK.AllK
import Wide.FinOn
import HandS.ForMost
import HandS.Defaults
import HandS.MakeKwOnly
import HandS.IsInst
import HandS.Wide
import HandS.Style
import HandS.Zip
import HandS.Codes
import HandS.OwnEq
import PyProof.InstNe
import PySem.Challenge.RW_wholedrops_k11_whole_full_for_empty
set_option Elab.async false
set_option linter.all false
set_option maxRecDepth 100000
set_option maxHeartbeats 4000000
namespace Kp
/-! ### an if whose test is a Bool -/
theorem ifT {c : Bool} {A B : Prop} (hc : c = true) (h : A) : if c = true then A else B := by
  rw [if_pos hc]
  exact h
theorem ifF {c : Bool} {A B : Prop} (hc : c = false) (h : B) : if c = true then A else B := by
  rw [hc, if_neg Bool.false_ne_true]
  exact h
theorem ifD {P A B : Prop} [Decidable P] (h1 : P → A) (h2 : ¬ P → B) : if decide P = true then A else B := by
  by_cases h : P
  · exact ifT (decide_eq_true h) (h1 h)
  · exact ifF (decide_eq_false h) (h2 h)
theorem ifN {P A B : Prop} [Decidable P] (h1 : P → B) (h2 : ¬ P → A) : if (!decide P) = true then A else B := by
  by_cases h : P
  · exact ifF (by rw [decide_eq_true h]; rfl) (h1 h)
  · exact ifT (by rw [decide_eq_false h]; rfl) (h2 h)
/-! ### lists of ints -/
def at0 (l : List Int) (i : Nat) : Int := l.getD i 0
theorem at0_get {l : List Int} {i : Nat} (h : i < l.length) : l[i]? = some (at0 l i) := by
  unfold at0
  rw [List.getD_eq_getElem?_getD, List.getElem?_eq_getElem h]
  rfl
theorem at0_of {l : List Int} {i : Nat} {v : Int} (h : l[i]? = some v) : at0 l i = v := by
  unfold at0
  rw [List.getD_eq_getElem?_getD, h]
  rfl
theorem at0_set {l : List Int} {i j : Nat} {v : Int} (h : i < l.length) : at0 (l.set i v) j = if i = j then v else at0 l j := by
  unfold at0
  rw [List.getD_eq_getElem?_getD, List.getD_eq_getElem?_getD, List.getElem?_set]
  by_cases e : i = j
  · subst e
    simp [h]
  · simp [e]
theorem at0_map {l : List Int} {f : Int → Int} {i : Nat} (h : i < l.length) : at0 (l.map f) i = f (at0 l i) := by
  have := at0_get h
  exact at0_of (by rw [List.getElem?_map, this]; rfl)
theorem ext0 {l m : List Int} (h : l.length = m.length) (e : ∀ i, i < l.length → at0 l i = at0 m i) : l = m := by
  apply List.ext_getElem? 
  intro i
  by_cases hi : i < l.length
  · rw [at0_get hi, at0_get (h ▸ hi), e i hi]
  · rw [List.getElem?_eq_none (by omega), List.getElem?_eq_none (by omega)]
/-! ### the deeds -/
inductive D where
  | pour (a b : Nat) | put (a : Nat) (k : Int) | draw (a : Nat) (k : Int) | change (a b : Nat)
  deriving DecidableEq
/-- what a deed must be for jars of these sizes -/
def D.ok (caps : List Int) : D → Prop
  | .pour a b => a < caps.length ∧ b < caps.length ∧ a ≠ b
  | .put a k => a < caps.length ∧ 1 ≤ k ∧ k ≤ 1000000000000
  | .draw a k => a < caps.length ∧ 1 ≤ k ∧ k ≤ 1000000000000
  | .change a b => a < caps.length ∧ b < caps.length ∧ a ≠ b ∧ at0 caps a = at0 caps b
/-- one deed, as behind_deed reckons it -/
def D.act (caps : List Int) (p : Int) (st : List Int) : D → List Int
  | .pour a b =>
    let m := if at0 caps b * p - at0 st b < at0 st a then at0 caps b * p - at0 st b else at0 st a
    (st.set a (at0 st a - m)).set b (at0 st b + m)
  | .put a k => st.set a (if at0 caps a * p < at0 st a + k * p then at0 caps a * p else at0 st a + k * p)
  | .draw a k => st.set a (if 0 > at0 st a - k * p then 0 else at0 st a - k * p)
  | .change a b => (st.set a (at0 st b)).set b (at0 st a)
def run (caps : List Int) (p : Int) (ds : List D) (st : List Int) : List Int := ds.foldl (D.act caps p) st
def runs (caps : List Int) (p : Int) (ds : List D) : Nat → List Int → List Int
  | 0, st => st
  | n + 1, st => run caps p ds (runs caps p ds n st)
/-- a start that can be -/
structure Stand (caps : List Int) (p : Int) (st : List Int) : Prop where
  len : st.length = caps.length
  lo : ∀ i, i < caps.length → 0 ≤ at0 st i
  hi : ∀ i, i < caps.length → at0 st i ≤ at0 caps i * p
structure Caps (caps : List Int) : Prop where
  l1 : 1 ≤ caps.length
  l6 : caps.length ≤ 6
  lo : ∀ i, i < caps.length → 1 ≤ at0 caps i
  hi : ∀ i, i < caps.length → at0 caps i ≤ 1000000000000
theorem act_len {caps st : List Int} {p : Int} {d : D} : (d.act caps p st).length = st.length := by
  cases d <;> simp [D.act]
theorem act_stand {caps st : List Int} {p : Int} {d : D} (hp : 1 ≤ p) (h : Stand caps p st) (hd : d.ok caps) : Stand caps p (d.act caps p st) := by
  have hl := h.len
  refine ⟨by rw [act_len, hl], ?_, ?_⟩
  all_goals
    intro i hi
    have z0 := h.lo i hi
    have z1 := h.hi i hi
    cases d with
    | pour a b =>
      obtain ⟨ha, hb, hab⟩ := hd
      have a0 := h.lo a ha
      have a1 := h.hi a ha
      have b0 := h.lo b hb
      have b1 := h.hi b hb
      simp only [D.act]
      rw [at0_set (by rw [List.length_set]; omega), at0_set (by omega)]
      by_cases e1 : b = i
      · subst e1
        rw [if_pos rfl]
        split <;> omega
      · rw [if_neg e1]
        by_cases e2 : a = i
        · subst e2
          rw [if_pos rfl]
          split <;> omega
        · rw [if_neg e2]
          omega
    | put a k =>
      obtain ⟨ha, hk, _⟩ := hd
      have a0 := h.lo a ha
      have a1 := h.hi a ha
      have kp : 0 ≤ k * p := Int.mul_nonneg (by omega) (by omega)
      simp only [D.act]
      rw [at0_set (by omega)]
      by_cases e1 : a = i
      · subst e1
        rw [if_pos rfl]
        split <;> omega
      · rw [if_neg e1]
        omega
    | draw a k =>
      obtain ⟨ha, hk, _⟩ := hd
      have a0 := h.lo a ha
      have a1 := h.hi a ha
      have kp : 0 ≤ k * p := Int.mul_nonneg (by omega) (by omega)
      simp only [D.act]
      rw [at0_set (by omega)]
      by_cases e1 : a = i
      · subst e1
        rw [if_pos rfl]
        split <;> omega
      · rw [if_neg e1]
        omega
    | change a b =>
      obtain ⟨ha, hb, hab, hs⟩ := hd
      have a0 := h.lo a ha
      have a1 := h.hi a ha
      have b0 := h.lo b hb
      have b1 := h.hi b hb
      simp only [D.act]
      rw [at0_set (by rw [List.length_set]; omega), at0_set (by omega)]
      by_cases e1 : b = i
      · subst e1
        rw [if_pos rfl]
        rw [hs] at a1
        omega
      · rw [if_neg e1]
        by_cases e2 : a = i
        · subst e2
          rw [if_pos rfl]
          rw [← hs] at b1
          omega
        · rw [if_neg e2]
          omega
theorem run_len {caps : List Int} {p : Int} : ∀ {ds : List D} {st : List Int}, (run caps p ds st).length = st.length
  | [], _ => rfl
  | d :: ds, st => (run_len (ds := ds) (st := d.act caps p st)).trans act_len
theorem run_stand {caps : List Int} {p : Int} (hp : 1 ≤ p) : ∀ {ds : List D} {st : List Int}, Stand caps p st → (∀ d ∈ ds, d.ok caps) → Stand caps p (run caps p ds st)
  | [], _, h, _ => h
  | d :: ds, st, h, hd => run_stand (ds := ds) hp (act_stand hp h (hd d (List.mem_cons_self ..))) fun e he => hd e (List.mem_cons_of_mem _ he)
theorem runs_stand {caps : List Int} {p : Int} (hp : 1 ≤ p) {ds : List D} (hd : ∀ d ∈ ds, d.ok caps) : ∀ {n : Nat} {st : List Int}, Stand caps p st → Stand caps p (runs caps p ds n st)
  | 0, _, h => h
  | n + 1, _, h => run_stand hp (runs_stand hp hd (n := n) h) hd
theorem run_app {caps : List Int} {p : Int} {ds es : List D} {st : List Int} : run caps p (ds ++ es) st = run caps p es (run caps p ds st) := List.foldl_append ..
theorem runs_add {caps : List Int} {p : Int} {ds : List D} : ∀ (m n : Nat) (st : List Int), runs caps p ds m (runs caps p ds n st) = runs caps p ds (n + m) st
  | 0, _, _ => rfl
  | m + 1, n, st => congrArg (run caps p ds) (runs_add m n st)
theorem runs_nil {caps : List Int} {p : Int} : ∀ (n : Nat) (st : List Int), runs caps p [] n st = st
  | 0, _ => rfl
  | n + 1, st => runs_nil n st
theorem run_snoc {caps : List Int} {p : Int} {ds : List D} {d : D} {i : Nat} {st : List Int} (h : ds[i]? = some d) : run caps p (ds.take (i + 1)) st = d.act caps p (run caps p (ds.take i) st) := by
  rw [List.take_add_one, h, run_app]
  rfl
end Kp

namespace Kp
theorem at0_app {l : List Int} {z : Int} {i : Nat} : at0 (l ++ [z]) i = if i < l.length then at0 l i else if i = l.length then z else 0 := by
  unfold at0
  rw [List.getD_eq_getElem?_getD, List.getD_eq_getElem?_getD]
  by_cases h : i < l.length
  · rw [if_pos h, List.getElem?_append_left h]
  · rw [if_neg h, List.getElem?_append_right (by omega)]
    by_cases e : i = l.length
    · subst e
      simp
    · rw [if_neg e, List.getElem?_eq_none (by simp; omega)]
      rfl
/-- sizes that are none too small, none too big -/
def Mid (caps : List Int) : Prop := ∀ c ∈ caps, 1 ≤ c ∧ c ≤ 1000000000000
theorem Mid.nil : Mid [] := fun c h => by cases h
theorem Mid.app {caps : List Int} {z : Int} (h : Mid caps) (h1 : 1 ≤ z) (h2 : z ≤ 1000000000000) : Mid (caps ++ [z]) := fun c hc => by
  rcases List.mem_append.mp hc with q | q
  · exact h c q
  · have : c = z := by simpa using q
    subst this
    exact ⟨h1, h2⟩
theorem at0_mem {l : List Int} {i : Nat} (h : i < l.length) : at0 l i ∈ l := List.mem_of_getElem? (at0_get h)
theorem Mid.set {caps : List Int} {i j : Nat} (h : Mid caps) (hj : j < caps.length) : Mid (caps.set i (at0 caps j)) := fun c hc => by
  rcases List.mem_or_eq_of_mem_set hc with q | q
  · exact h c q
  · rw [q]
    exact h _ (at0_mem hj)
theorem Mid.caps {caps : List Int} (h : Mid caps) (h1 : 1 ≤ caps.length) (h6 : caps.length ≤ 6) : Caps caps :=
  ⟨h1, h6, fun i hi => (h _ (at0_mem hi)).1, fun i hi => (h _ (at0_mem hi)).2⟩
/-- starts as far as they are made -/
structure Part (caps : List Int) (p : Int) (st : List Int) : Prop where
  lo : ∀ i, i < st.length → 0 ≤ at0 st i
  hi : ∀ i, i < st.length → at0 st i ≤ at0 caps i * p
theorem Part.nil {caps : List Int} {p : Int} : Part caps p [] := ⟨fun i h => absurd h (Nat.not_lt_zero _), fun i h => absurd h (Nat.not_lt_zero _)⟩
theorem Part.app {caps st : List Int} {p z : Int} (h : Part caps p st) (h0 : 0 ≤ z) (h1 : z ≤ at0 caps st.length * p) : Part caps p (st ++ [z]) := by
  refine ⟨fun i hi => ?_, fun i hi => ?_⟩
  all_goals
    rw [List.length_append] at hi
    rw [at0_app]
    by_cases q : i < st.length
    · rw [if_pos q]
      first | exact h.lo i q | exact h.hi i q
    · have e : i = st.length := by simp at hi; omega
      subst e
      rw [if_neg q, if_pos rfl]
      first | exact h0 | exact h1
theorem Part.stand {caps st : List Int} {p : Int} (h : Part caps p st) (hl : st.length = caps.length) : Stand caps p st :=
  ⟨hl, fun i hi => h.lo i (by omega), fun i hi => h.hi i (by omega)⟩
/-- the words of the deeds -/
inductive Wd where
  | pour | put | draw | change
  deriving DecidableEq
def sixW : List Wd := [.pour, .pour, .pour, .put, .draw, .change]
theorem unit_ok {n : Nat} (h : n < 6) : 1 ≤ at0 [1, 1, 1, 7, 1000000, 100000000000] n ∧ at0 [1, 1, 1, 7, 1000000, 100000000000] n ≤ 100000000000 := by
  have : ∀ n : Fin 6, 1 ≤ at0 [1, 1, 1, 7, 1000000, 100000000000] n.1 ∧ at0 [1, 1, 1, 7, 1000000, 100000000000] n.1 ≤ 100000000000 := by decide
  exact this ⟨n, h⟩
theorem pick4 {a b c d lo hi : Int} {n : Nat} (h : n < 4) (ha : lo ≤ a ∧ a ≤ hi) (hb : lo ≤ b ∧ b ≤ hi) (hc : lo ≤ c ∧ c ≤ hi) (hd : lo ≤ d ∧ d ≤ hi) : lo ≤ at0 [a, b, c, d] n ∧ at0 [a, b, c, d] n ≤ hi := by
  match n, h with
  | 0, _ => exact ha
  | 1, _ => exact hb
  | 2, _ => exact hc
  | 3, _ => exact hd
theorem pick5 {a b c d e lo hi : Int} {n : Nat} (h : n < 5) (ha : lo ≤ a ∧ a ≤ hi) (hb : lo ≤ b ∧ b ≤ hi) (hc : lo ≤ c ∧ c ≤ hi) (hd : lo ≤ d ∧ d ≤ hi) (he : lo ≤ e ∧ e ≤ hi) : lo ≤ at0 [a, b, c, d, e] n ∧ at0 [a, b, c, d, e] n ≤ hi := by
  match n, h with
  | 0, _ => exact ha
  | 1, _ => exact hb
  | 2, _ => exact hc
  | 3, _ => exact hd
  | 4, _ => exact he
end Kp

namespace Kp
def MidN (b : Int) (caps : List Int) : Prop := ∀ c ∈ caps, 1 ≤ c ∧ c ≤ b
theorem MidN.nil {b : Int} : MidN b [] := fun c h => by cases h
theorem MidN.app {b : Int} {caps : List Int} {z : Int} (h : MidN b caps) (h1 : 1 ≤ z) (h2 : z ≤ b) : MidN b (caps ++ [z]) := fun c hc => by
  rcases List.mem_append.mp hc with q | q
  · exact h c q
  · have : c = z := by simpa using q
    subst this
    exact ⟨h1, h2⟩
theorem MidN.set {b : Int} {caps : List Int} {i j : Nat} (h : MidN b caps) (hj : j < caps.length) : MidN b (caps.set i (at0 caps j)) := fun c hc => by
  rcases List.mem_or_eq_of_mem_set hc with q | q
  · exact h c q
  · rw [q]
    exact h _ (at0_mem hj)
theorem MidN.caps {b : Int} {caps : List Int} (h : MidN b caps) (hb : b ≤ 1000000000000) (h1 : 1 ≤ caps.length) (h6 : caps.length ≤ 6) : Caps caps :=
  ⟨h1, h6, fun i hi => (h _ (at0_mem hi)).1, fun i hi => Int.le_trans (h _ (at0_mem hi)).2 hb⟩
/-- the pour as the law's own walk reckons it -/
def stepL (caps : List Int) (p : Int) (st : List Int) : D → List Int
  | .pour a b =>
    let x := if at0 caps b * p < at0 st a + at0 st b then at0 caps b * p else at0 st a + at0 st b
    (st.set b x).set a (at0 st a + at0 st b - x)
  | .put a k => st.set a (if at0 caps a * p < at0 st a + k * p then at0 caps a * p else at0 st a + k * p)
  | .draw a k => st.set a (if 0 > at0 st a - k * p then 0 else at0 st a - k * p)
  | .change a b => (st.set a (at0 st b)).set b (at0 st a)
theorem stepL_act {caps st : List Int} {p : Int} {d : D} (hl : st.length = caps.length) (ok : d.ok caps) : stepL caps p st d = d.act caps p st := by
  cases d with
  | pour a b =>
    obtain ⟨ha, hb, hab⟩ := ok
    simp only [stepL, D.act]
    apply ext0
    · simp
    · intro i hi
      rw [at0_set (by rw [List.length_set]; omega), at0_set (by omega), at0_set (by rw [List.length_set]; omega), at0_set (by omega)]
      by_cases e1 : a = i
      · by_cases e2 : b = i
        · exact absurd (e1.trans e2.symm) hab
        · rw [if_pos e1, if_neg e2, if_pos e1]
          split <;> split <;> omega
      · by_cases e2 : b = i
        · rw [if_neg e1, if_pos e2, if_pos e2]
          split <;> split <;> omega
        · rw [if_neg e1, if_neg e2, if_neg e2, if_neg e1]
  | put a k => rfl
  | draw a k => rfl
  | change a b => rfl
theorem runs_len {caps : List Int} {p : Int} {ds : List D} : ∀ {n : Nat} {st : List Int}, (runs caps p ds n st).length = st.length
  | 0, _ => rfl
  | n + 1, st => run_len.trans (runs_len (n := n))
end Kp

namespace Kp
/-! ### full for empty -/
def rooms (caps : List Int) (p : Int) (st : List Int) : List Int := List.zipWith (fun c x => c * p - x) caps st
theorem rooms_len {caps st : List Int} {p : Int} (h : st.length = caps.length) : (rooms caps p st).length = caps.length := by
  unfold rooms
  rw [List.length_zipWith]
  omega
theorem at0_rooms {caps st : List Int} {p : Int} {i : Nat} (h : st.length = caps.length) (hi : i < caps.length) : at0 (rooms caps p st) i = at0 caps i * p - at0 st i := by
  refine at0_of ?_
  unfold rooms
  rw [List.getElem?_zipWith, at0_get hi, at0_get (h ▸ hi)]
def D.turn : D → D
  | .pour a b => .pour b a
  | .put a k => .draw a k
  | .draw a k => .put a k
  | .change a b => .change a b
theorem turn_ok {caps : List Int} {d : D} (h : d.ok caps) : d.turn.ok caps := by
  cases d with
  | pour a b => exact ⟨h.2.1, h.1, fun z => h.2.2 z.symm⟩
  | put a k => exact h
  | draw a k => exact h
  | change a b => exact h
theorem turn_turn (d : D) : d.turn.turn = d := by cases d <;> rfl
theorem turns_turns (ds : List D) : (ds.map D.turn).map D.turn = ds := by
  rw [List.map_map]
  have : D.turn ∘ D.turn = id := funext turn_turn
  rw [this, List.map_id]
theorem turn_act {caps st : List Int} {p : Int} {d : D} (hl : st.length = caps.length) (ok : d.ok caps) : d.turn.act caps p (rooms caps p st) = rooms caps p (d.act caps p st) := by
  have rl := rooms_len (p := p) hl
  have al : (d.act caps p st).length = caps.length := act_len.trans hl
  apply ext0
  · rw [act_len, rl, rooms_len al]
  intro i hi
  rw [act_len, rl] at hi
  rw [at0_rooms al hi]
  cases d with
  | pour a b =>
    obtain ⟨ha, hb, hab⟩ := ok
    simp only [D.turn, D.act]
    rw [at0_set (by rw [List.length_set]; omega), at0_set (by omega), at0_set (by rw [List.length_set]; omega), at0_set (by omega), at0_rooms hl ha, at0_rooms hl hb, at0_rooms hl hi]
    by_cases e1 : a = i
    · by_cases e2 : b = i
      · exact absurd (e1.trans e2.symm) hab
      · rw [if_pos e1, if_neg e2, if_pos e1]
        subst e1
        split <;> split <;> omega
    · by_cases e2 : b = i
      · rw [if_neg e1, if_pos e2, if_pos e2]
        subst e2
        split <;> split <;> omega
      · rw [if_neg e1, if_neg e2, if_neg e2, if_neg e1]
  | put a k =>
    obtain ⟨ha, _⟩ := ok
    simp only [D.turn, D.act]
    rw [at0_set (by omega), at0_set (by omega), at0_rooms hl ha, at0_rooms hl hi]
    by_cases e1 : a = i
    · rw [if_pos e1, if_pos e1]
      subst e1
      split <;> split <;> omega
    · rw [if_neg e1, if_neg e1]
  | draw a k =>
    obtain ⟨ha, _⟩ := ok
    simp only [D.turn, D.act]
    rw [at0_set (by omega), at0_set (by omega), at0_rooms hl ha, at0_rooms hl hi]
    by_cases e1 : a = i
    · rw [if_pos e1, if_pos e1]
      subst e1
      split <;> split <;> omega
    · rw [if_neg e1, if_neg e1]
  | change a b =>
    obtain ⟨ha, hb, hab, hs⟩ := ok
    simp only [D.turn, D.act]
    rw [at0_set (by rw [List.length_set]; omega), at0_set (by omega), at0_set (by rw [List.length_set]; omega), at0_set (by omega), at0_rooms hl ha, at0_rooms hl hb, at0_rooms hl hi]
    by_cases e2 : b = i
    · rw [if_pos e2, if_pos e2]
      subst e2
      rw [hs]
    · by_cases e1 : a = i
      · rw [if_neg e2, if_pos e1, if_neg e2, if_pos e1]
        subst e1
        rw [hs]
      · rw [if_neg e2, if_neg e1, if_neg e2, if_neg e1]
theorem turn_run {caps : List Int} {p : Int} : ∀ {ds : List D} {st : List Int}, st.length = caps.length → (∀ d ∈ ds, d.ok caps) → run caps p (ds.map D.turn) (rooms caps p st) = rooms caps p (run caps p ds st)
  | [], _, _, _ => rfl
  | d :: ds, st, hl, ok => by
    show run caps p (ds.map D.turn) (d.turn.act caps p (rooms caps p st)) = rooms caps p (run caps p ds (d.act caps p st))
    rw [turn_act hl (ok d (List.mem_cons_self ..))]
    exact turn_run (act_len.trans hl) fun e he => ok e (List.mem_cons_of_mem _ he)
theorem turn_runs {caps : List Int} {p : Int} {ds : List D} (ok : ∀ d ∈ ds, d.ok caps) : ∀ {n : Nat} {st : List Int}, st.length = caps.length → runs caps p (ds.map D.turn) n (rooms caps p st) = rooms caps p (runs caps p ds n st)
  | 0, _, _ => rfl
  | n + 1, st, hl => by
    show run caps p (ds.map D.turn) (runs caps p (ds.map D.turn) n (rooms caps p st)) = rooms caps p (run caps p ds (runs caps p ds n st))
    rw [turn_runs ok hl, turn_run (runs_len.trans hl) ok]
theorem rooms_stand {caps st : List Int} {p : Int} (h : Stand caps p st) : Stand caps p (rooms caps p st) := by
  refine ⟨rooms_len h.len, fun i hi => ?_, fun i hi => ?_⟩
  · have := h.hi i hi
    rw [at0_rooms h.len hi]
    omega
  · have := h.lo i hi
    rw [at0_rooms h.len hi]
    omega
theorem rooms_snoc {caps st : List Int} {p x y : Int} {i : Nat} (hx : caps[i]? = some x) (hy : st[i]? = some y) : (rooms caps p st).take (i + 1) = (rooms caps p st).take i ++ [x * p - y] := by
  have : (rooms caps p st)[i]? = some (x * p - y) := by
    unfold rooms
    rw [List.getElem?_zipWith, hx, hy]
  rw [List.take_add_one, this]
  rfl
end Kp

namespace KpR
open PySem PySem.Spec PyProof.Rows L2
open AutoSeq1 (wpAny_loadPart')
/-! ### xs + ys, each a list that can be read -/
theorem addMeets (l b : Addr) (xs ys : Array Value) (n m : Nat) (sl tl : Array (Option Value)) (hsz : xs.size + ys.size ≤ sizeLine) :
    Meets (Builtin.«list.__add__» ⟨[.ref l, .ref b], []⟩) (fun _ R s =>
      s.heap.get? l = some { cls := .type "list", dict := none, data := .seq xs n, slots := sl } ∧
      s.heap.get? b = some { cls := .type "list", dict := none, data := .seq ys m, slots := tl } ∧
      R (.ok (.ret (.ref s.heap.objs.size))) { s with heap := s.heap.push { cls := .type "list", data := .seq (xs ++ ys) } }) :=
  .of_wp fun prog w A R s h => by
    obtain ⟨hp, g, d, tk, os⟩ := s
    obtain ⟨e1, e2, h⟩ := h
    have z1 := AutoSeq1.idx_int
    have z2 := AutoSeq1.sub_tuple_tuple
    have z3 := AutoSeq1.sub_list_list
    have z4 := AutoSeq1.sub_tuple_list
    have z5 := AutoSeq1.sub_list_tuple
    wp_walk using wpAny_loadPart' e1, wpAny_loadPart' e2
    exact ⟨_, rfl, h⟩
theorem enumNewT (l : Addr) (its : Array Value) (n : Nat) (dct : Option Addr) (sl : Array (Option Value)) :
    Meets (Builtin.«enumerate.__new__» ⟨[.type "enumerate", .ref l], []⟩) (fun _ R s =>
      s.heap.get? l = some { cls := .type "tuple", dict := dct, data := .seq its n, slots := sl } ∧
      R (.ok (.ret (.ref (s.heap.push { cls := .type "tuple_iterator", data := .fields #[.ref l, .int 0 0] }).objs.size)))
        { s with heap := Heap.push (Heap.push s.heap { cls := .type "tuple_iterator", data := .fields #[.ref l, .int 0 0] }) { cls := .type "enumerate", data := .fields #[.none, .bool false, .ref s.heap.objs.size, rawInt 0, .none, .none] } }) :=
  .of_wp fun prog w A R s h => by
    obtain ⟨hp, g, d, tk, os⟩ := s
    obtain ⟨hl, h⟩ := h
    have hsub := sub_enumerate
    have hL : Heap.IsTuple (Shared.heap ⟨hp, g, d, tk, os⟩) l its := ⟨_, hl, rfl, n, rfl⟩
    wp_walk using wpAny_loadPart' hl
    refine wpAny_stack_any fun st => wpAny_pure ?_
    split
    · rename_i c _ _ _ _ _
      cases (c == Value.type "enumerate") <;>
        (wp_walk using wpAny_loadPart' hl, wpAny_pyIter_tuple hL
         exact ⟨_, rfl, h⟩)
    · wp_walk using wpAny_loadPart' hl, wpAny_pyIter_tuple hL
      exact ⟨_, rfl, h⟩
end KpR

namespace KpR
open PySem PySem.Spec PyProof.Rows L2
open AutoSeq1 (wpAny_loadPart')
def rCatR (K : PySem.W.Frag) : R2 := fun x y H Q => ∃ l b xs zs, x = .ref l ∧ y = .ref b ∧ SqL K H l xs ∧ SqL K H b zs ∧ xs.length + zs.length ≤ sizeLine ∧ ∀ q, H q = none → Q (.ref q) (upd H q (.lst (xs ++ zs)))
section
variable {X : Cx}
theorem op_catR : OpR X (binaryOp .Add) (rCatR X.K) := by
  intro pins s σ H x y v u Q I rx ry h
  obtain ⟨l, b, xs, zs, rfl, rfl, h1, h2, hz, q⟩ := h
  cases rx
  cases ry
  obtain ⟨its, r1, p1, _⟩ := I.list h1
  obtain ⟨jts, r2, p2, _⟩ := I.list h2
  obtain ⟨⟨c1, d1, t1, s1⟩, n1, g1, k1, k2, k3⟩ := p1
  obtain ⟨⟨c2, d2, t2, s2⟩, n2, g2, k4, k5, k6⟩ := p2
  cases k1; cases k2; cases k3; cases k4; cases k5; cases k6
  have e1 := r1.length
  have e2 := r2.length
  refine concat_meets ⟨_, g1, rfl⟩ ⟨_, g2, rfl⟩ noFill_list_add seq_list_add F.slot_list_add F.entry_list_add (F.args_list_add_2 _ _)
    (addMeets l b its.toArray jts.toArray n1 n2 s1 s2 (by rw [List.size_toArray, List.size_toArray]; omega)) ⟨g1, g2, ?_⟩
  have ea : its.toArray ++ jts.toArray = (its ++ jts).toArray := by simp
  rw [ea]
  exact ⟨.ref _, _, I.lnew (t' := s.toks) (r1.append r2) (by rw [List.length_append]; omega), rfl, q _ I.fresh⟩
end
/-! ### enumerate(tuple) -/
theorem drawsT {prog : Program} {w : World} {A : Around} (hh : A.handled = none) (it l : Addr) (hne : l ≠ it) (its : Array Value) :
    Draws prog w A it [it, l] its.size (fun i v => its[i]? = some v) (fun i h => h.IsTupleIter it l i ∧ h.IsTuple l its) where
  live := fun _ _ st => by
    obtain ⟨⟨o, ho, _⟩, _⟩ := st
    exact ⟨o, ho⟩
  frame := fun _ _ _ st kp => ⟨st.1.at fun o e => kp it (by simp) o e, st.2.at fun o e => kp l (by simp) o e⟩
  item := fun i s Q E hi st hQ => by
    refine RZ.nextOf_tuple_item st.1 st.2 (x := its[i]) (by simp [hi]) fun h1 hit1 hs1 => ?_
    exact hQ _ h1 s.toks (by simp [hi]) ⟨hit1, st.2.extBut hs1.extBut hne⟩ hs1
  done := fun s Q E st hE => RZ.nextOf_tuple_end hh st.1 st.2 (by simp) hE
section
variable {prog : Program} {w : World} {A : Around} {E : Value → Shared → Prop} {s : Shared}
theorem callEnumT {l : Addr} {its : Array Value} {Q : Value → Shared → Prop} (hL : s.heap.IsTuple l its)
    (h : ∀ h', IsEnum h' (s.heap.objs.size + 1) s.heap.objs.size 0 .none → h'.IsTupleIter s.heap.objs.size l 0 → h'.IsTuple l its →
      (∀ b o, s.heap.get? b = some o → h'.get? b = some o) → Q (.ref (s.heap.objs.size + 1)) { s with heap := h' }) :
    wpAny (model prog w) A (call (.type "enumerate") [.ref l]) Q E s := by
  obtain ⟨⟨c, dct, dt, sl⟩, hl, hc, n, hd⟩ := id hL
  cases hc
  cases hd
  refine callType_new F.called_enumerate (by decide) (F.typeCall_enumerate_1 _) (F.newCall_enumerate_1 _) (fun obj => F.args_object_init_2 obj _) F.entry_enumerate_new
    (enumNewT l its n dct sl) ⟨hl, ?_⟩
  have hz : (s.heap.push { cls := .type "tuple_iterator", data := .fields #[.ref l, .int 0 0] }).objs.size = s.heap.objs.size + 1 := Heap.size_push ..
  show _ ∧ _
  rw [hz]
  have he : IsEnum ((s.heap.push { cls := .type "tuple_iterator", data := .fields #[.ref l, .int 0 0] }).push
      { cls := .type "enumerate", data := .fields #[.none, .bool false, .ref s.heap.objs.size, rawInt 0, .none, .none] }) (s.heap.objs.size + 1) s.heap.objs.size 0 .none := by
    have q := Heap.get?_push_size (s.heap.push { cls := .type "tuple_iterator", data := .fields #[.ref l, .int 0 0] })
      (o := { cls := .type "enumerate", data := .fields #[.none, .bool false, .ref s.heap.objs.size, rawInt 0, .none, .none] }) rfl
    rw [hz] at q
    exact q
  exact ⟨⟨_, he, rfl⟩, h _ he ⟨_, Heap.get?_push_of_some _ (Heap.get?_push_size _ (by rfl)), by rfl, by rfl⟩ ((hL.push _).push _) fun b o x => Heap.get?_push_of_some _ (Heap.get?_push_of_some _ x)⟩
end
/-- the tuple at a: each item in a new pair -/
def IteT (K : PySem.W.Frag) (a : Addr) : It where
  go := fun i H => ∃ (xs : List V) (x : V), SqT K H a xs ∧ xs[i]? = some x
  yld := fun i H v H' => ∃ T x, v = .ref T ∧ H T = none ∧ H' = upd H T (.tup [.int (i : Nat), x]) ∧ ∀ xs, SqT K H a xs → xs[i]? = some x
  stop := fun i H => ∃ xs : List V, SqT K H a xs ∧ xs.length = i
theorem turnEnumT {P : Program} {w : World} {K : PySem.W.Frag} {elts : List Expr} {kk : Nat} {tpos : Pos} (a e it : Addr) :
    Turn P w K (.Tuple elts kk tpos) (IteT K a) [e, it] e (fun i h => (∃ old, IsEnum h e it ((i : Nat) : Int) old) ∧ h.IsTupleIter it a i ∧ e ≠ it ∧ a ≠ it ∧ e ≠ a) where
  mem := by simp
  obj := fun i h st b hb => by
    obtain ⟨⟨old, he⟩, ⟨o, ho, hc, hd⟩, _⟩ := st
    rcases (show b = e ∨ b = it by simpa using hb) with z | z
    · subst z
      exact ⟨_, he, fun v q => nomatch q⟩
    · subst z
      exact ⟨o, ho, fun v q => by rw [hd] at q; cases q⟩
  keep := fun i h h' st k => by
    obtain ⟨⟨old, he⟩, hi, r⟩ := st
    exact ⟨⟨old, k e (by simp) _ he⟩, hi.at fun o q => k it (by simp) o q, r⟩
  item := by
    intro X hP hw hK hc i pins s σ H E I hf st hg
    subst hP hw hK
    obtain ⟨⟨old, he⟩, hit, hne, hai, hea⟩ := st
    obtain ⟨xs, x, hq, hx⟩ := hg
    obtain ⟨its, rv, p, hz⟩ := I.tuple hq
    obtain ⟨u, hu, ru⟩ := rv.get hx
    have el : e < s.heap.objs.size := Heap.lt_size he
    have il : it < s.heap.objs.size := by
      obtain ⟨_, q, _⟩ := hit
      exact Heap.lt_size q
    have hlt : i < its.toArray.size := by
      have := (List.getElem?_eq_some_iff.mp hu).1
      simpa using this
    refine wpAny_pyNext_enum_itemD (drawsT (A := X.A.in1) (I.ok.hd hc) it a hai its.toArray) he ⟨hit, p⟩ hlt hne (by simp; exact ⟨hne, hea⟩) fun y h' tk hy ho st' hT hsz hk => ?_
    obtain rfl : y = u := by
      have q : its.toArray[i]? = some u := by simpa using hu
      rw [q] at hy
      exact (Option.some.inj hy).symm
    refine ⟨_, rfl, wpAny_letOwnedTupleGo_enum (s := { s with heap := h', toks := tk + 1 }) ho fun h2 he2 sb => ?_⟩
    have hT2 : h2.get? s.heap.objs.size = some { cls := .type "tuple", data := .seq #[.int i tk, y] } := (sb.2 _ (Nat.ne_of_gt el)).trans hT
    have new : ObjOk X.prog X.w (upd H s.heap.objs.size (.tup [.int (i : Nat), x])) h2 s.heap.objs.size (.tup [.int (i : Nat), x]) :=
      ⟨by show 2 ≤ sizeLine; decide, [.int i tk, y], .cons ⟨_, rfl⟩ (.cons ru .nil), ⟨_, hT2, rfl, _, rfl⟩⟩
    have I1 : Inv X pins σ (upd H s.heap.objs.size (.tup [.int (i : Nat), x])) { s with heap := h2, toks := tk + 1 } :=
      I.turnedNew (ch := [e, it]) (fun b ob hb q => (sb.2 b (fun z => hb (by simp [z]))).trans (hk b ob (fun z => hb (by simp [z])) (fun z => hb (by simp [z])) q)) hf (Nat.le_refl _) new
    refine ⟨.ref s.heap.objs.size, _, I1, rfl, ⟨_, x, rfl, I.hok.fresh (Nat.le_refl _), rfl, fun ys hy2 => by rw [I.tuple_inj hy2 hq]; exact hx⟩, ⟨⟨y, ?_⟩, st'.1.at fun o q => (sb.2 it (Ne.symm hne)).trans q, hne, hai, hea⟩, fun b hb => ?_⟩
    · have e1 : ((i + 1 : Nat) : Int) = (i : Int) + 1 := by omega
      rw [e1]
      exact he2
    · have hb2 : b < s.heap.objs.size := by
        rcases (show b = e ∨ b = it by simpa using hb) with z | z
        · rw [z]; exact el
        · rw [z]; exact il
      rw [upd_ne (Nat.ne_of_lt hb2)]
      exact (hf b hb).1
  done := by
    intro X hP hw hK hc i pins s σ H E I hf st hg
    subst hP hw hK
    obtain ⟨⟨old, he⟩, hit, hne, hai, hea⟩ := st
    obtain ⟨xs, hq, hx⟩ := hg
    obtain ⟨its, rv, p, hz⟩ := I.tuple hq
    obtain ⟨f0, f1, f2, f3, f4, f5⟩ := hf it (by simp)
    have hl := rv.length
    have hiEq : i = its.toArray.size := by
      rw [List.size_toArray]
      omega
    subst hiEq
    exact wpAny_pyNext_enum_endD (drawsT (A := X.A.in1) (I.ok.hd hc) it a hai its.toArray) he ⟨hit, p⟩ fun h' eb => ⟨rfl, I.turned (t' := s.toks) (fun b o hb q => eb b o hb q) f0 f1 f3 f4 f5⟩
  self := fun A i s Q E st h => by
    obtain ⟨⟨_, he⟩, _⟩ := st
    exact wpAny_pyIter_enum he h
def iEnumT (K : PySem.W.Frag) (ta : TA) : TI := fun σ H R => ta σ H fun vs H1 => ∃ a xs, vs = [.ref a] ∧ SqT K H1 a xs ∧ R (IteT K a) H1
theorem pi_enumT {X : Cx} {e : Expr} {ta : TA} {p pos tpos : Pos} {elts : List Expr} {kk : Nat} (hg : Gl X "enumerate") (hm : X.mg "enumerate" = none) (ha : PA X [e] ta) (hs : starEach [e] X.env = [(false, eval e X.env)] := by rfl) :
    PI X (.Tuple elts kk tpos) (.Call (.Name "enumerate" p) [e] [] pos) (iEnumT X.K ta) := by
  refine ⟨fun pins s σ H R I h => ?_⟩
  refine Call_ (ld_blt I hg hm boot_enumerate (PyProof.Rows.callWith_type1 (thn (ha.run pos pins s σ H _ I h) fun us s1 ⟨vs, H1, I1, r1, a, xs, ex, hq, q⟩ => ?_) hs rfl))
  subst ex
  cases r1 with
  | cons r rr =>
    cases rr
    cases r
    obtain ⟨its, rv, p1, hz⟩ := I1.tuple hq
    refine callEnumT p1 fun h1 he hit hT hk => wpAny_pyIter_enum he ?_
    have al : a < s1.heap.objs.size := by
      obtain ⟨o, ho, _⟩ := p1
      exact Heap.lt_size ho
    have I2 : Inv X pins σ H1 { s1 with heap := h1 } := I1.kept (t' := s1.toks) hk
    refine ⟨s1.heap.objs.size + 1, [s1.heap.objs.size + 1, s1.heap.objs.size], _, _, H1, rfl, I2, turnEnumT a (s1.heap.objs.size + 1) s1.heap.objs.size, ⟨⟨.none, he⟩, hit, Nat.succ_ne_self _, Nat.ne_of_lt al, Nat.ne_of_gt (Nat.lt_succ_of_lt al)⟩, fun b hb => ?_, q⟩
    have le : s1.heap.objs.size ≤ b := by
      rcases (show b = s1.heap.objs.size + 1 ∨ b = s1.heap.objs.size by simpa using hb) with z | z
      · rw [z]
        exact Nat.le_succ _
      · rw [z]
        exact Nat.le_refl _
    exact I1.fpOk le (I1.hok.fresh le)
/-- the loop's bookkeeping: the pair is a new tuple at T -/
theorem for_enumT {K : PySem.W.Frag} {a : Addr} {xs : List V} {g : TG} {tb : TS} {D : Ends} {σ : L2.St} {H : Hp} (Pv : Nat → L2.St → Hp → Prop) (h0 : Pv 0 σ H) (hl : ∀ i σ H, i ≤ xs.length → Pv i σ H → SqT K H a xs)
    (hs : ∀ i x T σ H, xs[i]? = some x → Pv i σ H → H T = none → g (.ref T) σ (upd H T (.tup [.int (i : Nat), x])) fun σ2 H2 => tb { D with nx := Pv (i + 1), ct := Pv (i + 1), bk := D.nx } σ2 H2) (hd : ∀ σ H, Pv xs.length σ H → D.nx σ H) :
    ∃ W : Nat → Nat → L2.St → Hp → Prop, (∃ m, W 0 m σ H) ∧ ∀ i m σ H, W i m σ H →
      ((IteT K a).stop i H ∧ D.nx σ H) ∨ ((IteT K a).go i H ∧ ∃ N : L2.St → Hp → Prop, (∀ σ' H', N σ' H' → ∃ m', m' < m ∧ W (i + 1) m' σ' H') ∧ ∀ x H', (IteT K a).yld i H x H' → g x σ H' fun σ2 H2 => tb { D with nx := N, ct := N, bk := D.nx } σ2 H2) := by
  refine ⟨fun i m σ H => m = xs.length - i ∧ i ≤ xs.length ∧ Pv i σ H, ⟨xs.length, by simp, Nat.zero_le _, h0⟩, ?_⟩
  rintro i m σ1 H1 ⟨rfl, hi, p⟩
  by_cases e : i = xs.length
  · subst e
    exact .inl ⟨⟨xs, hl _ _ _ hi p, rfl⟩, hd _ _ p⟩
  · have lt : i < xs.length := by omega
    have ge : xs[i]? = some xs[i] := List.getElem?_eq_getElem lt
    refine .inr ⟨⟨xs, xs[i], hl _ _ _ hi p, ge⟩, Pv (i + 1), fun σ2 H2 q => ⟨xs.length - (i + 1), by omega, rfl, by omega, q⟩, ?_⟩
    rintro x H2 ⟨T, y, rfl, hT, rfl, hy⟩
    have q := hy xs (hl _ _ _ hi p)
    exact hs i y T σ1 H1 q p hT
/-! ### f(k = v, ..): keywords alone -/
theorem pe_callN0 {X : Cx} {CX : CXT} {k : Nat} {f : Addr} {fd : FuncData} {ps ks : List Str} {sp : Sp} {E : XK} {x : Str} {p pos : Pos} {kws : List Keyword} {tk : TA} {g : List Value → List Value → List Value} {gV : List V → List V → List V}
    (F : FnOk X.prog X.w X.K X.mg X.base CX k f fd ps sp) (hr : Room k X.A) (hg : Gl X x) (hm : X.mg x = some (.ref f)) (hk : PySem.W.keepIn X.K (.ref f) = true) (hb : KBn X.K fd ps 0 ks g gV) (hx : Passes CX X E) (hkw : PK X kws tk)
    (hall : (backToKw pos (keywordEach kws X.env)).all (·.1.isSome) = true := by rfl) (hks : (backToKw pos (keywordEach kws X.env)).filterMap (·.1) = ks := by rfl) (hdb : (x == ("__debug__" : Str)) = false := by decide)
    (hpl : ((backTo pos (starEach [] X.env)).any (·.1) || (backToKw pos (keywordEach kws X.env)).any (·.1.isNone)) = false := by rfl) :
    PE X (.Call (.Name x p) [] kws pos) (tCallN 0 ks.length sp gV E tNil tk) := by
  refine ⟨fun pins s σ H Q I h => ?_⟩
  refine wpAny_Call_Name_kw (ld_glob I hg hm ?_ hdb)
  refine PySem.W.callWith_KW0 (h₀ := X.base) I.ok.mod.kin hk hall (thn (hkw.run pos pins s σ H _ I h) fun ws s2 ⟨zs, H2, I2, rz, l1, l2, q2⟩ => ⟨I2.kIn, ?_⟩) hpl
  rw [hks]
  exact run_fnN (us := []) (vs := []) F hr hb hx I2 .nil rz rfl l2 q2
/-! ### isinstance's answers -/
theorem kit_self {K : PySem.W.Frag} {t : Value} (h : (t == t) = true) : PySem.W.kitOne K t t = some true := by
  unfold PySem.W.kitOne
  rw [if_pos h]
theorem kit_cls {K : PySem.W.Frag} {A C : Addr} {b : Bool} (h1 : PySem.W.isClsIn K C = true) (h2 : PySem.W.typeIn K (.ref C) = some (.type "type")) (h3 : PySem.W.subIn K (.ref A) (.ref C) = some b) (ne : (Value.ref A == Value.ref C) = false) :
    PySem.W.kitOne K (.ref A) (.ref C) = some b := by
  unfold PySem.W.kitOne
  rw [if_neg (by rw [ne]; exact Bool.false_ne_true)]
  show (if ((PySem.W.clsIn K C).isSome && PySem.W.typeIn K (.ref C) == some (.type "type")) = true then PySem.W.subIn K (.ref A) (.ref C) else none) = some b
  have h1' : (PySem.W.clsIn K C).isSome = true := h1
  rw [h1', h2, if_pos (by rfl)]
  exact h3
/-! ### lists of things that stand in the heap -/
def A2 {α : Type} (R : V → α → Prop) : List V → List α → Prop
  | [], [] => True
  | v :: vs, d :: ds => R v d ∧ A2 R vs ds
  | _, _ => False
section
variable {α : Type} {R S : V → α → Prop}
theorem A2.len : ∀ {vs : List V} {ds : List α}, A2 R vs ds → vs.length = ds.length
  | [], [], _ => rfl
  | _ :: _, _ :: _, h => congrArg (· + 1) (A2.len h.2)
  | [], _ :: _, h => h.elim
  | _ :: _, [], h => h.elim
theorem A2.mono (f : ∀ v d, R v d → S v d) : ∀ {vs : List V} {ds : List α}, A2 R vs ds → A2 S vs ds
  | [], [], _ => trivial
  | _ :: _, _ :: _, h => ⟨f _ _ h.1, A2.mono f h.2⟩
  | [], _ :: _, h => h.elim
  | _ :: _, [], h => h.elim
theorem A2.get : ∀ {vs : List V} {ds : List α} {i : Nat} {v : V}, A2 R vs ds → vs[i]? = some v → ∃ d, ds[i]? = some d ∧ R v d
  | [], [], i, v, _, e => by simp at e
  | w :: _, d :: _, 0, v, h, e => by
    have : w = v := by simpa using e
    exact ⟨d, rfl, this ▸ h.1⟩
  | _ :: _, _ :: _, i + 1, v, h, e => by
    obtain ⟨d, e1, r⟩ := A2.get (i := i) h.2 (by simpa using e)
    exact ⟨d, by simpa using e1, r⟩
  | [], _ :: _, _, _, h, _ => h.elim
  | _ :: _, [], _, _, h, _ => h.elim
theorem A2.app : ∀ {vs ws : List V} {ds es : List α}, A2 R vs ds → A2 R ws es → A2 R (vs ++ ws) (ds ++ es)
  | [], _, [], _, _, k => k
  | _ :: _, _, _ :: _, _, h, k => ⟨h.1, A2.app h.2 k⟩
  | [], _, _ :: _, _, h, _ => h.elim
  | _ :: _, _, [], _, h, _ => h.elim
theorem A2.take : ∀ {vs : List V} {ds : List α} (n : Nat), A2 R vs ds → A2 R (vs.take n) (ds.take n)
  | vs, ds, 0, _ => by simp [A2]
  | [], [], n + 1, _ => trivial
  | _ :: _, _ :: _, n + 1, h => ⟨h.1, A2.take n h.2⟩
  | [], _ :: _, _ + 1, h => h.elim
  | _ :: _, [], _ + 1, h => h.elim
theorem A2.drop : ∀ {vs : List V} {ds : List α} (n : Nat), A2 R vs ds → A2 R (vs.drop n) (ds.drop n)
  | vs, ds, 0, h => by simpa using h
  | [], [], n + 1, _ => trivial
  | _ :: _, _ :: _, n + 1, h => A2.drop n h.2
  | [], _ :: _, _ + 1, h => h.elim
  | _ :: _, [], _ + 1, h => h.elim
end
/-! ### heaps -/
/-- all that was tracked, but what stands at w, is as it was -/
def Fr (w : Addr) (H H' : Hp) : Prop := ∀ b o, b ≠ w → H b = some o → H' b = some o
theorem Fr.refl (w : Addr) (H : Hp) : Fr w H H := fun _ _ _ h => h
theorem Fr.trans {w : Addr} {H H1 H2 : Hp} (a : Fr w H H1) (b : Fr w H1 H2) : Fr w H H2 := fun c o n h => b c o n (a c o n h)
theorem Fr.of {w : Addr} {H H1 : Hp} (a : Same H H1) : Fr w H H1 := fun b o _ h => a b o h
theorem Fr.sqL {K : PySem.W.Frag} {w : Addr} {H H' : Hp} {a : Addr} {xs : List V} (e : Fr w H H') (n : a ≠ w) (h : SqL K H a xs) : SqL K H' a xs := by
  rcases h with h | h
  · refine Or.inl ?_
    rcases h with h | ⟨o, h⟩
    · exact Or.inl (e a _ n h)
    · exact Or.inr ⟨o, e a _ n h⟩
  · exact Or.inr h
theorem Fr.sqT {K : PySem.W.Frag} {w : Addr} {H H' : Hp} {a : Addr} {xs : List V} (e : Fr w H H') (n : a ≠ w) (h : SqT K H a xs) : SqT K H' a xs := by
  rcases h with h | h
  · refine Or.inl ?_
    rcases h with h | ⟨o, h⟩
    · exact Or.inl (e a _ n h)
    · exact Or.inr ⟨o, e a _ n h⟩
  · exact Or.inr h
theorem sameT {K : PySem.W.Frag} {H H' : Hp} {a : Addr} {xs : List V} (e : Same H H') (h : SqT K H a xs) : SqT K H' a xs := by
  rcases h with h | h
  · refine Or.inl ?_
    rcases h with h | ⟨o, h⟩
    · exact Or.inl (e a _ h)
    · exact Or.inr ⟨o, e a _ h⟩
  · exact Or.inr h
theorem same_new {H : Hp} {p : Addr} {o : HO} (h : H p = none) : Same H (upd H p o) := fun b u e => by
  rw [upd_ne (ne_of_none e h)]
  exact e
theorem same_mut {H H' : Hp} {p : Addr} {o : HO} (e : Same H H') (h : H p = none) : Same H (upd H' p o) := fun b u ha => by
  rw [upd_ne (ne_of_none ha h)]
  exact e b u ha
theorem fr_mut {w : Addr} {H H' : Hp} {o : HO} (e : Fr w H H') : Fr w H (upd H' w o) := fun b u n h => by
  rw [upd_ne n]
  exact e b u n h
theorem fr_new {w : Addr} {H H' : Hp} {p : Addr} {o : HO} (e : Fr w H H') (h : H p = none) : Fr w H (upd H' p o) := fun b u n ha => by
  rw [upd_ne (ne_of_none ha h)]
  exact e b u n ha
theorem fr_free {w : Addr} {H H' : Hp} {p : Addr} (e : Fr w H H') (n : p ≠ w) (h : H' p = none) : H p = none := by
  cases z : H p with
  | none => rfl
  | some o =>
    rw [e p o n z] at h
    cases h
/-- ints as values -/
abbrev vi (l : List Int) : List V := l.map V.int
theorem vi_get {l : List Int} {i : Nat} {y : V} (h : (vi l)[i]? = some y) : ∃ z, l[i]? = some z ∧ y = .int z := by
  rw [List.getElem?_map] at h
  cases e : l[i]? with
  | none =>
    rw [e] at h
    cases h
  | some z =>
    rw [e] at h
    exact ⟨z, rfl, (Option.some.inj h).symm⟩
theorem vi_at {l : List Int} {i : Nat} (h : i < l.length) : atI (vi l) (i : Int) = some (.int (l.getD i 0)) := by
  refine atI_nat ?_
  rw [List.getElem?_map, List.getElem?_eq_getElem h, List.getD_eq_getElem?_getD, List.getElem?_eq_getElem h]
  rfl
end KpR

namespace KpR
open PySem PySem.Spec PyProof.Rows L2
def strB (es : Array DictEntry) : Bool := es.toList.all fun e => match e.key with
  | .str _ _ => true
  | _ => false
theorem strB_keys {es : Array DictEntry} (h : strB es = true) : StrKeys es := fun e he => by
  have q := List.all_eq_true.mp h e (by simpa using he)
  cases k : e.key <;> rw [k] at q <;> first | exact ⟨_, _, rfl⟩ | cases q
theorem ns_at {K : PySem.W.Frag} {h : Heap} {N : Addr} {c : Value} {d : Option Addr} {es : Array DictEntry} {m : Nat} {sl : Array (Option Value)} (X : K.In h) (l : K.lookup N = some ⟨c, d, .dict es m, sl⟩) (ok : strB es = true) :
    h.Ns N fun x => nsFind es x := ⟨_, es, m, X _ _ l, rfl, strB_keys ok, fun _ => rfl⟩
theorem find_some {K : PySem.W.Frag} {N : Addr} {c : Value} {d : Option Addr} {es : Array DictEntry} {m : Nat} {sl : Array (Option Value)} {x : Str} {v : Value} (l : K.lookup N = some ⟨c, d, .dict es m, sl⟩)
    (e : PySem.W.nsIn K N x = some (some v)) : nsFind es x = some v := by
  unfold PySem.W.nsIn at e
  rw [l] at e
  dsimp only at e
  unfold nsFind findBy
  rw [← Array.find?_toList]
  cases q : es.toList.find? (fun en => en.key.isStr x) with
  | none =>
    rw [q] at e
    dsimp only at e
    split at e <;> cases e
  | some en =>
    rw [q] at e
    cases e
    rfl
theorem find_none {K : PySem.W.Frag} {N : Addr} {c : Value} {d : Option Addr} {es : Array DictEntry} {m : Nat} {sl : Array (Option Value)} {x : Str} (l : K.lookup N = some ⟨c, d, .dict es m, sl⟩)
    (e : PySem.W.nsIn K N x = some none) : nsFind es x = none := by
  unfold PySem.W.nsIn at e
  rw [l] at e
  dsimp only at e
  unfold nsFind findBy
  rw [← Array.find?_toList]
  cases q : es.toList.find? (fun en => en.key.isStr x) with
  | none => rfl
  | some en =>
    rw [q] at e
    cases e
/-- what the written part says of such a class -/
structure NeCls (K : PySem.W.Frag) (C f : Addr) : Prop where
  ob : ∃ (nm q : Str) (N : Addr) (bs : List Value) (hd : Bool) (sn : List Str) (sub : List Value) (ab : Bool) (col : Option Bool) (dd : Option Addr) (k0 k1 k2 k3 k5 : Option Value) (nid : String),
    K.lookup C = some (excClassObj nm q C N bs [.type "object"] hd sn sub ab col dd k0 k1 k2 k3 k5 nid) ∧
    ∃ (c : Value) (d : Option Addr) (es : Array DictEntry) (m : Nat) (sl : Array (Option Value)), K.lookup N = some ⟨c, d, .dict es m, sl⟩ ∧ strB es = true ∧ PySem.W.nsIn K N "__eq__" = some (some (.ref f)) ∧ PySem.W.nsIn K N "__ne__" = some none
  fn : ∃ of : Obj, K.lookup f = some of ∧ of.cls = .type "function"
def rNeG (D : Eqv) : R2 := fun x y H Q => D x y H ∧ ∀ H', Ext H H' → Q (.bl false) H'
section
variable {X : Cx} {CX : CXT} {n : Nat} {C f : Addr} {fd : FuncData} {ps : List Str} {R : Addr → Addr → Hp → Prop} {E : XK}
theorem op_neOwn (G : FnOk X.prog X.w X.K X.mg X.base CX n f fd ps (spEq R)) (hc : NeCls X.K C f) (hb : Binds X.K fd ps []) (hx : Passes CX X E) (hr : Room (n + 1) X.A) :
    OpR X (compareOp .NotEq) (rNeG (DIns C R)) := by
  intro pins s σ H x y v u Q I rx ry hq
  obtain ⟨⟨a, b, dx, dy, fs, gs, rfl, rfl, ha, hb1, hR⟩, q⟩ := hq
  cases rx
  cases ry
  obtain ⟨mA, J, _⟩ := ins_get I.hok ha
  obtain ⟨mB, J1, _⟩ := ins_get I.hok hb1
  obtain ⟨od, J, _⟩ := J.look
  obtain ⟨od1, J1, _⟩ := J1.look
  obtain ⟨nm, qn, N, bs, hd, sn, sub, ab, col, dd, k0, k1, k2, k3, k5, nid, lC, c1, d1, es, m, sl, lN, sb, lE, lNe⟩ := hc.ob
  obtain ⟨of, lf, cf⟩ := hc.fn
  have KI := I.kIn
  obtain ⟨mN, hn, e1, e2⟩ : ∃ mN : Str → Option Value, s.heap.Ns N mN ∧ mN "__eq__" = some (.ref f) ∧ mN "__ne__" = none := ⟨_, ns_at KI lN sb, find_some lN lE, find_none lN lNe⟩
  have XX : s.heap.OwnEqNoNe a C f "object" [.type "object"] :=
    ⟨_, of, nm, qn, N, bs, hd, sn, sub, ab, col, dd, k0, k1, k2, k3, k5, nid, mN, _, J.at_, J.cls, KI _ _ lC, hn, e1, KI _ _ lf, cf, rfl, rfl, e2⟩
  have e0 := I.env0
  have sp1 : spEq R [.ref a, .ref b] H (fun v H' => v = .bl true ∧ Ext H H') E := ⟨a, b, rfl, hR, fun H' e => ⟨rfl, e⟩⟩
  have ln := G.len _ _ _ _ sp1
  have vals : Vals [V.ref a, V.ref b] [Value.ref a, Value.ref b] := .cons rfl (.cons rfl .nil)
  have hr1 : Room n X.A.in1 := hr.in1
  have f0 : Env0 X.prog X.w X.K X.mg X.base X.A.in1 X.stack s H := ⟨e0.frames, e0.mod, e0.bs, e0.bsz, e0.funs, e0.frf, e0.hok, e0.bare⟩
  have bd := hb s [.ref a, .ref b] KI (by simpa using ln)
  obtain ⟨hp, g, dr, tk, os⟩ := s
  refine compareOp_ne_ownEq F.cmp_object XX J1.at_ J1.cls (hu_of hr) ?_
  refine wpAny_call (codeAny_mono (G.run X.A.in1 X.stack _ H ⟨[.ref a, .ref b], []⟩ [.ref a, .ref b] [.ref a, .ref b] _ E hr1 f0 (by simpa using bd) vals sp1) fun r s1 hq1 => ?_)
  cases r with
  | error e => exact hx pins σ H _ e s1 I hq1
  | ok fl =>
    cases fl with
    | ret w1 =>
      obtain ⟨z, H1, I1, rz, ez, ex⟩ := I.after hq1
      subst ez
      cases rz
      exact ⟨true, rfl, .bl false, H1, I1, rfl, q H1 ex⟩
    | next => exact False.elim hq1
    | brk => exact False.elim hq1
    | cont => exact False.elim hq1
end
end KpR

namespace Kp
open PySem PySem.Spec PyProof.Rows L2 KpR
def topS (i : Nat) : Stmt := PySem.Challenge.pw_wholedrops_k11_whole_full_for_empty.main.body.getD i (.Pass ⟨0, 0, 0, 0⟩)
abbrev scheckmuch : Stmt := topS 19
abbrev scheckjar : Stmt := topS 20
abbrev scheckdeed : Stmt := topS 21
abbrev sJarsInit : Stmt := inClass (topS 12) 0
abbrev sPourInit : Stmt := inClass (topS 14) 0
abbrev sPutInit : Stmt := inClass (topS 15) 0
abbrev sDrawInit : Stmt := inClass (topS 16) 0
abbrev sChangeInit : Stmt := inClass (topS 17) 0
abbrev sRowInit : Stmt := inClass (topS 18) 0
abbrev scheckstart : Stmt := topS 24
abbrev sbehinddeed : Stmt := topS 25
abbrev sbehindround : Stmt := topS 26
abbrev sbehind : Stmt := topS 27
abbrev sLwell : Stmt := topS 29
abbrev sLdraw : Stmt := topS 30
abbrev sLcaps : Stmt := topS 31
abbrev sLfacts : Stmt := topS 32
abbrev sLdeed : Stmt := topS 33
abbrev sLrow : Stmt := topS 34
abbrev sLamounts : Stmt := topS 35
abbrev sJarsEq : Stmt := inClass (topS 12) 1
abbrev sPourEq : Stmt := inClass (topS 14) 1
abbrev sPutEq : Stmt := inClass (topS 15) 1
abbrev sDrawEq : Stmt := inClass (topS 16) 1
abbrev sChangeEq : Stmt := inClass (topS 17) 1
abbrev sRowEq : Stmt := inClass (topS 18) 1
abbrev sLabout : Stmt := topS 36
abbrev sLrooms : Stmt := topS 37
abbrev slaw : Stmt := topS 38
theorem sccheckmuch : FnScope ["what", "much"] ["what", "much"] (defScope scheckmuch) := ⟨rfl, rfl, rfl, by decide +kernel, rfl, by decide +kernel, by decide +kernel⟩
theorem sccheckjar : FnScope ["jars", "jar"] ["jars", "jar"] (defScope scheckjar) := ⟨rfl, rfl, rfl, by decide +kernel, rfl, by decide +kernel, by decide +kernel⟩
theorem sccheckdeed : FnScope ["jars", "deed"] ["jars", "deed"] (defScope scheckdeed) := ⟨rfl, rfl, rfl, by decide +kernel, rfl, by decide +kernel, by decide +kernel⟩
theorem scJarsInit : FnScope ["self", "sizes", "size"] ["self", "sizes"] (defScope sJarsInit) := ⟨rfl, rfl, rfl, by decide +kernel, rfl, by decide +kernel, by decide +kernel⟩
theorem scPourInit : FnScope ["self", "a", "b"] ["self", "a", "b"] (defScope sPourInit) := ⟨rfl, rfl, rfl, by decide +kernel, rfl, by decide +kernel, by decide +kernel⟩
theorem scPutInit : FnScope ["self", "a", "k"] ["self", "a", "k"] (defScope sPutInit) := ⟨rfl, rfl, rfl, by decide +kernel, rfl, by decide +kernel, by decide +kernel⟩
theorem scDrawInit : FnScope ["self", "a", "k"] ["self", "a", "k"] (defScope sDrawInit) := ⟨rfl, rfl, rfl, by decide +kernel, rfl, by decide +kernel, by decide +kernel⟩
theorem scChangeInit : FnScope ["self", "a", "b"] ["self", "a", "b"] (defScope sChangeInit) := ⟨rfl, rfl, rfl, by decide +kernel, rfl, by decide +kernel, by decide +kernel⟩
theorem scRowInit : FnScope ["self", "jars", "deeds", "deed"] ["self", "jars", "deeds"] (defScope sRowInit) := ⟨rfl, rfl, rfl, by decide +kernel, rfl, by decide +kernel, by decide +kernel⟩
theorem sccheckstart : FnScope ["jars", "start", "parts", "jar", "size"] ["jars", "start", "parts"] (defScope scheckstart) := ⟨rfl, rfl, rfl, by decide +kernel, rfl, by decide +kernel, by decide +kernel⟩
theorem scbehinddeed : FnScope ["jars", "deed", "stand", "parts", "after", "a", "b", "moved"] ["jars", "deed", "stand", "parts"] (defScope sbehinddeed) := ⟨rfl, rfl, rfl, by decide +kernel, rfl, by decide +kernel, by decide +kernel⟩
theorem scbehindround : FnScope ["row", "stand", "parts", "after", "deed"] ["row", "stand", "parts"] (defScope sbehindround) := ⟨rfl, rfl, rfl, by decide +kernel, rfl, by decide +kernel, by decide +kernel⟩
theorem scbehind : FnScope ["row", "start", "parts", "times", "stand", "_"] ["row", "start", "parts", "times"] (defScope sbehind) := ⟨rfl, rfl, rfl, by decide +kernel, rfl, by decide +kernel, by decide +kernel⟩
theorem scLwell : FnScope ["_law_cell"] ["_law_cell"] (defScope sLwell) := ⟨rfl, rfl, rfl, by decide +kernel, rfl, by decide +kernel, by decide +kernel⟩
theorem scLdraw : FnScope ["_law_well_here", "_law_many", "_law_found", "_law_number"] ["_law_well_here", "_law_many"] (defScope sLdraw) := ⟨rfl, rfl, rfl, by decide +kernel, rfl, by decide +kernel, by decide +kernel⟩
theorem scLcaps : FnScope ["_law_well_here", "_law_most", "_law_unit", "_law_found", "_law_turn"] ["_law_well_here", "_law_most"] (defScope sLcaps) := ⟨rfl, rfl, rfl, by decide +kernel, rfl, by decide +kernel, by decide +kernel⟩
theorem scLfacts : FnScope ["_law_well_here", "_law_caps_here", "_law_many", "_law_found", "_law_turn", "_law_here", "_law_there", "_law_much", "_law_word"] ["_law_well_here", "_law_caps_here", "_law_many"] (defScope sLfacts) := ⟨rfl, rfl, rfl, by decide +kernel, rfl, by decide +kernel, by decide +kernel⟩
theorem scLdeed : FnScope ["_law_fact", "_law_word", "_law_here", "_law_last"] ["_law_fact"] (defScope sLdeed) := ⟨rfl, rfl, rfl, by decide +kernel, rfl, by decide +kernel, by decide +kernel⟩
theorem scLrow : FnScope ["_law_caps_here", "_law_facts_here", "_law_fact"] ["_law_caps_here", "_law_facts_here"] (defScope sLrow) := ⟨rfl, rfl, rfl, by decide +kernel, rfl, by decide +kernel, by decide +kernel⟩
theorem scLamounts : FnScope ["_law_well_here", "_law_caps_here", "_law_portions", "_law_found", "_law_cap", "_law_top", "_law_some"] ["_law_well_here", "_law_caps_here", "_law_portions"] (defScope sLamounts) := ⟨rfl, rfl, rfl, by decide +kernel, rfl, by decide +kernel, by decide +kernel⟩
theorem scJarsEq : FnScope ["self", "other"] ["self", "other"] (defScope sJarsEq) := ⟨rfl, rfl, rfl, by decide +kernel, rfl, by decide +kernel, by decide +kernel⟩
theorem scPourEq : FnScope ["self", "other"] ["self", "other"] (defScope sPourEq) := ⟨rfl, rfl, rfl, by decide +kernel, rfl, by decide +kernel, by decide +kernel⟩
theorem scPutEq : FnScope ["self", "other"] ["self", "other"] (defScope sPutEq) := ⟨rfl, rfl, rfl, by decide +kernel, rfl, by decide +kernel, by decide +kernel⟩
theorem scDrawEq : FnScope ["self", "other"] ["self", "other"] (defScope sDrawEq) := ⟨rfl, rfl, rfl, by decide +kernel, rfl, by decide +kernel, by decide +kernel⟩
theorem scChangeEq : FnScope ["self", "other"] ["self", "other"] (defScope sChangeEq) := ⟨rfl, rfl, rfl, by decide +kernel, rfl, by decide +kernel, by decide +kernel⟩
theorem scRowEq : FnScope ["self", "other"] ["self", "other"] (defScope sRowEq) := ⟨rfl, rfl, rfl, by decide +kernel, rfl, by decide +kernel, by decide +kernel⟩
theorem scLabout : FnScope ["_law_facts_here", "_law_found", "_law_word", "_law_here", "_law_last"] ["_law_facts_here"] (defScope sLabout) := ⟨rfl, rfl, rfl, by decide +kernel, rfl, by decide +kernel, by decide +kernel⟩
theorem scLrooms : FnScope ["_law_caps_here", "_law_amounts_here", "_law_portions", "_law_cap", "_law_much"] ["_law_caps_here", "_law_amounts_here", "_law_portions"] (defScope sLrooms) := ⟨rfl, rfl, rfl, by decide +kernel, rfl, by decide +kernel, by decide +kernel⟩
theorem sclaw : FnScope ["_law_script", "_law_cell", "_law_well_here", "_law_caps_here", "_law_facts_here", "_law_first", "_law_second", "_law_turn", "_law_portions", "_law_many", "_law_amounts_here", "_law_due", "_law_found"] ["_law_script"] (defScope slaw) := ⟨rfl, rfl, rfl, by decide +kernel, rfl, by decide +kernel, by decide +kernel⟩
structure TyIns (K : PySem.W.Frag) (C : Addr) : Prop where
  ha : PySem.W.findIn K (.ref C) "__class__" = some (some (.builtin "object.__class__"))
  hn : PySem.W.specialIn K (.builtin "object.__class__") "__get__" = some (some (.builtin "getset_descriptor.__get__"))
  ht : PySem.W.takesIn K (.builtin "object.__class__") = some true
  hm : PySem.W.mroIn K C (.type "object") = some true
structure Tx (K : PySem.W.Frag) (mg : Str → Option Value) : Type where
  cJars : Addr
  cPour : Addr
  cPut : Addr
  cDraw : Addr
  cChange : Addr
  cRow : Addr
  acheckmuch : Addr
  dcheckmuch : FuncData
  acheckjar : Addr
  dcheckjar : FuncData
  acheckdeed : Addr
  dcheckdeed : FuncData
  aJarsInit : Addr
  dJarsInit : FuncData
  aPourInit : Addr
  dPourInit : FuncData
  aPutInit : Addr
  dPutInit : FuncData
  aDrawInit : Addr
  dDrawInit : FuncData
  aChangeInit : Addr
  dChangeInit : FuncData
  aRowInit : Addr
  dRowInit : FuncData
  acheckstart : Addr
  dcheckstart : FuncData
  abehinddeed : Addr
  dbehinddeed : FuncData
  abehindround : Addr
  dbehindround : FuncData
  abehind : Addr
  dbehind : FuncData
  aLwell : Addr
  dLwell : FuncData
  aLdraw : Addr
  dLdraw : FuncData
  aLcaps : Addr
  dLcaps : FuncData
  aLfacts : Addr
  dLfacts : FuncData
  aLdeed : Addr
  dLdeed : FuncData
  aLrow : Addr
  dLrow : FuncData
  aLamounts : Addr
  dLamounts : FuncData
  aJarsEq : Addr
  dJarsEq : FuncData
  aPourEq : Addr
  dPourEq : FuncData
  aPutEq : Addr
  dPutEq : FuncData
  aDrawEq : Addr
  dDrawEq : FuncData
  aChangeEq : Addr
  dChangeEq : FuncData
  aRowEq : Addr
  dRowEq : FuncData
  aLabout : Addr
  dLabout : FuncData
  aLrooms : Addr
  dLrooms : FuncData
  alaw : Addr
  dlaw : FuncData
  tMOSTJARS : Tok
  tMOSTDEEDS : Tok
  tMOSTMUCH : Tok
  tMOSTTIMES : Tok
  fcheckmuch : Fun K "check_much" "check_much" scheckmuch acheckmuch dcheckmuch
  bcheckmuch : Binds K dcheckmuch ["what", "much"] []
  gcheckmuch : mg "check_much" = some (.ref acheckmuch)
  fcheckjar : Fun K "check_jar" "check_jar" scheckjar acheckjar dcheckjar
  bcheckjar : Binds K dcheckjar ["jars", "jar"] []
  gcheckjar : mg "check_jar" = some (.ref acheckjar)
  fcheckdeed : Fun K "check_deed" "check_deed" scheckdeed acheckdeed dcheckdeed
  bcheckdeed : Binds K dcheckdeed ["jars", "deed"] []
  gcheckdeed : mg "check_deed" = some (.ref acheckdeed)
  fJarsInit : Fun K "__init__" "Jars.__init__" sJarsInit aJarsInit dJarsInit
  bJarsInit : Binds K dJarsInit ["self", "sizes"] []
  fPourInit : Fun K "__init__" "Pour.__init__" sPourInit aPourInit dPourInit
  bPourInit : Binds K dPourInit ["self", "a", "b"] []
  fPutInit : Fun K "__init__" "Put.__init__" sPutInit aPutInit dPutInit
  bPutInit : Binds K dPutInit ["self", "a", "k"] []
  fDrawInit : Fun K "__init__" "Draw.__init__" sDrawInit aDrawInit dDrawInit
  bDrawInit : Binds K dDrawInit ["self", "a", "k"] []
  fChangeInit : Fun K "__init__" "Change.__init__" sChangeInit aChangeInit dChangeInit
  bChangeInit : Binds K dChangeInit ["self", "a", "b"] []
  fRowInit : Fun K "__init__" "Row.__init__" sRowInit aRowInit dRowInit
  bRowInit : Binds K dRowInit ["self", "jars", "deeds"] []
  fcheckstart : Fun K "check_start" "check_start" scheckstart acheckstart dcheckstart
  bcheckstart : Binds K dcheckstart ["jars", "start", "parts"] []
  gcheckstart : mg "check_start" = some (.ref acheckstart)
  fbehinddeed : Fun K "behind_deed" "behind_deed" sbehinddeed abehinddeed dbehinddeed
  bbehinddeed : Binds K dbehinddeed ["jars", "deed", "stand", "parts"] []
  gbehinddeed : mg "behind_deed" = some (.ref abehinddeed)
  fbehindround : Fun K "behind_round" "behind_round" sbehindround abehindround dbehindround
  bbehindround : Binds K dbehindround ["row", "stand", "parts"] []
  gbehindround : mg "behind_round" = some (.ref abehindround)
  fbehind : FunD K "behind" "behind" (defArgs sbehind) (defBody sbehind) (defScope sbehind) [] [("parts", .int 1), ("times", .int 1)] abehind dbehind
  gbehind : mg "behind" = some (.ref abehind)
  fLwell : Fun K "_law_well" "_law_well" sLwell aLwell dLwell
  bLwell : Binds K dLwell ["_law_cell"] []
  gLwell : mg "_law_well" = some (.ref aLwell)
  fLdraw : Fun K "_law_draw" "_law_draw" sLdraw aLdraw dLdraw
  bLdraw : Binds K dLdraw ["_law_well_here", "_law_many"] []
  gLdraw : mg "_law_draw" = some (.ref aLdraw)
  fLcaps : Fun K "_law_caps" "_law_caps" sLcaps aLcaps dLcaps
  bLcaps : Binds K dLcaps ["_law_well_here", "_law_most"] []
  gLcaps : mg "_law_caps" = some (.ref aLcaps)
  fLfacts : Fun K "_law_facts" "_law_facts" sLfacts aLfacts dLfacts
  bLfacts : Binds K dLfacts ["_law_well_here", "_law_caps_here", "_law_many"] []
  gLfacts : mg "_law_facts" = some (.ref aLfacts)
  fLdeed : Fun K "_law_deed" "_law_deed" sLdeed aLdeed dLdeed
  bLdeed : Binds K dLdeed ["_law_fact"] []
  gLdeed : mg "_law_deed" = some (.ref aLdeed)
  fLrow : Fun K "_law_row" "_law_row" sLrow aLrow dLrow
  bLrow : Binds K dLrow ["_law_caps_here", "_law_facts_here"] []
  gLrow : mg "_law_row" = some (.ref aLrow)
  fLamounts : Fun K "_law_amounts" "_law_amounts" sLamounts aLamounts dLamounts
  bLamounts : Binds K dLamounts ["_law_well_here", "_law_caps_here", "_law_portions"] []
  gLamounts : mg "_law_amounts" = some (.ref aLamounts)
  fJarsEq : Fun K "__eq__" "Jars.__eq__" sJarsEq aJarsEq dJarsEq
  bJarsEq : Binds K dJarsEq ["self", "other"] []
  eJarsEq : PySem.W.findIn K (.ref cJars) "__eq__" = some (some (.ref aJarsEq))
  eiJarsEq : PySem.W.isFn K (.ref aJarsEq) = true
  fPourEq : Fun K "__eq__" "Pour.__eq__" sPourEq aPourEq dPourEq
  bPourEq : Binds K dPourEq ["self", "other"] []
  ePourEq : PySem.W.findIn K (.ref cPour) "__eq__" = some (some (.ref aPourEq))
  eiPourEq : PySem.W.isFn K (.ref aPourEq) = true
  fPutEq : Fun K "__eq__" "Put.__eq__" sPutEq aPutEq dPutEq
  bPutEq : Binds K dPutEq ["self", "other"] []
  ePutEq : PySem.W.findIn K (.ref cPut) "__eq__" = some (some (.ref aPutEq))
  eiPutEq : PySem.W.isFn K (.ref aPutEq) = true
  fDrawEq : Fun K "__eq__" "Draw.__eq__" sDrawEq aDrawEq dDrawEq
  bDrawEq : Binds K dDrawEq ["self", "other"] []
  eDrawEq : PySem.W.findIn K (.ref cDraw) "__eq__" = some (some (.ref aDrawEq))
  eiDrawEq : PySem.W.isFn K (.ref aDrawEq) = true
  fChangeEq : Fun K "__eq__" "Change.__eq__" sChangeEq aChangeEq dChangeEq
  bChangeEq : Binds K dChangeEq ["self", "other"] []
  eChangeEq : PySem.W.findIn K (.ref cChange) "__eq__" = some (some (.ref aChangeEq))
  eiChangeEq : PySem.W.isFn K (.ref aChangeEq) = true
  fRowEq : Fun K "__eq__" "Row.__eq__" sRowEq aRowEq dRowEq
  bRowEq : Binds K dRowEq ["self", "other"] []
  eRowEq : PySem.W.findIn K (.ref cRow) "__eq__" = some (some (.ref aRowEq))
  eiRowEq : PySem.W.isFn K (.ref aRowEq) = true
  fLabout : Fun K "_law_about" "_law_about" sLabout aLabout dLabout
  bLabout : Binds K dLabout ["_law_facts_here"] []
  gLabout : mg "_law_about" = some (.ref aLabout)
  fLrooms : Fun K "_law_rooms" "_law_rooms" sLrooms aLrooms dLrooms
  bLrooms : Binds K dLrooms ["_law_caps_here", "_law_amounts_here", "_law_portions"] []
  gLrooms : mg "_law_rooms" = some (.ref aLrooms)
  flaw : Fun K "law" "law" slaw alaw dlaw
  blaw : Binds K dlaw ["_law_script"] []
  glaw : mg "law" = some (.ref alaw)
  mJars : mg "Jars" = some (.ref cJars)
  lJars : Cls K cJars
  kJars : Mk K cJars aJarsInit
  nJars_sizes : NoAttr K cJars "sizes"
  mPour : mg "Pour" = some (.ref cPour)
  lPour : Cls K cPour
  kPour : Mk K cPour aPourInit
  nPour_a : NoAttr K cPour "a"
  nPour_b : NoAttr K cPour "b"
  mPut : mg "Put" = some (.ref cPut)
  lPut : Cls K cPut
  kPut : Mk K cPut aPutInit
  nPut_a : NoAttr K cPut "a"
  nPut_k : NoAttr K cPut "k"
  mDraw : mg "Draw" = some (.ref cDraw)
  lDraw : Cls K cDraw
  kDraw : Mk K cDraw aDrawInit
  nDraw_a : NoAttr K cDraw "a"
  nDraw_k : NoAttr K cDraw "k"
  mChange : mg "Change" = some (.ref cChange)
  lChange : Cls K cChange
  kChange : Mk K cChange aChangeInit
  nChange_a : NoAttr K cChange "a"
  nChange_b : NoAttr K cChange "b"
  mRow : mg "Row" = some (.ref cRow)
  lRow : Cls K cRow
  kRow : Mk K cRow aRowInit
  nRow_jars : NoAttr K cRow "jars"
  nRow_deeds : NoAttr K cRow "deeds"
  neRow : NeCls K cRow aRowEq
  yChange : TyIns K cChange
  yDraw : TyIns K cDraw
  yJars : TyIns K cJars
  yPour : TyIns K cPour
  yPut : TyIns K cPut
  yRow : TyIns K cRow
  iPour_Put : PySem.W.kitOne K (.ref cPour) (.ref cPut) = some false
  iPour_Draw : PySem.W.kitOne K (.ref cPour) (.ref cDraw) = some false
  iPour_Pour : PySem.W.kitOne K (.ref cPour) (.ref cPour) = some true
  iPour_Change : PySem.W.kitOne K (.ref cPour) (.ref cChange) = some false
  iPut_Put : PySem.W.kitOne K (.ref cPut) (.ref cPut) = some true
  iPut_Draw : PySem.W.kitOne K (.ref cPut) (.ref cDraw) = some false
  iPut_Pour : PySem.W.kitOne K (.ref cPut) (.ref cPour) = some false
  iPut_Change : PySem.W.kitOne K (.ref cPut) (.ref cChange) = some false
  iDraw_Put : PySem.W.kitOne K (.ref cDraw) (.ref cPut) = some false
  iDraw_Draw : PySem.W.kitOne K (.ref cDraw) (.ref cDraw) = some true
  iDraw_Pour : PySem.W.kitOne K (.ref cDraw) (.ref cPour) = some false
  iDraw_Change : PySem.W.kitOne K (.ref cDraw) (.ref cChange) = some false
  iChange_Put : PySem.W.kitOne K (.ref cChange) (.ref cPut) = some false
  iChange_Draw : PySem.W.kitOne K (.ref cChange) (.ref cDraw) = some false
  iChange_Pour : PySem.W.kitOne K (.ref cChange) (.ref cPour) = some false
  iChange_Change : PySem.W.kitOne K (.ref cChange) (.ref cChange) = some true
  iJars_Jars : PySem.W.kitOne K (.ref cJars) (.ref cJars) = some true
  iRow_Row : PySem.W.kitOne K (.ref cRow) (.ref cRow) = some true
  cMOSTJARS : mg "MOST_JARS" = some (.int 6 tMOSTJARS)
  cMOSTDEEDS : mg "MOST_DEEDS" = some (.int 20 tMOSTDEEDS)
  cMOSTMUCH : mg "MOST_MUCH" = some (.int 1000000000000 tMOSTMUCH)
  cMOSTTIMES : mg "MOST_TIMES" = some (.int 1000 tMOSTTIMES)
  nabs : mg "abs" = none
  nenumerate : mg "enumerate" = none
  nint : mg "int" = none
  nisinstance : mg "isinstance" = none
  nlen : mg "len" = none
  nlist : mg "list" = none
  nmax : mg "max" = none
  nmin : mg "min" = none
  nrange : mg "range" = none
  ntuple : mg "tuple" = none
  nzip : mg "zip" = none
/-! ### fields -/
theorem put2 {a b : Str} {u v : V} (h : ¬ a = b) : putF b v (putF a u []) = ([(a, u), (b, v)] : List (Str × V)) := by
  show (if a = b then [(a, v)] else (a, u) :: putF b v []) = [(a, u), (b, v)]
  rw [if_neg h]
  rfl
theorem lk1 {a : Str} {x : V} {r : List (Str × V)} : List.lookup a ((a, x) :: r) = some x := by simp [List.lookup]
theorem lk2 {a b : Str} {x y : V} (h : ¬ b = a) : List.lookup b [(a, x), (b, y)] = some y := by
  have : (b == a) = false := by simpa using h
  simp [List.lookup, this]
/-! ### things in the heap -/
section
variable {K : PySem.W.Frag} {mg : Str → Option Value}
def f1s (a : Str) (x : V) : List (Str × V) := [(a, x)]
def f2s (a : Str) (x : V) (b : Str) (y : V) : List (Str × V) := [(a, x), (b, y)]
def DeedAt (T : Tx K mg) (H : Hp) (v : V) (d : D) : Prop := ∃ p dx, v = .ref p ∧ match d with
  | .pour a b => H p = some (.ins T.cPour dx (f2s "a" (.int a) "b" (.int b)))
  | .put a k => H p = some (.ins T.cPut dx (f2s "a" (.int a) "k" (.int k)))
  | .draw a k => H p = some (.ins T.cDraw dx (f2s "a" (.int a) "k" (.int k)))
  | .change a b => H p = some (.ins T.cChange dx (f2s "a" (.int a) "b" (.int b)))
def JarsAt (T : Tx K mg) (H : Hp) (p : Addr) (caps : List Int) : Prop := ∃ dx t, H p = some (.ins T.cJars dx (f1s "sizes" (.ref t))) ∧ H t = some (.tup (vi caps))
def RowAt (T : Tx K mg) (H : Hp) (r : Addr) (caps : List Int) (ds : List D) : Prop := ∃ dx j t vs, H r = some (.ins T.cRow dx (f2s "jars" (.ref j) "deeds" (.ref t))) ∧ JarsAt T H j caps ∧ H t = some (.tup vs) ∧ A2 (DeedAt T H) vs ds
theorem DeedAt.same {T : Tx K mg} {H H' : Hp} {v : V} {d : D} (e : Same H H') (h : DeedAt T H v d) : DeedAt T H' v d := by
  obtain ⟨p, dx, rfl, h⟩ := h
  refine ⟨p, dx, rfl, ?_⟩
  cases d <;> exact e _ _ h
theorem JarsAt.same {T : Tx K mg} {H H' : Hp} {p : Addr} {caps : List Int} (e : Same H H') (h : JarsAt T H p caps) : JarsAt T H' p caps := by
  obtain ⟨dx, t, h1, h2⟩ := h
  exact ⟨dx, t, e _ _ h1, e _ _ h2⟩
theorem RowAt.same {T : Tx K mg} {H H' : Hp} {p : Addr} {caps : List Int} {ds : List D} (e : Same H H') (h : RowAt T H p caps ds) : RowAt T H' p caps ds := by
  obtain ⟨dx, j, t, vs, h1, h2, h3, h4⟩ := h
  exact ⟨dx, j, t, vs, e _ _ h1, h2.same e, e _ _ h3, A2.mono (fun _ _ q => q.same e) h4⟩
/-- a list, or an instance without fields: what a def may change -/
def Blank (o : HO) : Prop := (∃ ws, o = .lst ws) ∨ ∃ C dx, o = .ins C dx []
theorem bl_l {ws : List V} : Blank (.lst ws) := .inl ⟨ws, rfl⟩
theorem bl_i {C dx : Addr} : Blank (.ins C dx []) := .inr ⟨C, dx, rfl⟩
theorem nb1 {C dx : Addr} {a : Str} {x : V} : ¬ Blank (.ins C dx (f1s a x)) := by
  rintro (⟨_, z⟩ | ⟨_, _, z⟩)
  · cases z
  · injection z with _ _ z
    cases z
theorem nb2 {C dx : Addr} {a b : Str} {x y : V} : ¬ Blank (.ins C dx (f2s a x b y)) := by
  rintro (⟨_, z⟩ | ⟨_, _, z⟩)
  · cases z
  · injection z with _ _ z
    cases z
theorem nbT {xs : List V} : ¬ Blank (.tup xs) := by
  rintro (⟨_, z⟩ | ⟨_, _, z⟩) <;> cases z
/-- all but one thing at w stays: what is no list stays -/
theorem fr_no {w : Addr} {H H' : Hp} {u : HO} {b : Addr} {o : HO} (e : Fr w H H') (hw : H w = some u) (hb : Blank u) (h : H b = some o) (n : ¬ Blank o) : H' b = some o :=
  e b o (fun z => by rw [z, hw] at h; cases h; exact n hb) h
theorem DeedAt.fr {T : Tx K mg} {w : Addr} {H H' : Hp} {u : HO} {v : V} {d : D} (e : Fr w H H') (hw : H w = some u) (hb : Blank u) (h : DeedAt T H v d) : DeedAt T H' v d := by
  obtain ⟨p, dx, rfl, h⟩ := h
  refine ⟨p, dx, rfl, ?_⟩
  cases d <;> exact fr_no e hw hb h nb2
theorem JarsAt.fr {T : Tx K mg} {w : Addr} {H H' : Hp} {u : HO} {p : Addr} {caps : List Int} (e : Fr w H H') (hw : H w = some u) (hb : Blank u) (h : JarsAt T H p caps) : JarsAt T H' p caps := by
  obtain ⟨dx, t, h1, h2⟩ := h
  exact ⟨dx, t, fr_no e hw hb h1 nb1, fr_no e hw hb h2 nbT⟩
theorem RowAt.fr {T : Tx K mg} {w : Addr} {H H' : Hp} {u : HO} {p : Addr} {caps : List Int} {ds : List D} (e : Fr w H H') (hw : H w = some u) (hb : Blank u) (h : RowAt T H p caps ds) : RowAt T H' p caps ds := by
  obtain ⟨dx, j, t, vs, h1, h2, h3, h4⟩ := h
  exact ⟨dx, j, t, vs, fr_no e hw hb h1 nb2, h2.fr e hw hb, fr_no e hw hb h3 nbT, A2.mono (fun _ _ q => q.fr e hw hb) h4⟩
/-! ### the promises of the program's defs -/
def spcheckmuch (T : Tx K mg) : Sp := fun vs H Q _ => ∃ (x : Str) (n : Int), vs = [.str x, .int n] ∧ 1 ≤ n ∧ n ≤ 1000000000000 ∧ Q .non H
def spcheckjar (T : Tx K mg) : Sp := fun vs H Q _ => ∃ (j : Addr) (caps : List Int) (i : Nat), vs = [.ref j, .int i] ∧ JarsAt T H j caps ∧ i < caps.length ∧ Q .non H
def spcheckdeed (T : Tx K mg) : Sp := fun vs H Q _ => ∃ (j : Addr) (caps : List Int) (v : V) (d : D), vs = [.ref j, v] ∧ JarsAt T H j caps ∧ DeedAt T H v d ∧ d.ok caps ∧ Q .non H
def spJarsInit (T : Tx K mg) : Sp := fun vs H Q _ => ∃ (p dx a : Addr) (caps : List Int), vs = [.ref p, .ref a] ∧ H p = some (.ins T.cJars dx []) ∧ SqL K H a (vi caps) ∧ Caps caps ∧
  ∀ H', JarsAt T H' p caps → Fr p H H' → Q .non H'
/-- an __init__ that stores two ints -/
def spTwo (C : Addr) (f g : Str) : Sp := fun vs H Q _ => ∃ (p dx : Addr) (u v : V), vs = [.ref p, u, v] ∧ H p = some (.ins C dx []) ∧ ∀ H', H' p = some (.ins C dx (f2s f u g v)) → Fr p H H' → Q .non H'
def spPourInit (T : Tx K mg) : Sp := spTwo T.cPour "a" "b"
def spPutInit (T : Tx K mg) : Sp := spTwo T.cPut "a" "k"
def spDrawInit (T : Tx K mg) : Sp := spTwo T.cDraw "a" "k"
def spChangeInit (T : Tx K mg) : Sp := spTwo T.cChange "a" "b"
def spRowInit (T : Tx K mg) : Sp := fun vs H Q _ => ∃ (p dx j a : Addr) (caps : List Int) (us : List V) (ds : List D), vs = [.ref p, .ref j, .ref a] ∧ H p = some (.ins T.cRow dx []) ∧ JarsAt T H j caps ∧ H a = some (.lst us) ∧ A2 (DeedAt T H) us ds ∧
  ds.length ≤ 20 ∧ (∀ d ∈ ds, d.ok caps) ∧ ∀ H', RowAt T H' p caps ds → Fr p H H' → Q .non H'
def spcheckstart (T : Tx K mg) : Sp := fun vs H Q _ => ∃ (j a : Addr) (caps st : List Int) (p : Int), vs = [.ref j, .ref a, .int p] ∧ JarsAt T H j caps ∧ SqL K H a (vi st) ∧ 1 ≤ p ∧ p < 2 ^ 62 ∧ Stand caps p st ∧
  ∀ H', Same H H' → Q .non H'
def spbehinddeed (T : Tx K mg) : Sp := fun vs H Q _ => ∃ (j a : Addr) (v : V) (d : D) (caps st : List Int) (p : Int), vs = [.ref j, v, .ref a, .int p] ∧ JarsAt T H j caps ∧ DeedAt T H v d ∧ d.ok caps ∧ SqL K H a (vi st) ∧ 1 ≤ p ∧ p < 2 ^ 62 ∧ st.length = caps.length ∧
  ∀ (H' : Hp) (q : Addr), H q = none → H' q = some (.lst (vi (d.act caps p st))) → Same H H' → Q (.ref q) H'
def spbehindround (T : Tx K mg) : Sp := fun vs H Q _ => ∃ (r a : Addr) (ds : List D) (caps st : List Int) (p : Int), vs = [.ref r, .ref a, .int p] ∧ RowAt T H r caps ds ∧ (∀ d ∈ ds, d.ok caps) ∧ SqL K H a (vi st) ∧ 1 ≤ p ∧ p < 2 ^ 62 ∧ st.length = caps.length ∧
  ∀ (H' : Hp) (q : Addr), H q = none → H' q = some (.lst (vi (run caps p ds st))) → Same H H' → Q (.ref q) H'
def spbehind (T : Tx K mg) : Sp := fun vs H Q _ => ∃ (r a : Addr) (ds : List D) (caps st : List Int) (p : Int) (n : Nat), vs = [.ref r, .ref a, .int p, .int n] ∧ RowAt T H r caps ds ∧ (∀ d ∈ ds, d.ok caps) ∧ SqL K H a (vi st) ∧ 1 ≤ p ∧ p < 2 ^ 62 ∧ n ≤ 1000 ∧ Stand caps p st ∧
  ∀ (H' : Hp) (q : Addr), H q = none → H' q = some (.lst (vi (runs caps p ds n st))) → Same H H' → Q (.ref q) H'
end
section
variable {P : Program} {w : World} {K : PySem.W.Frag} {mg : Str → Option Value} {base : Heap}
/-! ### the program's bodies -/
theorem okcheckmuch (T : Tx K mg) : FnOk P w K mg base CX0 1 T.acheckmuch T.dcheckmuch ["what", "much"] (spcheckmuch T) := by
  refine T.fcheckmuch.ok sccheckmuch (fun vs H Q E h => ?_) (fun cdv A outer s H vs Q E hr h => ?_)
  · obtain ⟨x, n, rfl, _⟩ := h
    rfl
  · obtain ⟨x, n, rfl, h1, h2, hq⟩ := h
    refine ⟨_, (pss_one (ps_if (pt_not (pt_chain op_le op_le pe_int (pv 1) (pe_glob (v := .int 1000000000000) rfl T.cMOSTMUCH ⟨_, rfl⟩))) (pss_one ps_never) pss_nil)), ?_⟩
    refine ⟨_, rfl, _, _, rfl, rfl, _, rfl, ifT (decide_eq_true h1) ?_⟩
    exact ⟨_, _, rfl, rfl, _, rfl, iteNS h2 hq⟩
theorem okcheckjar (T : Tx K mg) : FnOk P w K mg base CX0 1 T.acheckjar T.dcheckjar ["jars", "jar"] (spcheckjar T) := by
  refine T.fcheckjar.ok sccheckjar (fun vs H Q E h => ?_) (fun cdv A outer s H vs Q E hr h => ?_)
  · obtain ⟨j, caps, i, rfl, _⟩ := h
    rfl
  · obtain ⟨j, caps, i, rfl, ⟨dx, t, e1, e2⟩, hi, hq⟩ := h
    refine ⟨_, (pss_one (ps_if (pt_not (pt_chain op_le op_lt pe_int (pv 1) (pe_callB call_len_seq rfl T.nlen PySem.boot_len (pa_cons (pe_fld (pv 0) rfl) pa_nil)))) (pss_one ps_never) pss_nil)), ?_⟩
    refine ⟨_, rfl, _, _, rfl, rfl, _, rfl, ifT (decide_eq_true (by omega)) ?_⟩
    refine ⟨_, rfl, j, _, dx, _, _, rfl, e1, T.lJars, T.nJars_sizes, lk1, t, _, rfl, .inr (SqT.of e2), _, _, rfl, rfl, _, rfl, iteNS (by rw [List.length_map]; omega) hq⟩
theorem okPourInit (T : Tx K mg) : FnOk P w K mg base CX0 1 T.aPourInit T.dPourInit ["self", "a", "b"] (spPourInit T) := by
  refine T.fPourInit.ok scPourInit (fun vs H Q E h => ?_) (fun cdv A outer s H vs Q E hr h => ?_)
  · obtain ⟨p, dx, u, v, rfl, _⟩ := h
    rfl
  · obtain ⟨p, dx, u, v, rfl, hp, hq⟩ := h
    refine ⟨_, (pss_cons (ps_fld (pv 0) (pv 1) rfl)
      (pss_one (ps_fld (pv 0) (pv 2) rfl))), ?_⟩
    refine ⟨_, rfl, _, rfl, p, _, dx, _, rfl, hp, T.lPour, T.nPour_a, (by show 0 < 1000; decide), ?_⟩
    refine ⟨_, rfl, _, rfl, p, _, dx, _, rfl, upd_same, T.lPour, T.nPour_b, (by show 1 < 1000; decide), ?_⟩
    refine hq _ ?_ (fr_mut (fr_mut (Fr.refl _ _)))
    rw [upd_same, put2 (by decide +kernel)]
    rfl
theorem okPutInit (T : Tx K mg) : FnOk P w K mg base CX0 1 T.aPutInit T.dPutInit ["self", "a", "k"] (spPutInit T) := by
  refine T.fPutInit.ok scPutInit (fun vs H Q E h => ?_) (fun cdv A outer s H vs Q E hr h => ?_)
  · obtain ⟨p, dx, u, v, rfl, _⟩ := h
    rfl
  · obtain ⟨p, dx, u, v, rfl, hp, hq⟩ := h
    refine ⟨_, (pss_cons (ps_fld (pv 0) (pv 1) rfl)
      (pss_one (ps_fld (pv 0) (pv 2) rfl))), ?_⟩
    refine ⟨_, rfl, _, rfl, p, _, dx, _, rfl, hp, T.lPut, T.nPut_a, (by show 0 < 1000; decide), ?_⟩
    refine ⟨_, rfl, _, rfl, p, _, dx, _, rfl, upd_same, T.lPut, T.nPut_k, (by show 1 < 1000; decide), ?_⟩
    refine hq _ ?_ (fr_mut (fr_mut (Fr.refl _ _)))
    rw [upd_same, put2 (by decide +kernel)]
    rfl
theorem okDrawInit (T : Tx K mg) : FnOk P w K mg base CX0 1 T.aDrawInit T.dDrawInit ["self", "a", "k"] (spDrawInit T) := by
  refine T.fDrawInit.ok scDrawInit (fun vs H Q E h => ?_) (fun cdv A outer s H vs Q E hr h => ?_)
  · obtain ⟨p, dx, u, v, rfl, _⟩ := h
    rfl
  · obtain ⟨p, dx, u, v, rfl, hp, hq⟩ := h
    refine ⟨_, (pss_cons (ps_fld (pv 0) (pv 1) rfl)
      (pss_one (ps_fld (pv 0) (pv 2) rfl))), ?_⟩
    refine ⟨_, rfl, _, rfl, p, _, dx, _, rfl, hp, T.lDraw, T.nDraw_a, (by show 0 < 1000; decide), ?_⟩
    refine ⟨_, rfl, _, rfl, p, _, dx, _, rfl, upd_same, T.lDraw, T.nDraw_k, (by show 1 < 1000; decide), ?_⟩
    refine hq _ ?_ (fr_mut (fr_mut (Fr.refl _ _)))
    rw [upd_same, put2 (by decide +kernel)]
    rfl
theorem okChangeInit (T : Tx K mg) : FnOk P w K mg base CX0 1 T.aChangeInit T.dChangeInit ["self", "a", "b"] (spChangeInit T) := by
  refine T.fChangeInit.ok scChangeInit (fun vs H Q E h => ?_) (fun cdv A outer s H vs Q E hr h => ?_)
  · obtain ⟨p, dx, u, v, rfl, _⟩ := h
    rfl
  · obtain ⟨p, dx, u, v, rfl, hp, hq⟩ := h
    refine ⟨_, (pss_cons (ps_fld (pv 0) (pv 1) rfl)
      (pss_one (ps_fld (pv 0) (pv 2) rfl))), ?_⟩
    refine ⟨_, rfl, _, rfl, p, _, dx, _, rfl, hp, T.lChange, T.nChange_a, (by show 0 < 1000; decide), ?_⟩
    refine ⟨_, rfl, _, rfl, p, _, dx, _, rfl, upd_same, T.lChange, T.nChange_b, (by show 1 < 1000; decide), ?_⟩
    refine hq _ ?_ (fr_mut (fr_mut (Fr.refl _ _)))
    rw [upd_same, put2 (by decide +kernel)]
    rfl
end
end Kp

namespace Kp
open PySem PySem.Spec PyProof.Rows L2 KpR
section
variable {P : Program} {w : World} {K : PySem.W.Frag} {mg : Str → Option Value} {base : Heap}
/-! ### isinstance of a deed -/
def D.cls (T : Tx K mg) : D → Addr
  | .pour _ _ => T.cPour
  | .put _ _ => T.cPut
  | .draw _ _ => T.cDraw
  | .change _ _ => T.cChange
def D.fst : D → Nat
  | .pour a _ => a
  | .put a _ => a
  | .draw a _ => a
  | .change a _ => a
def D.fs : D → List (Str × V)
  | .pour a b => f2s "a" (.int a) "b" (.int b)
  | .put a k => f2s "a" (.int a) "k" (.int k)
  | .draw a k => f2s "a" (.int a) "k" (.int k)
  | .change a b => f2s "a" (.int a) "b" (.int b)
theorem deed_at {T : Tx K mg} {H : Hp} {v : V} {d : D} (h : DeedAt T H v d) : ∃ p dx, v = .ref p ∧ H p = some (.ins (d.cls T) dx d.fs) := by
  obtain ⟨p, dx, rfl, h⟩ := h
  cases d <;> exact ⟨p, dx, rfl, h⟩
theorem cls_cls (T : Tx K mg) (d : D) : Cls K (d.cls T) := by
  cases d
  · exact T.lPour
  · exact T.lPut
  · exact T.lDraw
  · exact T.lChange
theorem no_a (T : Tx K mg) (d : D) : NoAttr K (d.cls T) "a" := by
  cases d
  · exact T.nPour_a
  · exact T.nPut_a
  · exact T.nDraw_a
  · exact T.nChange_a
theorem fs_a (d : D) : d.fs.lookup ("a" : Str) = some (.int d.fst) := by
  cases d <;> exact lk1
theorem ty_deed {T : Tx K mg} {H : Hp} {p dx : Addr} {d : D} (h : H p = some (.ins (d.cls T) dx d.fs)) : TyX K H (.ref p) (.ref (d.cls T)) := by
  refine .base ?_
  cases d
  · exact .ins h T.lPour T.yPour.ha T.yPour.hn T.yPour.ht T.yPour.hm
  · exact .ins h T.lPut T.yPut.ha T.yPut.hn T.yPut.ht T.yPut.hm
  · exact .ins h T.lDraw T.yDraw.ha T.yDraw.hn T.yDraw.ht T.yDraw.hm
  · exact .ins h T.lChange T.yChange.ha T.yChange.hn T.yChange.ht T.yChange.hm
def D.isPut : D → Bool
  | .put _ _ => true
  | _ => false
def D.isDraw : D → Bool
  | .draw _ _ => true
  | _ => false
def D.isPour : D → Bool
  | .pour _ _ => true
  | _ => false
def D.isChange : D → Bool
  | .change _ _ => true
  | _ => false
theorem is_put (T : Tx K mg) (d : D) : PySem.W.kitOne K (.ref (d.cls T)) (.ref T.cPut) = some d.isPut := by
  cases d
  · exact T.iPour_Put
  · exact T.iPut_Put
  · exact T.iDraw_Put
  · exact T.iChange_Put
theorem is_draw (T : Tx K mg) (d : D) : PySem.W.kitOne K (.ref (d.cls T)) (.ref T.cDraw) = some d.isDraw := by
  cases d
  · exact T.iPour_Draw
  · exact T.iPut_Draw
  · exact T.iDraw_Draw
  · exact T.iChange_Draw
theorem is_pour (T : Tx K mg) (d : D) : PySem.W.kitOne K (.ref (d.cls T)) (.ref T.cPour) = some d.isPour := by
  cases d
  · exact T.iPour_Pour
  · exact T.iPut_Pour
  · exact T.iDraw_Pour
  · exact T.iChange_Pour
theorem is_change (T : Tx K mg) (d : D) : PySem.W.kitOne K (.ref (d.cls T)) (.ref T.cChange) = some d.isChange := by
  cases d
  · exact T.iPour_Change
  · exact T.iPut_Change
  · exact T.iDraw_Change
  · exact T.iChange_Change
theorem okcheckdeed (T : Tx K mg) : FnOk P w K mg base CX0 2 T.acheckdeed T.dcheckdeed ["jars", "deed"] (spcheckdeed T) := by
  refine T.fcheckdeed.ok sccheckdeed (fun vs H Q E h => ?_) (fun cdv A outer s H vs Q E hr h => ?_)
  · obtain ⟨j, caps, v, d, rfl, _⟩ := h
    rfl
  · obtain ⟨j, caps, v, d, rfl, hJ, hD, ok, hq⟩ := h
    refine ⟨_, (pss_cons (ps_expr (pe_call (okcheckjar T) (hr.mono (by decide)) rfl T.gcheckjar T.fcheckjar.kp T.bcheckjar .nil pass0 (pa_cons (pv 0) (pa_cons (pe_fld (pv 1) rfl) pa_nil))))
      (pss_cons (ps_if (PW.pt (pw_or (pt_val (pe_callB call_isi rfl T.nisinstance (by decide +kernel) (pa_cons (pv 1) (pa_cons (pe_glob (v := .ref T.cPut) rfl T.mPut rfl) pa_nil)))) (pw_or1 (pt_val (pe_callB call_isi rfl T.nisinstance (by decide +kernel) (pa_cons (pv 1) (pa_cons (pe_glob (v := .ref T.cDraw) rfl T.mDraw rfl) pa_nil))))))) (pss_cons (ps_expr (pe_call (okcheckmuch T) (hr.mono (by decide)) rfl T.gcheckmuch T.fcheckmuch.kp T.bcheckmuch .nil pass0 (pa_cons pe_str (pa_cons (pe_fld (pv 1) rfl) pa_nil))))
      (pss_one ps_retN)) pss_nil)
      (pss_cons (ps_expr (pe_call (okcheckjar T) (hr.mono (by decide)) rfl T.gcheckjar T.fcheckjar.kp T.bcheckjar .nil pass0 (pa_cons (pv 0) (pa_cons (pe_fld (pv 1) rfl) pa_nil))))
      (pss_cons (ps_if (pt_cmpR op_eq (pe_fld (pv 1) rfl) (pe_fld (pv 1) rfl) (nomark _)) (pss_one ps_never) pss_nil)
      (pss_one (ps_if (PW.pt (pw_and (pt_val (pe_callB call_isi rfl T.nisinstance (by decide +kernel) (pa_cons (pv 1) (pa_cons (pe_glob (v := .ref T.cChange) rfl T.mChange rfl) pa_nil)))) (pw_and1 (pt_cmpR op_ne (pe_ix (r := rIxT K) ix_tup (pe_fld (pv 0) rfl) (pe_fld (pv 1) rfl) (fun _ _ => rfl)) (pe_ix (r := rIxT K) ix_tup (pe_fld (pv 0) rfl) (pe_fld (pv 1) rfl) (fun _ _ => rfl)) (nomark _))))) (pss_one ps_never) pss_nil)))))), ?_⟩
    obtain ⟨p, dx, rfl, hp⟩ := deed_at hD
    have ty := ty_deed hp
    have ha : d.fst < caps.length := by cases d <;> exact ok.1
    refine ⟨_, rfl, _, rfl, p, _, dx, _, _, rfl, hp, cls_cls T d, no_a T d, fs_a d, j, caps, d.fst, rfl, hJ, ha, ?_⟩
    obtain ⟨jx, t, e1, e2⟩ := hJ
    refine ⟨_, rfl, .ref p, .ref T.cPut, _, _, _, rfl, .own _, ty, is_put T d, _, rfl, ?_⟩
    cases d with
    | put a k =>
      refine ifT rfl (ifT rfl ?_)
      exact ⟨_, rfl, p, _, dx, _, _, rfl, hp, T.lPut, T.nPut_k, lk2 (by decide +kernel), "much", k, rfl, ok.2.1, ok.2.2, hq⟩
    | draw a k =>
      refine ifF rfl ⟨_, rfl, .ref p, .ref T.cDraw, _, _, _, rfl, .own _, ty, T.iDraw_Draw, _, rfl, ifT rfl ?_⟩
      exact ⟨_, rfl, p, _, dx, _, _, rfl, hp, T.lDraw, T.nDraw_k, lk2 (by decide +kernel), "much", k, rfl, ok.2.1, ok.2.2, hq⟩
    | pour a b =>
      refine ifF rfl ⟨_, rfl, .ref p, .ref T.cDraw, _, _, _, rfl, .own _, ty, T.iPour_Draw, _, rfl, ifF rfl ?_⟩
      refine ⟨_, rfl, _, rfl, p, _, dx, _, _, rfl, hp, T.lPour, T.nPour_b, lk2 (by decide +kernel), j, caps, b, rfl, ⟨jx, t, e1, e2⟩, ok.2.1, ?_⟩
      refine ⟨_, rfl, p, _, dx, _, _, rfl, hp, T.lPour, T.nPour_a, lk1, _, rfl, p, _, dx, _, _, rfl, hp, T.lPour, T.nPour_b, lk2 (by decide +kernel), rfl, _, rfl, ifF (decide_eq_false fun z => ok.2.2 (by injection z with z; omega)) ?_⟩
      exact ⟨_, rfl, .ref p, .ref T.cChange, _, _, _, rfl, .own _, ty, T.iPour_Change, _, rfl, ifF rfl (ifF rfl hq)⟩
    | change a b =>
      refine ifF rfl ⟨_, rfl, .ref p, .ref T.cDraw, _, _, _, rfl, .own _, ty, T.iChange_Draw, _, rfl, ifF rfl ?_⟩
      refine ⟨_, rfl, _, rfl, p, _, dx, _, _, rfl, hp, T.lChange, T.nChange_b, lk2 (by decide +kernel), j, caps, b, rfl, ⟨jx, t, e1, e2⟩, ok.2.1, ?_⟩
      refine ⟨_, rfl, p, _, dx, _, _, rfl, hp, T.lChange, T.nChange_a, lk1, _, rfl, p, _, dx, _, _, rfl, hp, T.lChange, T.nChange_b, lk2 (by decide +kernel), rfl, _, rfl, ifF (decide_eq_false fun z => ok.2.2.1 (by injection z with z; omega)) ?_⟩
      refine ⟨_, rfl, .ref p, .ref T.cChange, _, _, _, rfl, .own _, ty, T.iChange_Change, _, rfl, ifT rfl ?_⟩
      refine ⟨_, rfl, j, _, jx, _, _, rfl, e1, T.lJars, T.nJars_sizes, lk1, _, rfl, p, _, dx, _, _, rfl, hp, T.lChange, T.nChange_a, lk1, t, _, _, _, rfl, rfl, SqT.of e2, vi_at ok.1, ?_⟩
      refine ⟨_, rfl, j, _, jx, _, _, rfl, e1, T.lJars, T.nJars_sizes, lk1, _, rfl, p, _, dx, _, _, rfl, hp, T.lChange, T.nChange_b, lk2 (by decide +kernel), t, _, _, _, rfl, rfl, SqT.of e2, vi_at ok.2.1, ?_⟩
      exact ⟨rfl, _, rfl, iteNS (congrArg V.int ok.2.2.2) hq⟩
theorem okJarsInit (T : Tx K mg) : FnOk P w K mg base CX0 2 T.aJarsInit T.dJarsInit ["self", "sizes"] (spJarsInit T) := by
  refine T.fJarsInit.ok scJarsInit (fun vs H Q E h => ?_) (fun cdv A outer s H vs Q E hr h => ?_)
  · obtain ⟨p, dx, a, caps, rfl, _⟩ := h
    rfl
  · obtain ⟨p, dx, a, caps, rfl, hp, hS, hC, hq⟩ := h
    have c1 := hC.l1
    have c6 := hC.l6
    refine ⟨_, (pss_cons (ps_if (pt_not (pt_chain op_le op_le pe_int (pe_callB call_len_seq rfl T.nlen PySem.boot_len (pa_cons (pv 1) pa_nil)) (pe_glob (v := .int 6) rfl T.cMOSTJARS ⟨_, rfl⟩))) (pss_one ps_never) pss_nil)
      (pss_cons (ps_for PassesOwn.never rfl (pi_list (pv 1)) (pg_name (i := 2) scJarsInit.nd rfl (by first | exact Or.inl rfl | exact Or.inr rfl)) (pss_one (ps_expr (pe_call (okcheckmuch T) (hr.mono (by decide)) rfl T.gcheckmuch T.fcheckmuch.kp T.bcheckmuch .nil pass0 (pa_cons pe_str (pa_cons (pv 2) pa_nil))))))
      (pss_one (ps_fld (pv 0) (pe_callTy call_tuple_of rfl T.ntuple (by decide +kernel) (pa_cons (pv 1) pa_nil)) rfl)))), ?_⟩
    refine ⟨_, rfl, a, _, rfl, .inl hS, 1, _, rfl, rfl, _, rfl, ifT (decide_eq_true (by rw [List.length_map]; omega)) ?_⟩
    refine ⟨_, _, rfl, rfl, _, rfl, iteNS (by rw [List.length_map]; omega) ?_⟩
    refine ⟨_, rfl, a, rfl, ⟨_, hS⟩, for_list (K := K) (a := a) (xs := vi caps) (fun i σ H' => ∃ v : Option V, σ = [some (.ref p), some (.ref a), v] ∧ H' = H) ⟨none, rfl, rfl⟩ (fun i σ H' _ ⟨_, _, e⟩ => by rw [e]; exact hS) ?_ ?_⟩
    · rintro i y σ H' hi ⟨v, rfl, rfl⟩
      obtain ⟨z, hz, rfl⟩ := vi_get hi
      have lt : i < caps.length := (List.getElem?_eq_some_iff.mp hz).1
      have ez := at0_of hz
      refine ⟨_, rfl, "size", z, rfl, ?_, ?_, some (.int z), rfl, rfl⟩
      · rw [← ez]; exact hC.lo i lt
      · rw [← ez]; exact hC.hi i lt
    · rintro σ H' ⟨v, rfl, rfl⟩
      refine ⟨_, rfl, a, _, rfl, .inl ⟨hS, fun t ht => ?_⟩⟩
      have n : p ≠ t := ne_of_none hp ht
      refine ⟨_, rfl, p, _, dx, _, rfl, (by rw [upd_ne n]; exact hp), T.lJars, T.nJars_sizes, (by show 0 < 1000; decide), ?_⟩
      refine hq _ ⟨dx, t, upd_same, by rw [upd_ne n.symm]; exact upd_same⟩ (fr_mut (fr_new (Fr.refl _ _) ht))
theorem okRowInit (T : Tx K mg) : FnOk P w K mg base CX0 3 T.aRowInit T.dRowInit ["self", "jars", "deeds"] (spRowInit T) := by
  refine T.fRowInit.ok scRowInit (fun vs H Q E h => ?_) (fun cdv A outer s H vs Q E hr h => ?_)
  · obtain ⟨p, dx, j, a, caps, us, ds, rfl, _⟩ := h
    rfl
  · obtain ⟨p, dx, j, a, caps, us, ds, rfl, hp, hJ, hS, hA, hl, ok, hq⟩ := h
    refine ⟨_, (pss_cons (ps_if (pt_cmpR op_gt (pe_callB call_len_seq rfl T.nlen PySem.boot_len (pa_cons (pv 2) pa_nil)) (pe_glob (v := .int 20) rfl T.cMOSTDEEDS ⟨_, rfl⟩) (nomark _)) (pss_one ps_never) pss_nil)
      (pss_cons (ps_for PassesOwn.never rfl (pi_list (pv 2)) (pg_name (i := 3) scRowInit.nd rfl (by first | exact Or.inl rfl | exact Or.inr rfl)) (pss_one (ps_expr (pe_call (okcheckdeed T) (hr.mono (by decide)) rfl T.gcheckdeed T.fcheckdeed.kp T.bcheckdeed .nil pass0 (pa_cons (pv 1) (pa_cons (pv 3) pa_nil))))))
      (pss_cons (ps_fld (pv 0) (pv 1) rfl)
      (pss_one (ps_fld (pv 0) (pe_callTy call_tuple_of rfl T.ntuple (by decide +kernel) (pa_cons (pv 2) pa_nil)) rfl))))), ?_⟩
    refine ⟨_, rfl, a, _, rfl, .inl (SqL.of hS), _, _, rfl, rfl, _, rfl, ifF (decide_eq_false (by rw [hA.len]; omega)) ?_⟩
    refine ⟨_, rfl, a, rfl, ⟨_, SqL.of hS⟩, for_list (K := K) (a := a) (xs := us) (fun i σ H' => ∃ v : Option V, σ = [some (.ref p), some (.ref j), some (.ref a), v] ∧ H' = H) ⟨none, rfl, rfl⟩ (fun i σ H' _ ⟨_, _, e⟩ => by rw [e]; exact SqL.of hS) ?_ ?_⟩
    · rintro i y σ H' hi ⟨v, rfl, rfl⟩
      obtain ⟨d, hd, hv⟩ := hA.get hi
      exact ⟨_, rfl, _, rfl, j, caps, y, d, rfl, hJ, hv, ok d (List.mem_of_getElem? hd), some y, rfl, rfl⟩
    · rintro σ H' ⟨v, rfl, rfl⟩
      refine ⟨_, rfl, _, rfl, p, _, dx, _, rfl, hp, T.lRow, T.nRow_jars, (by show 0 < 1000; decide), ?_⟩
      have f1 : Fr p H' (upd H' p (.ins T.cRow dx (putF "jars" (.ref j) []))) := fr_mut (Fr.refl _ _)
      have na : a ≠ p := ne_of hS hp (by intro z; cases z)
      refine ⟨_, rfl, a, _, rfl, .inl ⟨f1.sqL na (SqL.of hS), fun t ht => ?_⟩⟩
      have n : p ≠ t := fun z => by rw [← z, upd_same] at ht; cases ht
      have ht0 : H' t = none := fr_free f1 n.symm ht
      refine ⟨_, rfl, p, _, dx, _, rfl, (by rw [upd_ne n]; exact upd_same), T.lRow, T.nRow_deeds, (by show 1 < 1000; decide), ?_⟩
      have fr : Fr p H' (upd (upd (upd H' p (.ins T.cRow dx (putF "jars" (.ref j) []))) t (.tup us)) p (.ins T.cRow dx (putF "deeds" (.ref t) (putF "jars" (.ref j) [])))) := fr_mut (fr_new f1 ht0)
      refine hq _ ⟨dx, j, t, us, ?_, ?_, ?_, ?_⟩ fr
      · rw [upd_same, put2 (by decide +kernel)]
        rfl
      · exact hJ.fr fr hp bl_i
      · rw [upd_ne n.symm]; exact upd_same
      · exact A2.mono (fun _ _ q => q.fr fr hp bl_i) hA
end
end Kp

namespace Kp
open PySem PySem.Spec PyProof.Rows L2 KpR
section
variable {P : Program} {w : World} {K : PySem.W.Frag} {mg : Str → Option Value} {base : Heap}
theorem mulP {p : Int} (h1 : 1 ≤ p) (h2 : p < 2 ^ 62) : -(2 ^ 64) < p ∧ p < 2 ^ 64 := ⟨by omega, by omega⟩
theorem vi_set {l : List Int} {i : Nat} {z : Int} : (vi l).set i (.int z) = vi (l.set i z) := (List.map_set ..).symm
theorem ixN_nat {n i : Nat} (h : i < n) : ixN n (i : Int) = some i := by
  have e : atI (List.range n) (i : Int) = some i := atI_nat (by simp [h])
  unfold atI at e
  cases z : ixN (List.range n).length (i : Int) with
  | none => rw [z] at e; cases e
  | some j =>
    rw [z] at e
    have e2 : (List.range n)[j]? = some i := e
    have hj := (List.getElem?_eq_some_iff.mp e2).2
    rw [List.getElem_range] at hj
    subst hj
    simpa using z
theorem ixN_last {n : Nat} : ixN (n + 1) (-1) = some n := by
  have e : atI (List.range n ++ [n]) (-1) = some n := atI_last _ _
  unfold atI at e
  have hl : (List.range n ++ [n]).length = n + 1 := by simp
  rw [hl] at e
  cases z : ixN (n + 1) (-1) with
  | none => rw [z] at e; cases e
  | some j =>
    rw [z, ← List.range_succ] at e
    have e2 : (List.range (n + 1))[j]? = some n := e
    have hj := (List.getElem?_eq_some_iff.mp e2).2
    rw [List.getElem_range] at hj
    exact congrArg some hj
theorem okcheckstart (T : Tx K mg) : FnOk P w K mg base CX0 1 T.acheckstart T.dcheckstart ["jars", "start", "parts"] (spcheckstart T) := by
  refine T.fcheckstart.ok sccheckstart (fun vs H Q E h => ?_) (fun cdv A outer s H vs Q E hr h => ?_)
  · obtain ⟨j, a, caps, st, p, rfl, _⟩ := h
    rfl
  · obtain ⟨j, a, caps, st, p, rfl, hJ, hS, p1, p2, hst, hq⟩ := h
    refine ⟨_, (pss_cons (ps_if (pt_cmpR op_lt (pv 2) pe_int (nomark _)) (pss_one ps_never) pss_nil)
      (pss_cons (ps_if (pt_cmpR op_ne (pe_callB call_len_seq rfl T.nlen PySem.boot_len (pa_cons (pv 1) pa_nil)) (pe_callB call_len_seq rfl T.nlen PySem.boot_len (pa_cons (pe_fld (pv 0) rfl) pa_nil)) (nomark _)) (pss_one ps_never) pss_nil)
      (pss_one (ps_for PassesOwn.never rfl (pi_enumT rfl T.nenumerate (pa_cons (pe_fld (pv 0) rfl) pa_nil)) (pg_tup rfl (pgs_cons (pg_name (i := 3) sccheckstart.nd rfl (by first | exact Or.inl rfl | exact Or.inr rfl)) (pgs_cons (pg_name (i := 4) sccheckstart.nd rfl (by first | exact Or.inl rfl | exact Or.inr rfl)) pgs_nil))) (pss_one (ps_if (pt_not (pt_chain op_le op_le pe_int (pe_ix (r := rIxL K) ix_list (pv 1) (pv 3) (fun _ _ => rfl)) (pe_op op_mul (pv 4) (pv 2)))) (pss_one ps_never) pss_nil)))))), ?_⟩
    obtain ⟨jx, t, e1, e2⟩ := hJ
    refine ⟨_, rfl, _, _, rfl, rfl, _, rfl, ifF (decide_eq_false (by omega)) ?_⟩
    refine ⟨_, rfl, a, _, rfl, .inl hS, _, rfl, j, _, jx, _, _, rfl, e1, T.lJars, T.nJars_sizes, lk1, t, _, rfl, .inr (SqT.of e2), rfl, _, rfl, iteNS (by rw [List.length_map, List.length_map, hst.len]) ?_⟩
    refine ⟨_, rfl, j, _, jx, _, _, rfl, e1, T.lJars, T.nJars_sizes, lk1, t, _, rfl, SqT.of e2, ?_⟩
    refine for_enumT (K := K) (a := t) (xs := vi caps) (fun i σ H' => ∃ u v : Option V, σ = [some (.ref j), some (.ref a), some (.int p), u, v] ∧ Same H H') ⟨none, none, rfl, Same.refl _⟩ (fun i σ H' _ ⟨_, _, _, e⟩ => sameT e (SqT.of e2)) ?_ ?_
    · rintro i y N σ H' hi ⟨u, v, rfl, sm⟩ hN
      obtain ⟨z, hz, rfl⟩ := vi_get hi
      have lt : i < caps.length := (List.getElem?_eq_some_iff.mp hz).1
      have ez := at0_of hz
      have s2 : Same H (upd H' N (.tup [.int (i : Nat), .int z])) := sm.trans (same_new hN)
      refine ⟨N, _, rfl, SqT.of upd_same, rfl, _, _, rfl, _, _, rfl, rfl, ?_⟩
      have l2 : i < st.length := by rw [hst.len]; exact lt
      refine ⟨_, rfl, _, rfl, a, _, _, _, rfl, rfl, s2.seq hS, vi_at l2, _, _, rfl, rfl, _, rfl, ifT (decide_eq_true (hst.lo i lt)) ?_⟩
      refine ⟨_, rfl, _, rfl, _, _, rfl, rfl, .inr (mulP p1 p2), _, _, rfl, rfl, _, rfl, iteNS (by rw [← ez]; exact hst.hi i lt) ?_⟩
      exact ⟨_, _, rfl, s2⟩
    · rintro σ H' ⟨u, v, rfl, sm⟩
      exact hq _ sm
theorem okbehinddeed (T : Tx K mg) : FnOk P w K mg base CX0 1 T.abehinddeed T.dbehinddeed ["jars", "deed", "stand", "parts"] (spbehinddeed T) := by
  refine T.fbehinddeed.ok scbehinddeed (fun vs H Q E h => ?_) (fun cdv A outer s H vs Q E hr h => ?_)
  · obtain ⟨j, a, v, d, caps, st, p, rfl, _⟩ := h
    rfl
  · obtain ⟨j, a, v, d, caps, st, p, rfl, hJ, hD, ok, hS, p1, p2, hl, hq⟩ := h
    refine ⟨_, (pss_cons (ps_set (i := 4) scbehinddeed.nd rfl (by first | exact Or.inl rfl | exact Or.inr rfl) (pe_callTy call_list_of rfl T.nlist (by decide +kernel) (pa_cons (pv 2) pa_nil)))
      (pss_cons (ps_set (i := 5) scbehinddeed.nd rfl (by first | exact Or.inl rfl | exact Or.inr rfl) (pe_fld (pv 1) rfl))
      (pss_cons (ps_if (pt_val (pe_callB call_isi rfl T.nisinstance (by decide +kernel) (pa_cons (pv 1) (pa_cons (pe_glob (v := .ref T.cPut) rfl T.mPut rfl) pa_nil)))) (pss_cons (ps_asg (pe_callB (call_min2 rfl) rfl T.nmin (by decide +kernel) (pa_cons (pe_op op_add (pe_ix (r := rIxL K) ix_list (pv 2) (pv 5) (fun _ _ => rfl)) (pe_op op_mul (pe_fld (pv 1) rfl) (pv 3))) (pa_cons (pe_op op_mul (pe_ix (r := rIxT K) ix_tup (pe_fld (pv 0) rfl) (pv 5) (fun _ _ => rfl)) (pv 3)) pa_nil))) (pg_sub (pv 4) (pv 5) set_list))
      (pss_one (ps_ret (pv 4)))) pss_nil)
      (pss_cons (ps_if (pt_val (pe_callB call_isi rfl T.nisinstance (by decide +kernel) (pa_cons (pv 1) (pa_cons (pe_glob (v := .ref T.cDraw) rfl T.mDraw rfl) pa_nil)))) (pss_cons (ps_asg (pe_callB (call_max2 rfl) rfl T.nmax (by decide +kernel) (pa_cons (pe_op op_sub (pe_ix (r := rIxL K) ix_list (pv 2) (pv 5) (fun _ _ => rfl)) (pe_op op_mul (pe_fld (pv 1) rfl) (pv 3))) (pa_cons pe_int pa_nil))) (pg_sub (pv 4) (pv 5) set_list))
      (pss_one (ps_ret (pv 4)))) pss_nil)
      (pss_cons (ps_set (i := 6) scbehinddeed.nd rfl (by first | exact Or.inl rfl | exact Or.inr rfl) (pe_fld (pv 1) rfl))
      (pss_cons (ps_if (pt_val (pe_callB call_isi rfl T.nisinstance (by decide +kernel) (pa_cons (pv 1) (pa_cons (pe_glob (v := .ref T.cPour) rfl T.mPour rfl) pa_nil)))) (pss_cons (ps_set (i := 7) scbehinddeed.nd rfl (by first | exact Or.inl rfl | exact Or.inr rfl) (pe_callB (call_min2 rfl) rfl T.nmin (by decide +kernel) (pa_cons (pe_ix (r := rIxL K) ix_list (pv 2) (pv 5) (fun _ _ => rfl)) (pa_cons (pe_op op_sub (pe_op op_mul (pe_ix (r := rIxT K) ix_tup (pe_fld (pv 0) rfl) (pv 6) (fun _ _ => rfl)) (pv 3)) (pe_ix (r := rIxL K) ix_list (pv 2) (pv 6) (fun _ _ => rfl))) pa_nil))))
      (pss_cons (ps_asg (pe_op op_sub (pe_ix (r := rIxL K) ix_list (pv 2) (pv 5) (fun _ _ => rfl)) (pv 7)) (pg_sub (pv 4) (pv 5) set_list))
      (pss_cons (ps_asg (pe_op op_add (pe_ix (r := rIxL K) ix_list (pv 2) (pv 6) (fun _ _ => rfl)) (pv 7)) (pg_sub (pv 4) (pv 6) set_list))
      (pss_one (ps_ret (pv 4)))))) pss_nil)
      (pss_cons (ps_asg (pe_ix (r := rIxL K) ix_list (pv 2) (pv 6) (fun _ _ => rfl)) (pg_sub (pv 4) (pv 5) set_list))
      (pss_cons (ps_asg (pe_ix (r := rIxL K) ix_list (pv 2) (pv 5) (fun _ _ => rfl)) (pg_sub (pv 4) (pv 6) set_list))
      (pss_one (ps_ret (pv 4))))))))))), ?_⟩
    obtain ⟨q, dx, rfl, hp⟩ := deed_at hD
    have ha : d.fst < caps.length := by cases d <;> exact ok.1
    refine ⟨_, rfl, a, _, rfl, .inl hS, fun l hn => ?_⟩
    have s1 : Same H (upd H l (.lst (vi st))) := same_new hn
    have hp1 := s1 _ _ hp
    have hS1 := s1.seq hS
    obtain ⟨jx, t, e1, e2⟩ := hJ.same s1
    have ty := ty_deed hp1
    refine ⟨_, rfl, q, _, dx, _, _, rfl, hp1, cls_cls T d, no_a T d, fs_a d, ?_⟩
    refine ⟨_, rfl, .ref q, .ref T.cPut, _, _, _, rfl, .own _, ty, is_put T d, _, rfl, ?_⟩
    have l2 : d.fst < st.length := by rw [hl]; exact ha
    cases d with
    | put x k =>
      refine ifT rfl ?_
      refine ⟨_, rfl, _, rfl, a, _, _, _, rfl, rfl, hS1, vi_at l2, _, rfl, q, _, dx, _, _, rfl, hp1, T.lPut, T.nPut_k, lk2 (by decide +kernel), _, rfl, _, _, rfl, rfl, .inr (mulP p1 p2), _, _, rfl, rfl, ?_⟩
      refine ⟨_, rfl, j, _, jx, _, _, rfl, e1, T.lJars, T.nJars_sizes, lk1, _, rfl, t, _, _, _, rfl, rfl, SqT.of e2, vi_at ha, _, rfl, _, _, rfl, rfl, .inr (mulP p1 p2), _, _, rfl, ?_⟩
      refine ⟨_, rfl, _, rfl, l, _, _, x, rfl, rfl, upd_same, ixN_nat (by rw [List.length_map]; exact l2), _, rfl, ?_⟩
      refine hq _ l hn ?_ (same_mut s1 hn)
      rw [upd_same, vi_set]
      rfl
    | draw x k =>
      refine ifF rfl ⟨_, rfl, .ref q, .ref T.cDraw, _, _, _, rfl, .own _, ty, T.iDraw_Draw, _, rfl, ifT rfl ?_⟩
      refine ⟨_, rfl, _, rfl, a, _, _, _, rfl, rfl, hS1, vi_at l2, _, rfl, q, _, dx, _, _, rfl, hp1, T.lDraw, T.nDraw_k, lk2 (by decide +kernel), _, rfl, _, _, rfl, rfl, .inr (mulP p1 p2), _, _, rfl, rfl, ?_⟩
      refine ⟨_, _, rfl, ?_⟩
      refine ⟨_, rfl, _, rfl, l, _, _, x, rfl, rfl, upd_same, ixN_nat (by rw [List.length_map]; exact l2), _, rfl, ?_⟩
      refine hq _ l hn ?_ (same_mut s1 hn)
      rw [upd_same, vi_set]
      rfl
    | pour x b =>
      have lb : b < st.length := by rw [hl]; exact ok.2.1
      refine ifF rfl ⟨_, rfl, .ref q, .ref T.cDraw, _, _, _, rfl, .own _, ty, T.iPour_Draw, _, rfl, ifF rfl ?_⟩
      refine ⟨_, rfl, q, _, dx, _, _, rfl, hp1, T.lPour, T.nPour_b, lk2 (by decide +kernel), ?_⟩
      refine ⟨_, rfl, .ref q, .ref T.cPour, _, _, _, rfl, .own _, ty, T.iPour_Pour, _, rfl, ifT rfl ?_⟩
      refine ⟨_, rfl, _, rfl, a, _, _, _, rfl, rfl, hS1, vi_at l2, _, rfl, j, _, jx, _, _, rfl, e1, T.lJars, T.nJars_sizes, lk1, ?_⟩
      refine ⟨_, rfl, t, _, _, _, rfl, rfl, SqT.of e2, vi_at ok.2.1, _, rfl, _, _, rfl, rfl, .inr (mulP p1 p2), _, rfl, _, rfl, a, _, _, _, rfl, rfl, hS1, vi_at lb, _, _, rfl, rfl, _, _, rfl, ?_⟩
      refine ⟨_, rfl, _, rfl, a, _, _, _, rfl, rfl, hS1, vi_at l2, _, rfl, _, _, rfl, rfl, _, rfl, _, rfl, l, _, _, x, rfl, rfl, upd_same, ixN_nat (by rw [List.length_map]; exact l2), ?_⟩
      have hS2 := (same_mut (o := .lst ((vi st).set x (.int (at0 st x - (if at0 caps b * p - at0 st b < at0 st x then at0 caps b * p - at0 st b else at0 st x))))) s1 hn).seq hS
      refine ⟨_, rfl, _, rfl, a, _, _, _, rfl, rfl, hS2, vi_at lb, _, rfl, _, _, rfl, rfl, _, rfl, _, rfl, l, _, _, b, rfl, rfl, upd_same, ixN_nat (by rw [List.length_set, List.length_map]; exact lb), _, rfl, ?_⟩
      refine hq _ l hn ?_ (same_mut (same_mut s1 hn) hn)
      rw [upd_same, vi_set, vi_set]
      rfl
    | change x b =>
      have lb : b < st.length := by rw [hl]; exact ok.2.1
      refine ifF rfl ⟨_, rfl, .ref q, .ref T.cDraw, _, _, _, rfl, .own _, ty, T.iChange_Draw, _, rfl, ifF rfl ?_⟩
      refine ⟨_, rfl, q, _, dx, _, _, rfl, hp1, T.lChange, T.nChange_b, lk2 (by decide +kernel), ?_⟩
      refine ⟨_, rfl, .ref q, .ref T.cPour, _, _, _, rfl, .own _, ty, T.iChange_Pour, _, rfl, ifF rfl ?_⟩
      refine ⟨_, rfl, _, rfl, a, _, _, _, rfl, rfl, hS1, vi_at lb, _, rfl, _, rfl, l, _, _, x, rfl, rfl, upd_same, ixN_nat (by rw [List.length_map]; exact l2), ?_⟩
      have hS2 := (same_mut (o := .lst ((vi st).set x (.int (at0 st b)))) s1 hn).seq hS
      refine ⟨_, rfl, _, rfl, a, _, _, _, rfl, rfl, hS2, vi_at l2, _, rfl, _, rfl, l, _, _, b, rfl, rfl, upd_same, ixN_nat (by rw [List.length_set, List.length_map]; exact lb), _, rfl, ?_⟩
      refine hq _ l hn ?_ (same_mut (same_mut s1 hn) hn)
      rw [upd_same, vi_set, vi_set]
      rfl
theorem okbehindround (T : Tx K mg) : FnOk P w K mg base CX0 2 T.abehindround T.dbehindround ["row", "stand", "parts"] (spbehindround T) := by
  refine T.fbehindround.ok scbehindround (fun vs H Q E h => ?_) (fun cdv A outer s H vs Q E hr h => ?_)
  · obtain ⟨r, a, ds, caps, st, p, rfl, _⟩ := h
    rfl
  · obtain ⟨r, a, ds, caps, st, p, rfl, hR, ok, hS, p1, p2, hl, hq⟩ := h
    refine ⟨_, (pss_cons (ps_set (i := 3) scbehindround.nd rfl (by first | exact Or.inl rfl | exact Or.inr rfl) (pe_callTy call_list_of rfl T.nlist (by decide +kernel) (pa_cons (pv 1) pa_nil)))
      (pss_cons (ps_for PassesOwn.never rfl (pi_tup (pe_fld (pv 0) rfl)) (pg_name (i := 4) scbehindround.nd rfl (by first | exact Or.inl rfl | exact Or.inr rfl)) (pss_one (ps_set (i := 3) scbehindround.nd rfl (by first | exact Or.inl rfl | exact Or.inr rfl) (pe_call (okbehinddeed T) (hr.mono (by decide)) rfl T.gbehinddeed T.fbehinddeed.kp T.bbehinddeed .nil pass0 (pa_cons (pe_fld (pv 0) rfl) (pa_cons (pv 4) (pa_cons (pv 3) (pa_cons (pv 2) pa_nil))))))))
      (pss_one (ps_ret (pv 3))))), ?_⟩
    refine ⟨_, rfl, a, _, rfl, .inl hS, fun l hn => ?_⟩
    have s1 : Same H (upd H l (.lst (vi st))) := same_new hn
    obtain ⟨rx, j, t, us, r1, r2, r3, r4⟩ := id hR
    refine ⟨_, rfl, r, _, rx, _, _, rfl, s1 _ _ r1, T.lRow, T.nRow_deeds, lk2 (by decide +kernel), t, rfl, ⟨_, SqT.of (s1 _ _ r3)⟩, ?_⟩
    refine for_tup (K := K) (a := t) (xs := us) (fun i σ H' => ∃ (m : Addr) (v : Option V), σ = [some (.ref r), some (.ref a), some (.int p), some (.ref m), v] ∧ H m = none ∧ H' m = some (.lst (vi (run caps p (ds.take i) st))) ∧ Same H H')
      ⟨l, none, rfl, hn, by rw [upd_same]; rfl, s1⟩ (fun i σ H' _ ⟨_, _, _, _, _, e⟩ => sameT e (SqT.of r3)) ?_ ?_
    · rintro i y σ H' hi ⟨m, v, rfl, hm, hm', sm⟩
      obtain ⟨d, hd, hv⟩ := r4.get hi
      refine ⟨_, rfl, r, _, rx, _, _, rfl, sm _ _ r1, T.lRow, T.nRow_jars, lk1, _, rfl, _, rfl, _, rfl, ?_⟩
      refine ⟨j, m, y, d, caps, _, p, rfl, r2.same sm, hv.same sm, ok d (List.mem_of_getElem? hd), SqL.of hm', p1, p2, ?_, fun H2 q q1 q2 s2 => ?_⟩
      · rw [run_len]
        exact hl
      · refine ⟨q, some y, rfl, sm.free q1, ?_, sm.trans s2⟩
        rw [q2, run_snoc hd]
    · rintro σ H' ⟨m, v, rfl, hm, hm', sm⟩
      refine ⟨_, rfl, hq _ m hm ?_ sm⟩
      rw [hm', r4.len, List.take_length]
theorem okbehind (T : Tx K mg) : FnOk P w K mg base CX0 3 T.abehind T.dbehind ["row", "start", "parts", "times"] (spbehind T) := by
  refine T.fbehind.ok scbehind (fun vs H Q E h => ?_) (fun cdv A outer s H vs Q E hr h => ?_)
  · obtain ⟨r, a, ds, caps, st, p, n, rfl, _⟩ := h
    rfl
  · obtain ⟨r, a, ds, caps, st, p, n, rfl, hR, ok, hS, p1, p2, n1, hst, hq⟩ := h
    refine ⟨_, PSs.nox (pss_cons (ps_expr (pe_call (okcheckstart T) (hr.mono (by decide)) rfl T.gcheckstart T.fcheckstart.kp T.bcheckstart .nil pass0 (pa_cons (pe_fld (pv 0) rfl) (pa_cons (pv 1) (pa_cons (pv 2) pa_nil)))))
      (pss_cons (ps_if (pt_not (pt_chain op_le op_le pe_int (pv 3) (pe_glob (v := .int 1000) rfl T.cMOSTTIMES ⟨_, rfl⟩))) (pss_one ps_never) pss_nil)
      (pss_cons (ps_set (i := 4) scbehind.nd rfl (by first | exact Or.inl rfl | exact Or.inr rfl) (pe_callTy call_list_of rfl T.nlist (by decide +kernel) (pa_cons (pv 1) pa_nil)))
      (pss_cons (ps_for PassesOwn.never rfl (pi_range1 rfl T.nrange (pa_cons (pv 3) pa_nil)) (pg_name (i := 5) scbehind.nd rfl (by first | exact Or.inl rfl | exact Or.inr rfl)) (pss_one (ps_set (i := 4) scbehind.nd rfl (by first | exact Or.inl rfl | exact Or.inr rfl) (pe_call (okbehindround T) (hr.mono (by decide)) rfl T.gbehindround T.fbehindround.kp T.bbehindround .nil pass0 (pa_cons (pv 0) (pa_cons (pv 4) (pa_cons (pv 2) pa_nil)))))))
      (pss_one (ps_ret (pv 4))))))), ?_⟩
    obtain ⟨rx, j, t, us, r1, r2, r3, r4⟩ := id hR
    refine ⟨_, rfl, r, _, rx, _, _, rfl, r1, T.lRow, T.nRow_jars, lk1, _, rfl, _, rfl, j, a, caps, st, p, rfl, r2, hS, p1, p2, hst, fun H1 s1 => ?_⟩
    refine ⟨_, rfl, _, _, rfl, rfl, _, rfl, ifT (decide_eq_true (by omega)) ?_⟩
    refine ⟨_, _, rfl, rfl, _, rfl, iteNS (by omega) ?_⟩
    refine ⟨_, rfl, a, _, rfl, .inl (s1.seq hS), fun l hn => ?_⟩
    have s2 : Same H (upd H1 l (.lst (vi st))) := s1.trans (same_new hn)
    refine ⟨_, rfl, n, rfl, by omega, by omega, ?_⟩
    refine for_range (lo := 0) (n := (n : Int).toNat) (fun i σ H' => ∃ (m : Addr) (v : Option V), σ = [some (.ref r), some (.ref a), some (.int p), some (.int n), some (.ref m), v] ∧ H m = none ∧ H' m = some (.lst (vi (runs caps p ds i st))) ∧ Same H H')
      ⟨l, none, rfl, s1.free hn, by rw [upd_same]; rfl, s2⟩ ?_ ?_
    · rintro i σ H' hi ⟨m, v, rfl, hm, hm', sm⟩
      refine ⟨_, rfl, _, rfl, _, rfl, r, m, ds, caps, _, p, rfl, hR.same sm, ok, SqL.of hm', p1, p2, (runs_stand p1 ok hst).len, fun H2 q q1 q2 s3 => ?_⟩
      exact ⟨q, _, rfl, sm.free q1, q2, sm.trans s3⟩
    · rintro σ H' ⟨m, v, rfl, hm, hm', sm⟩
      refine ⟨_, rfl, hq _ m hm ?_ sm⟩
      rw [hm', Int.toNat_natCast]
end
end Kp

namespace Kp
open PySem PySem.Spec PyProof.Rows L2 KpR
def D.word : D → Str
  | .pour _ _ => "pour"
  | .put _ _ => "put"
  | .draw _ _ => "draw"
  | .change _ _ => "change"
def D.last : D → Int
  | .pour _ b => b
  | .put _ k => k
  | .draw _ k => k
  | .change _ b => b
def WellAt (H : Hp) (w : Addr) : Prop := ∃ a b c : Int, H w = some (.lst [.int a, .int b, .int c])
theorem WellAt.ex {H : Hp} {w : Addr} (h : WellAt H w) : ∃ u, H w = some u ∧ Blank u := by
  obtain ⟨a, b, c, h⟩ := h
  exact ⟨_, h, bl_l⟩
def FactAt (H : Hp) (v : V) (d : D) : Prop := ∃ t, v = .ref t ∧ H t = some (.tup [.str d.word, .int d.fst, .int d.last])
theorem FactAt.same {H H' : Hp} {v : V} {d : D} (e : Same H H') (h : FactAt H v d) : FactAt H' v d := by
  obtain ⟨t, rfl, h⟩ := h
  exact ⟨t, rfl, e _ _ h⟩
theorem FactAt.fr {w : Addr} {H H' : Hp} {u : HO} {v : V} {d : D} (e : Fr w H H') (hw : H w = some u) (hb : Blank u) (h : FactAt H v d) : FactAt H' v d := by
  obtain ⟨t, rfl, h⟩ := h
  exact ⟨t, rfl, fr_no e hw hb h nbT⟩
theorem made_same {H H' : Hp} {x dx : Addr} {o1 o2 : HO} (hx : H x = none) (hdx : H dx = none) (fr : Fr x (upd (upd H dx o1) x o2) H') : Same H H' := fun b o e => by
  have n1 : b ≠ x := ne_of_none e hx
  refine fr b o n1 ?_
  rw [upd_ne n1, upd_ne (ne_of_none e hdx)]
  exact e
section
variable {K : PySem.W.Frag} {mg : Str → Option Value}
def spLwell (T : Tx K mg) : Sp := fun vs H Q _ => ∃ n : Int, vs = [.int n] ∧ ∀ (H' : Hp) (p : Addr), H p = none → WellAt H' p → Same H H' → Q (.ref p) H'
def spLdraw (T : Tx K mg) : Sp := fun vs H Q _ => ∃ (w : Addr) (m : Int), vs = [.ref w, .int m] ∧ WellAt H w ∧ 1 ≤ m ∧ m < 2 ^ 100 ∧ ∀ (H' : Hp) (v : Nat), (v : Int) < m → WellAt H' w → Fr w H H' → Q (.int v) H'
def spLcaps (T : Tx K mg) : Sp := fun vs H Q _ => ∃ (w : Addr) (m : Int), vs = [.ref w, .int m] ∧ WellAt H w ∧ 1 ≤ m ∧ m ≤ 6 ∧
  ∀ (H' : Hp) (p : Addr) (caps : List Int), H p = none → H' p = some (.lst (vi caps)) → Caps caps → (caps.length : Int) ≤ m → WellAt H' w → Fr w H H' → Q (.ref p) H'
def spLfacts (T : Tx K mg) : Sp := fun vs H Q _ => ∃ (w c : Addr) (m : Nat) (caps : List Int), vs = [.ref w, .ref c, .int m] ∧ WellAt H w ∧ H c = some (.lst (vi caps)) ∧ c ≠ w ∧ Caps caps ∧ m ≤ 20 ∧
  ∀ (H' : Hp) (p : Addr) (ts : List V) (ds : List D), H p = none → H' p = some (.lst ts) → A2 (FactAt H') ts ds → ds.length = m → (∀ d ∈ ds, d.ok caps) → WellAt H' w → Fr w H H' → Q (.ref p) H'
def spLdeed (T : Tx K mg) : Sp := fun vs H Q _ => ∃ (v : V) (d : D), vs = [v] ∧ FactAt H v d ∧ ∀ (H' : Hp) (p : Addr), H p = none → DeedAt T H' (.ref p) d → Same H H' → Q (.ref p) H'
def spLrow (T : Tx K mg) : Sp := fun vs H Q _ => ∃ (c f : Addr) (caps : List Int) (ts : List V) (ds : List D), vs = [.ref c, .ref f] ∧ SqL K H c (vi caps) ∧ Caps caps ∧ SqL K H f ts ∧ A2 (FactAt H) ts ds ∧ ds.length ≤ 20 ∧ (∀ d ∈ ds, d.ok caps) ∧
  ∀ (H' : Hp) (r : Addr), H r = none → RowAt T H' r caps ds → Same H H' → Q (.ref r) H'
def spLamounts (T : Tx K mg) : Sp := fun vs H Q _ => ∃ (w c : Addr) (p : Int) (caps : List Int), vs = [.ref w, .ref c, .int p] ∧ WellAt H w ∧ H c = some (.lst (vi caps)) ∧ c ≠ w ∧ Caps caps ∧ 1 ≤ p ∧ p ≤ 2 ^ 40 ∧
  ∀ (H' : Hp) (q : Addr) (st : List Int), H q = none → H' q = some (.lst (vi st)) → Stand caps p st → WellAt H' w → Fr w H H' → Q (.ref q) H'
end
section
variable {P : Program} {w : World} {K : PySem.W.Frag} {mg : Str → Option Value} {base : Heap}
theorem okLwell (T : Tx K mg) : FnOk P w K mg base CX0 1 T.aLwell T.dLwell ["_law_cell"] (spLwell T) := by
  refine T.fLwell.ok scLwell (fun vs H Q E h => ?_) (fun cdv A outer s H vs Q E hr h => ?_)
  · obtain ⟨n, rfl, _⟩ := h
    rfl
  · obtain ⟨n, rfl, hq⟩ := h
    refine ⟨_, (pss_one (ps_ret (pe_lst (pa_cons (pe_callB call_abs rfl T.nabs (by decide +kernel) (pa_cons (pv 0) pa_nil)) (pa_cons (pe_op op_mod (pv 0) pe_int) (pa_cons pe_int pa_nil)))))), ?_⟩
    refine ⟨_, rfl, n, rfl, _, rfl, _, _, rfl, rfl, (by show (0 : Int) < 2147483629; decide), (by show 3 ≤ sizeLine; decide), fun p hp => ?_⟩
    exact hq _ p hp ⟨_, _, _, upd_same⟩ (same_new hp)
theorem okLdraw (T : Tx K mg) : FnOk P w K mg base CX0 1 T.aLdraw T.dLdraw ["_law_well_here", "_law_many"] (spLdraw T) := by
  refine T.fLdraw.ok scLdraw (fun vs H Q E h => ?_) (fun cdv A outer s H vs Q E hr h => ?_)
  · obtain ⟨u, m, rfl, _⟩ := h
    rfl
  · obtain ⟨u, m, rfl, ⟨a, b, c, hw⟩, m1, m2, hq⟩ := h
    refine ⟨_, (pss_cons (ps_if (pt_cmpR op_ge (pe_ix (r := rIxL K) ix_list (pv 0) pe_int (fun _ _ => rfl)) (pe_op op_pow pe_int pe_int) (nomark _)) (pss_cons (ps_set (i := 2) scLdraw.nd rfl (by first | exact Or.inl rfl | exact Or.inr rfl) (pe_op op_mod (pe_ix (r := rIxL K) ix_list (pv 0) pe_int (fun _ _ => rfl)) (pv 1)))
      (pss_cons (ps_asg (pe_op op_fdivW (pe_ix (r := rIxL K) ix_list (pv 0) pe_int (fun _ _ => rfl)) (pv 1)) (pg_sub (pv 0) pe_int set_list))
      (pss_one (ps_ret (pv 2))))) pss_nil)
      (pss_cons (ps_asg (pe_op op_add (pe_ix (r := rIxL K) ix_list (pv 0) pe_int (fun _ _ => rfl)) pe_int) (pg_sub (pv 0) pe_int set_list))
      (pss_cons (ps_set (i := 3) scLdraw.nd rfl (by first | exact Or.inl rfl | exact Or.inr rfl) (pe_op op_mod (pe_op op_mul (pe_op op_add (pe_op op_add (pe_ix (r := rIxL K) ix_list (pv 0) pe_int (fun _ _ => rfl)) (pe_op op_mul pe_int (pe_ix (r := rIxL K) ix_list (pv 0) pe_int (fun _ _ => rfl)))) pe_int) pe_int) pe_int))
      (pss_cons (ps_set (i := 3) scLdraw.nd rfl (by first | exact Or.inl rfl | exact Or.inr rfl) (pe_op op_mod (pe_op op_mul (pv 3) (pe_op op_add (pe_op op_fdivW (pv 3) pe_int) pe_int)) pe_int))
      (pss_one (ps_ret (pe_op op_mod (pe_op op_mod (pe_op op_add (pe_op op_fdivW (pv 3) pe_int) (pe_op op_mul (pe_op op_mod (pv 3) pe_int) pe_int)) pe_int) (pv 1)))))))), ?_⟩
    have wd : CDivW a m := wide_div (b := 100) (by omega) (by omega) (by decide) (by decide)
    have back : ∀ (x : Int) (H' : Hp), WellAt H' u → Fr u H H' → Q (.int (x % m)) H' := fun x H' h1 h2 => by
      have q0 := Int.emod_nonneg x (show m ≠ 0 by omega)
      have q1 := Int.emod_lt_of_pos x (show 0 < m by omega)
      have e : x % m = ((x % m).toNat : Int) := by omega
      rw [e]
      exact hq H' _ (by omega) h1 h2
    refine ⟨_, rfl, u, _, _, _, rfl, rfl, SqL.of hw, rfl, _, _, rfl, rfl, ⟨by decide, by decide, by decide⟩, _, _, rfl, rfl, _, rfl, ifD (fun _ => ?_) (fun _ => ?_)⟩
    · refine ⟨_, rfl, u, _, _, _, rfl, rfl, SqL.of hw, rfl, _, rfl, _, _, rfl, rfl, (by show 0 < m; omega), ?_⟩
      refine ⟨_, rfl, u, _, _, _, rfl, rfl, SqL.of hw, rfl, _, rfl, _, _, rfl, rfl, wd, _, rfl, u, _, _, 0, rfl, rfl, hw, rfl, _, rfl, ?_⟩
      exact back a _ ⟨_, _, _, upd_same⟩ (fr_mut (Fr.refl _ _))
    · refine ⟨_, rfl, u, _, _, _, rfl, rfl, SqL.of hw, rfl, _, _, rfl, rfl, _, rfl, u, _, _, 2, rfl, rfl, hw, rfl, ?_⟩
      refine ⟨_, rfl, u, _, _, _, rfl, rfl, SqL.of upd_same, rfl, _, rfl, u, _, _, _, rfl, rfl, SqL.of upd_same, rfl, _, _, rfl, rfl, .inl ⟨by decide, by decide⟩, _, _, rfl, rfl, _, _, rfl, rfl, _, _, rfl, rfl, .inr ⟨by decide, by decide⟩, _, _, rfl, rfl, (by show (0 : Int) < 2147483647; decide), ?_⟩
      refine ⟨_, rfl, _, rfl, _, _, rfl, rfl, ⟨by decide, by decide⟩, _, _, rfl, rfl, _, _, rfl, rfl, .inl ⟨by omega, by omega⟩, _, _, rfl, rfl, (by show (0 : Int) < 2147483587; decide), ?_⟩
      refine ⟨_, rfl, _, _, rfl, rfl, ⟨by decide, by decide⟩, _, rfl, _, _, rfl, rfl, (by show (0 : Int) < 7919; decide), _, _, rfl, rfl, .inr ⟨by decide, by decide⟩, _, _, rfl, rfl, _, _, rfl, rfl, (by show (0 : Int) < 2147483399; decide), _, rfl, _, _, rfl, rfl, (by show 0 < m; omega), ?_⟩
      exact back _ _ ⟨_, _, _, upd_same⟩ (fr_mut (Fr.refl _ _))
theorem okLcaps (T : Tx K mg) : FnOk P w K mg base CX0 2 T.aLcaps T.dLcaps ["_law_well_here", "_law_most"] (spLcaps T) := by
  refine T.fLcaps.ok scLcaps (fun vs H Q E h => ?_) (fun cdv A outer s H vs Q E hr h => ?_)
  · obtain ⟨u, m, rfl, _⟩ := h
    rfl
  · obtain ⟨u, m, rfl, hw, m1, m2, hq⟩ := h
    refine ⟨_, (pss_cons (ps_set (i := 2) scLcaps.nd rfl (by first | exact Or.inl rfl | exact Or.inr rfl) (pe_ix (r := rIxL K) ix_list (pe_lst (pa_cons pe_int (pa_cons pe_int (pa_cons pe_int (pa_cons pe_int (pa_cons (pe_op op_pow pe_int pe_int) (pa_cons (pe_op op_pow pe_int pe_int) pa_nil))))))) (pe_call (okLdraw T) (hr.mono (by decide)) rfl T.gLdraw T.fLdraw.kp T.bLdraw .nil pass0 (pa_cons (pv 0) (pa_cons pe_int pa_nil))) (fun _ _ => rfl)))
      (pss_cons (ps_set (i := 3) scLcaps.nd rfl (by first | exact Or.inl rfl | exact Or.inr rfl) (pe_lst pa_nil))
      (pss_cons (ps_for PassesOwn.never rfl (pi_range1 rfl T.nrange (pa_cons (pe_op op_add pe_int (pe_call (okLdraw T) (hr.mono (by decide)) rfl T.gLdraw T.fLdraw.kp T.bLdraw .nil pass0 (pa_cons (pv 0) (pa_cons (pv 1) pa_nil)))) pa_nil)) (pg_name (i := 4) scLcaps.nd rfl (by first | exact Or.inl rfl | exact Or.inr rfl)) (pss_cons (ps_expr (pe_bm PySem.F.plainAttrs_list PySem.F.slot_list_append PySem.F.type_list_append mt_append (pv 3) (pa_cons (pe_op op_mul (pv 2) (pe_op op_add pe_int (pe_call (okLdraw T) (hr.mono (by decide)) rfl T.gLdraw T.fLdraw.kp T.bLdraw .nil pass0 (pa_cons (pv 0) (pa_cons pe_int pa_nil))))) pa_nil)))
      (pss_one (ps_if (pt_cmpR op_eq (pe_call (okLdraw T) (hr.mono (by decide)) rfl T.gLdraw T.fLdraw.kp T.bLdraw .nil pass0 (pa_cons (pv 0) (pa_cons pe_int pa_nil))) pe_int (nomark _)) (pss_one (ps_asg (pe_ix (r := rIxL K) ix_list (pv 3) pe_int (fun _ _ => rfl)) (pg_sub (pv 3) (pe_un un_neg pe_int) set_list))) pss_nil))))
      (pss_one (ps_ret (pv 3)))))), ?_⟩
    refine ⟨_, _, rfl, rfl, ⟨by decide, by decide, by decide⟩, _, _, rfl, rfl, ⟨by decide, by decide, by decide⟩, (by show 6 ≤ sizeLine; decide), fun l hl => ?_⟩
    have nw : ∀ {G : Hp} {x : Addr}, WellAt G u → G x = none → x ≠ u := fun hW hx z => by
      obtain ⟨_, _, _, q⟩ := hW
      rw [← z, hx] at q
      cases q
    have lu := nw hw hl
    have w1 : WellAt (upd H l (.lst (vi [1, 1, 1, 7, 10 ^ (6 : Int).toNat, 10 ^ (11 : Int).toNat]))) u := by
      obtain ⟨a, b, c, q⟩ := hw
      exact ⟨a, b, c, by rw [upd_ne lu.symm]; exact q⟩
    refine ⟨_, rfl, u, 6, rfl, w1, by decide, by decide, fun H1 n hn w2 f1 => ?_⟩
    have hn6 : n < 6 := by omega
    refine ⟨l, vi [1, 1, 1, 7, 10 ^ (6 : Int).toNat, 10 ^ (11 : Int).toNat], _, _, rfl, rfl, SqL.of (f1 _ _ lu upd_same), vi_at hn6, ?_⟩
    have fr1 : Fr u H H1 := (Fr.of (same_new hl)).trans f1
    obtain ⟨un, hun, ub⟩ : ∃ un : Int, at0 [1, 1, 1, 7, 10 ^ (6 : Int).toNat, 10 ^ (11 : Int).toNat] n = un ∧ 1 ≤ un ∧ un ≤ 100000000000 := ⟨_, rfl, unit_ok hn6⟩
    unfold at0 at hun
    rw [hun]
    refine ⟨(by show 0 ≤ sizeLine; decide), fun f hf => ?_⟩
    have fu := nw w2 hf
    have w3 : WellAt (upd H1 f (.lst [])) u := by
      obtain ⟨a, b, c, q⟩ := w2
      exact ⟨a, b, c, by rw [upd_ne fu.symm]; exact q⟩
    have f0 : H f = none := fr_free fr1 fu hf
    refine ⟨_, rfl, _, rfl, u, m, rfl, w3, m1, by omega, fun H2 k hk w4 f2 => ?_⟩
    have fr2 : Fr u H H2 := (fr1.trans (Fr.of (same_new hf))).trans f2
    refine ⟨_, _, rfl, rfl, _, rfl, by omega, by omega, ?_⟩
    refine for_range (lo := 0) (n := (1 + (k : Int)).toNat) (fun i σ H' => ∃ (v : Option V) (caps : List Int), σ = [some (.ref u), some (.int m), some (.int un), some (.ref f), v] ∧ H' f = some (.lst (vi caps)) ∧ caps.length = i ∧ Mid caps ∧ WellAt H' u ∧ Fr u H H')
      ⟨none, [], rfl, f2 _ _ fu upd_same, rfl, Mid.nil, w4, fr2⟩ ?_ ?_
    · rintro i σ H' hi ⟨v, caps, rfl, hf', rfl, mid, wl, fr⟩
      have i6 : caps.length < 6 := by omega
      refine ⟨_, rfl, .inl ⟨rfl, _, SqL.of hf'⟩, _, rfl, _, rfl, u, 10, rfl, wl, by decide, by decide, fun H3 x hx w5 f3 => ?_⟩
      refine ⟨_, _, rfl, rfl, _, _, rfl, rfl, .inl ⟨by omega, by omega⟩, f, _, _, rfl, rfl, f3 _ _ fu hf', (by rw [List.length_map]; exact Nat.lt_of_lt_of_le i6 (by decide)), ?_⟩
      have z1 : 1 ≤ un * (1 + (x : Int)) := by
        have := Int.mul_le_mul ub.1 (show (1 : Int) ≤ 1 + x by omega) (by decide) (by omega)
        simpa using this
      have z2 : un * (1 + (x : Int)) ≤ 1000000000000 := by
        have := Int.mul_le_mul ub.2 (show (1 + x : Int) ≤ 10 by omega) (by omega) (by decide)
        simpa using this
      have ea : vi caps ++ [V.int (un * (1 + (x : Int)))] = vi (caps ++ [un * (1 + (x : Int))]) := by simp
      have w6 : WellAt (upd H3 f (.lst (vi caps ++ [V.int (un * (1 + (x : Int)))]))) u := by
        obtain ⟨a, b, c, q⟩ := w5
        exact ⟨a, b, c, by rw [upd_ne fu.symm]; exact q⟩
      refine ⟨_, rfl, u, 3, rfl, w6, by decide, by decide, fun H4 y hy w7 f4 => ?_⟩
      have g4 : H4 f = some (.lst (vi (caps ++ [un * (1 + (x : Int))]))) := f4 _ _ fu (by rw [upd_same, ea])
      have fr4 : Fr u H H4 := (fr_new (fr.trans f3) f0).trans f4
      refine ⟨rfl, _, rfl, ifD (fun _ => ?_) (fun _ => ?_)⟩
      · have ln : (vi (caps ++ [un * (1 + (x : Int))])).length = caps.length + 1 := by simp
        refine ⟨_, rfl, f, _, _, _, rfl, rfl, SqL.of g4, vi_at (i := 0) (by simp), _, rfl, _, rfl, f, _, _, caps.length, rfl, rfl, g4, ?_, ?_⟩
        · rw [ln]
          exact ixN_last
        · refine ⟨_, (caps ++ [un * (1 + (x : Int))]).set caps.length (at0 (caps ++ [un * (1 + (x : Int))]) 0), rfl, ?_, by simp, (mid.app z1 z2).set (by simp), ?_, fr_new fr4 f0⟩
          · rw [upd_same, vi_set]
            rfl
          · obtain ⟨a, b, c, q⟩ := w7
            exact ⟨a, b, c, by rw [upd_ne fu.symm]; exact q⟩
      · exact ⟨_, _, rfl, g4, by simp, mid.app z1 z2, w7, fr4⟩
    · rintro σ H' ⟨v, caps, rfl, hf', hl', mid, wl, fr⟩
      exact ⟨_, rfl, hq H' f caps f0 hf' (mid.caps (by omega) (by omega)) (by omega) wl fr⟩
end
end Kp

namespace Kp
open PySem PySem.Spec PyProof.Rows L2 KpR
def wn : Wd → Str
  | .pour => "pour"
  | .put => "put"
  | .draw => "draw"
  | .change => "change"
theorem wn_eq {a b : Wd} : decide (V.str (wn a) = V.str (wn b)) = decide (a = b) := by
  cases a <;> cases b <;> first | rfl | decide +kernel
theorem WellAt.new {H : Hp} {w p : Addr} {o : HO} (h : WellAt H w) (n : H p = none) : WellAt (upd H p o) w := by
  obtain ⟨a, b, c, q⟩ := h
  exact ⟨a, b, c, by rw [upd_ne (ne_of_none q n)]; exact q⟩
theorem WellAt.ne {H : Hp} {w p : Addr} (h : WellAt H w) (n : H p = none) : p ≠ w := fun z => by
  obtain ⟨_, _, _, q⟩ := h
  rw [← z, n] at q
  cases q
theorem WellAt.mut {H : Hp} {w p : Addr} {o : HO} (h : WellAt H w) (n : p ≠ w) : WellAt (upd H p o) w := by
  obtain ⟨a, b, c, q⟩ := h
  exact ⟨a, b, c, by rw [upd_ne (Ne.symm n)]; exact q⟩
theorem WellAt.same {H H' : Hp} {w : Addr} (h : WellAt H w) (e : Same H H') : WellAt H' w := by
  obtain ⟨a, b, c, q⟩ := h
  exact ⟨a, b, c, e _ _ q⟩
/-- a deed of what was drawn -/
def mkD : Wd → Nat → Nat → Int → D
  | .pour, a, b, _ => .pour a b
  | .put, a, _, k => .put a k
  | .draw, a, _, k => .draw a k
  | .change, a, b, _ => .change a b
theorem mkD_ok {caps : List Int} {k : Wd} {a b : Nat} {m : Int} (ha : a < caps.length) (hb : b < caps.length) (m1 : 1 ≤ m) (m2 : m ≤ 1000000000000) (h1 : k = .pour → a ≠ b) (h2 : k = .change → a ≠ b ∧ at0 caps a = at0 caps b) : (mkD k a b m).ok caps := by
  cases k
  · exact ⟨ha, hb, h1 rfl⟩
  · exact ⟨ha, m1, m2⟩
  · exact ⟨ha, m1, m2⟩
  · exact ⟨ha, hb, h2 rfl⟩
theorem mkD_word {k : Wd} {a b : Nat} {m : Int} : (mkD k a b m).word = wn k := by cases k <;> rfl
theorem mkD_fst {k : Wd} {a b : Nat} {m : Int} : (mkD k a b m).fst = a := by cases k <;> rfl
theorem mkD_last {k : Wd} {a b : Nat} {m : Int} : (mkD k a b m).last = if k = .put ∨ k = .draw then m else (b : Int) := by cases k <;> rfl
theorem inV_word {k : Wd} : inV (.str (wn k)) [.str "put", .str "draw"] = decide (k = .put ∨ k = .draw) := by
  cases k <;> decide +kernel
section
variable {P : Program} {w : World} {K : PySem.W.Frag} {mg : Str → Option Value} {base : Heap}
theorem okLdeed (T : Tx K mg) : FnOk P w K mg base CX0 3 T.aLdeed T.dLdeed ["_law_fact"] (spLdeed T) := by
  refine T.fLdeed.ok scLdeed (fun vs H Q E h => ?_) (fun cdv A outer s H vs Q E hr h => ?_)
  · obtain ⟨v, d, rfl, _⟩ := h
    rfl
  · obtain ⟨v, d, rfl, ⟨t, rfl, ht⟩, hq⟩ := h
    refine ⟨_, (pss_cons (ps_asg (pv 0) (pg_tup rfl (pgs_cons (pg_name (i := 1) scLdeed.nd rfl (by first | exact Or.inl rfl | exact Or.inr rfl)) (pgs_cons (pg_name (i := 2) scLdeed.nd rfl (by first | exact Or.inl rfl | exact Or.inr rfl)) (pgs_cons (pg_name (i := 3) scLdeed.nd rfl (by first | exact Or.inl rfl | exact Or.inr rfl)) pgs_nil)))))
      (pss_cons (ps_if (pt_cmpR op_eq (pv 1) pe_str (nomark _)) (pss_one (ps_ret (pe_make T.kPour (okPourInit T) (hr.mono (by decide)) rfl T.mPour T.bPourInit .nil pass0 (pa_cons (pv 2) (pa_cons (pv 3) pa_nil))))) pss_nil)
      (pss_cons (ps_if (pt_cmpR op_eq (pv 1) pe_str (nomark _)) (pss_one (ps_ret (pe_make T.kPut (okPutInit T) (hr.mono (by decide)) rfl T.mPut T.bPutInit .nil pass0 (pa_cons (pv 2) (pa_cons (pv 3) pa_nil))))) pss_nil)
      (pss_cons (ps_if (pt_cmpR op_eq (pv 1) pe_str (nomark _)) (pss_one (ps_ret (pe_make T.kDraw (okDrawInit T) (hr.mono (by decide)) rfl T.mDraw T.bDrawInit .nil pass0 (pa_cons (pv 2) (pa_cons (pv 3) pa_nil))))) pss_nil)
      (pss_one (ps_ret (pe_make T.kChange (okChangeInit T) (hr.mono (by decide)) rfl T.mChange T.bChangeInit .nil pass0 (pa_cons (pv 2) (pa_cons (pv 3) pa_nil))))))))), ?_⟩
    refine ⟨_, rfl, t, _, rfl, SqT.of ht, rfl, _, _, rfl, _, _, rfl, _, _, rfl, rfl, _, rfl, rfl, _, rfl, ?_⟩
    cases d with
    | pour a b =>
      refine ifT (show decide (V.str "pour" = V.str "pour") = true by decide +kernel) ⟨_, rfl, _, rfl, fun x dx hx hdx ne => ⟨x, dx, _, _, rfl, upd_same, fun H1 h1 fr => ⟨rfl, ?_⟩⟩⟩
      exact hq H1 x hx ⟨x, dx, rfl, h1⟩ (made_same hx hdx fr)
    | put a k =>
      refine ifF (show decide (V.str "put" = V.str "pour") = false by decide +kernel) ⟨_, rfl, rfl, _, rfl, ifT (show decide (V.str "put" = V.str "put") = true by decide +kernel) ⟨_, rfl, _, rfl, fun x dx hx hdx ne => ⟨x, dx, _, _, rfl, upd_same, fun H1 h1 fr => ⟨rfl, ?_⟩⟩⟩⟩
      exact hq H1 x hx ⟨x, dx, rfl, h1⟩ (made_same hx hdx fr)
    | draw a k =>
      refine ifF (show decide (V.str "draw" = V.str "pour") = false by decide +kernel) ⟨_, rfl, rfl, _, rfl, ifF (show decide (V.str "draw" = V.str "put") = false by decide +kernel) ⟨_, rfl, rfl, _, rfl, ifT (show decide (V.str "draw" = V.str "draw") = true by decide +kernel) ⟨_, rfl, _, rfl, fun x dx hx hdx ne => ⟨x, dx, _, _, rfl, upd_same, fun H1 h1 fr => ⟨rfl, ?_⟩⟩⟩⟩⟩
      exact hq H1 x hx ⟨x, dx, rfl, h1⟩ (made_same hx hdx fr)
    | change a b =>
      refine ifF (show decide (V.str "change" = V.str "pour") = false by decide +kernel) ⟨_, rfl, rfl, _, rfl, ifF (show decide (V.str "change" = V.str "put") = false by decide +kernel) ⟨_, rfl, rfl, _, rfl, ifF (show decide (V.str "change" = V.str "draw") = false by decide +kernel) ⟨_, rfl, _, rfl, fun x dx hx hdx ne => ⟨x, dx, _, _, rfl, upd_same, fun H1 h1 fr => ⟨rfl, ?_⟩⟩⟩⟩⟩
      exact hq H1 x hx ⟨x, dx, rfl, h1⟩ (made_same hx hdx fr)
theorem okLrow (T : Tx K mg) : FnOk P w K mg base CX0 5 T.aLrow T.dLrow ["_law_caps_here", "_law_facts_here"] (spLrow T) := by
  refine T.fLrow.ok scLrow (fun vs H Q E h => ?_) (fun cdv A outer s H vs Q E hr h => ?_)
  · obtain ⟨c, f, caps, ts, ds, rfl, _⟩ := h
    rfl
  · obtain ⟨c, f, caps, ts, ds, rfl, hc, hC, hf, hA, hl, ok, hq⟩ := h
    refine ⟨_, (pss_one (ps_ret (pe_make T.kRow (okRowInit T) (hr.mono (by decide)) rfl T.mRow T.bRowInit .nil pass0 (pa_cons (pe_make T.kJars (okJarsInit T) (hr.mono (by decide)) rfl T.mJars T.bJarsInit .nil pass0 (pa_cons (pe_callTy call_list_of rfl T.nlist (by decide +kernel) (pa_cons (pv 0) pa_nil)) pa_nil)) (pa_cons (pe_lc (own := [("_law_fact", 2)]) rfl scLrow.nd (pi_list (pv 1)) (blkOk_by (own := [("_law_fact", 2)]) (N := ["_law_caps_here", "_law_facts_here", "_law_fact"]) (sc := defScope sLrow) (by decide +kernel)) (fun _ _ _ _ _ => (pg_name (i := 2) scLrow.nd rfl (by first | exact Or.inl rfl | exact Or.inr rfl))) (fun _ _ _ _ _ => pts_nil) (fun _ _ _ _ _ => (pe_call (okLdeed T) (hr.mono (by decide)) rfl T.gLdeed T.fLdeed.kp T.bLdeed .nil pass0 (pa_cons (pv 2) pa_nil)))) pa_nil))))), ?_⟩
    refine ⟨_, rfl, c, _, rfl, .inl hc, fun l hl0 => ?_⟩
    intro x dx hx hdx ne
    have s0 : Same H (upd H l (.lst (vi caps))) := same_new hl0
    have lx : l ≠ x := fun z => by rw [← z, upd_same] at hx; cases hx
    have ldx : l ≠ dx := fun z => by rw [← z, upd_same] at hdx; cases hdx
    refine ⟨x, dx, l, caps, rfl, upd_same, SqL.of (by rw [upd_ne lx, upd_ne ldx]; exact upd_same), hC, fun H1 hJ fr => ⟨rfl, ?_⟩⟩
    have s1 : Same H H1 := s0.trans (made_same hx hdx fr)
    refine ⟨_, rfl, f, rfl, ⟨_, s1.seq hf⟩, fun Dd hD => ?_⟩
    refine lc_list (K := K) (a := f) (xs := ts) (fun i H' => ∃ ws, H' Dd = some (.lst ws) ∧ A2 (DeedAt T H') ws (ds.take i) ∧ Same H1 H') ⟨[], upd_same, by simp [A2], same_new hD⟩ (fun i H' _ ⟨_, _, _, e⟩ => (s1.trans e).seq hf) ?_ ?_
    · rintro i y H' hi ⟨ws, h1, h2, sm⟩
      obtain ⟨d, hd, hv⟩ := hA.get hi
      refine ⟨rfl, ?_⟩
      refine ⟨_, rfl, y, d, rfl, hv.same (s1.trans sm), fun H2 q hq2 hd2 s2 => ⟨ws, s2 _ _ h1, ?_, ?_⟩⟩
      · have e1 := h2.len
        have e2 : (ds.take i).length ≤ 20 := by rw [List.length_take]; omega
        exact Nat.lt_of_lt_of_le (by omega : ws.length < 100) (by decide)
      · have bl : Fr Dd H2 (upd H2 Dd (.lst (ws ++ [V.ref q]))) := fr_mut (Fr.refl _ _)
        have gD := s2 _ _ h1
        refine ⟨ws ++ [V.ref q], upd_same, ?_, same_mut (sm.trans s2) hD⟩
        rw [List.take_add_one, hd]
        exact A2.app (A2.mono (fun _ _ k => (k.same s2).fr bl gD bl_l) h2) ⟨hd2.fr bl gD bl_l, trivial⟩
    · rintro H' ⟨ws, h1, h2, sm⟩
      rw [hA.len, List.take_length] at h2
      intro x2 dx2 hx2 hdx2 ne2
      have s3 : Same H' (upd (upd H' dx2 (.own x2)) x2 (.ins T.cRow dx2 [])) := (same_new hdx2).trans (same_new (by rw [upd_ne ne2.symm]; exact hx2))
      refine ⟨x2, dx2, x, Dd, caps, ws, ds, rfl, upd_same, (hJ.same sm).same s3, s3 _ _ h1, A2.mono (fun _ _ k => k.same s3) h2, hl, ok, fun H5 hR fr5 => ⟨rfl, ?_⟩⟩
      exact hq H5 x2 ((s1.trans sm).free hx2) hR ((s1.trans sm).trans (made_same hx2 hdx2 fr5))
theorem okLamounts (T : Tx K mg) : FnOk P w K mg base CX0 2 T.aLamounts T.dLamounts ["_law_well_here", "_law_caps_here", "_law_portions"] (spLamounts T) := by
  refine T.fLamounts.ok scLamounts (fun vs H Q E h => ?_) (fun cdv A outer s H vs Q E hr h => ?_)
  · obtain ⟨u, c, p, caps, rfl, _⟩ := h
    rfl
  · obtain ⟨u, c, p, caps, rfl, hw, hc, cu, hC, p1, p2, hq⟩ := h
    refine ⟨_, (pss_cons (ps_set (i := 3) scLamounts.nd rfl (by first | exact Or.inl rfl | exact Or.inr rfl) (pe_lst pa_nil))
      (pss_cons (ps_for PassesOwn.never rfl (pi_list (pv 1)) (pg_name (i := 4) scLamounts.nd rfl (by first | exact Or.inl rfl | exact Or.inr rfl)) (pss_cons (ps_set (i := 5) scLamounts.nd rfl (by first | exact Or.inl rfl | exact Or.inr rfl) (pe_op op_mul (pv 4) (pv 2)))
      (pss_cons (ps_set (i := 6) scLamounts.nd rfl (by first | exact Or.inl rfl | exact Or.inr rfl) (pe_lst (pa_cons pe_int (pa_cons (pv 5) (pa_cons (pe_call (okLdraw T) (hr.mono (by decide)) rfl T.gLdraw T.fLdraw.kp T.bLdraw .nil pass0 (pa_cons (pv 0) (pa_cons (pe_op op_add (pv 5) pe_int) pa_nil))) (pa_cons (pe_callB (call_min2 rfl) rfl T.nmin (by decide +kernel) (pa_cons (pv 5) (pa_cons (pe_call (okLdraw T) (hr.mono (by decide)) rfl T.gLdraw T.fLdraw.kp T.bLdraw .nil pass0 (pa_cons (pv 0) (pa_cons pe_int pa_nil))) pa_nil))) (pa_cons (pe_callB (call_max2 rfl) rfl T.nmax (by decide +kernel) (pa_cons pe_int (pa_cons (pe_op op_sub (pv 5) (pe_call (okLdraw T) (hr.mono (by decide)) rfl T.gLdraw T.fLdraw.kp T.bLdraw .nil pass0 (pa_cons (pv 0) (pa_cons pe_int pa_nil)))) pa_nil))) pa_nil)))))))
      (pss_one (ps_expr (pe_bm PySem.F.plainAttrs_list PySem.F.slot_list_append PySem.F.type_list_append mt_append (pv 3) (pa_cons (pe_ix (r := rIxL K) ix_list (pv 6) (pe_call (okLdraw T) (hr.mono (by decide)) rfl T.gLdraw T.fLdraw.kp T.bLdraw .nil pass0 (pa_cons (pv 0) (pa_cons pe_int pa_nil))) (fun _ _ => rfl)) pa_nil)))))))
      (pss_one (ps_ret (pv 3))))), ?_⟩
    refine ⟨(by show 0 ≤ sizeLine; decide), fun f hf => ?_⟩
    have fu := hw.ne hf
    have cf : c ≠ f := ne_of_none hc hf
    refine ⟨_, rfl, c, rfl, ⟨_, (same_new hf).seq (SqL.of hc)⟩, ?_⟩
    refine for_list (K := K) (a := c) (xs := vi caps) (fun i σ H' => ∃ (v1 v2 v3 : Option V) (st : List Int), σ = [some (.ref u), some (.ref c), some (.int p), some (.ref f), v1, v2, v3] ∧ H' f = some (.lst (vi st)) ∧ st.length = i ∧ Part caps p st ∧ WellAt H' u ∧ Fr u H H')
      ⟨none, none, none, [], rfl, upd_same, rfl, Part.nil, hw.new hf, Fr.of (same_new hf)⟩ (fun i σ H' _ ⟨_, _, _, _, _, _, _, _, _, e⟩ => e.sqL cu (SqL.of hc)) ?_ ?_
    · rintro i y σ H' hi ⟨v1, v2, v3, st, rfl, hf', rfl, part, wl, fr⟩
      obtain ⟨z, hz, rfl⟩ := vi_get hi
      have lt : st.length < caps.length := (List.getElem?_eq_some_iff.mp hz).1
      have ez := at0_of hz
      have c6 := hC.l6
      have zlo : 1 ≤ z := by rw [← ez]; exact hC.lo _ lt
      have zhi : z ≤ 1000000000000 := by rw [← ez]; exact hC.hi _ lt
      have t0 : 0 ≤ z * p := Int.mul_nonneg (by omega) (by omega)
      have t1 : z * p ≤ 1000000000000 * 2 ^ 40 := Int.mul_le_mul zhi p2 (by omega) (by decide)
      refine ⟨_, rfl, _, rfl, _, _, rfl, rfl, .inr ⟨by omega, by omega⟩, ?_⟩
      refine ⟨_, rfl, _, rfl, _, rfl, _, _, rfl, rfl, u, z * p + 1, rfl, wl, by omega, by omega, fun H1 a1 l1 w1 f1 => ?_⟩
      refine ⟨_, rfl, _, rfl, u, 3, rfl, w1, by decide, by decide, fun H2 a2 l2 w2 f2 => ?_⟩
      refine ⟨_, _, rfl, _, rfl, _, rfl, u, 3, rfl, w2, by decide, by decide, fun H3 a3 l3 w3 f3 => ?_⟩
      refine ⟨_, _, rfl, rfl, _, _, rfl, (by show 5 ≤ sizeLine; decide), fun s hs => ?_⟩
      have fr3 : Fr u H H3 := ((fr.trans f1).trans f2).trans f3
      have g3 : H3 f = some (.lst (vi st)) := f3 _ _ fu (f2 _ _ fu (f1 _ _ fu hf'))
      have su := w3.ne hs
      have sf : f ≠ s := ne_of_none g3 hs
      have sm : Same H3 (upd H3 s (.lst (vi [0, z * p, (a1 : Int), (if (a2 : Int) < z * p then (a2 : Int) else z * p), (if z * p - (a3 : Int) > 0 then z * p - (a3 : Int) else 0)]))) := same_new hs
      refine ⟨_, rfl, .inl ⟨rfl, _, SqL.of (sm _ _ g3)⟩, _, rfl, _, rfl, u, 5, rfl, w3.new hs, by decide, by decide, fun H4 n hn w4 f4 => ?_⟩
      have n5 : n < 5 := by omega
      have g4 := f4 _ _ fu (sm _ _ g3)
      refine ⟨s, vi [0, z * p, (a1 : Int), (if (a2 : Int) < z * p then (a2 : Int) else z * p), (if z * p - (a3 : Int) > 0 then z * p - (a3 : Int) else 0)], _, _, rfl, rfl, SqL.of (f4 _ _ su upd_same), vi_at n5, ?_⟩
      obtain ⟨r, hr, rb⟩ : ∃ r : Int, at0 [0, z * p, (a1 : Int), (if (a2 : Int) < z * p then (a2 : Int) else z * p), (if z * p - (a3 : Int) > 0 then z * p - (a3 : Int) else 0)] n = r ∧ 0 ≤ r ∧ r ≤ z * p :=
        ⟨_, rfl, pick5 n5 ⟨by omega, by omega⟩ ⟨by omega, by omega⟩ ⟨by omega, by omega⟩ (by split <;> exact ⟨by omega, by omega⟩) (by split <;> exact ⟨by omega, by omega⟩)⟩
      unfold at0 at hr
      rw [hr]
      refine ⟨f, _, _, rfl, rfl, g4, (by rw [List.length_map]; exact Nat.lt_of_lt_of_le (by omega : st.length < 100) (by decide)), ?_⟩
      refine ⟨_, _, _, st ++ [r], rfl, ?_, by simp, part.app rb.1 (by rw [ez]; exact rb.2), w4.mut fu, fr_new ((fr3.trans (Fr.of sm)).trans f4) hf⟩
      rw [upd_same]
      simp
    · rintro σ H' ⟨v1, v2, v3, st, rfl, hf', hl', part, wl, fr⟩
      rw [List.length_map] at hl'
      exact ⟨_, rfl, hq H' f st hf hf' (part.stand hl') wl fr⟩
end
end Kp

namespace Kp
open PySem PySem.Spec PyProof.Rows L2 KpR
theorem six_at {n : Nat} (h : n < 6) : atI (sixW.map fun k => V.str (wn k)) (n : Int) = some (.str (wn (sixW.getD n .pour))) := by
  refine atI_nat ?_
  have h' : n < sixW.length := h
  rw [List.getElem?_map, List.getElem?_eq_getElem h', List.getD_eq_getElem?_getD, List.getElem?_eq_getElem h']
  rfl
theorem pick2 {x y : Int} {c : Bool} : atI [V.int x, V.int y] (if c = true then 1 else 0) = some (.int (if c = true then y else x)) := by
  cases c <;> rfl
theorem wnT {k j : Wd} (h : k = j) : decide (V.str (wn k) = V.str (wn j)) = true := by rw [wn_eq]; exact decide_eq_true h
theorem wnF {k j : Wd} (h : ¬ k = j) : decide (V.str (wn k) = V.str (wn j)) = false := by rw [wn_eq]; exact decide_eq_false h
section
variable {P : Program} {w : World} {K : PySem.W.Frag} {mg : Str → Option Value} {base : Heap}
theorem okLfacts (T : Tx K mg) : FnOk P w K mg base CX0 2 T.aLfacts T.dLfacts ["_law_well_here", "_law_caps_here", "_law_many"] (spLfacts T) := by
  refine T.fLfacts.ok scLfacts (fun vs H Q E h => ?_) (fun cdv A outer s H vs Q E hr h => ?_)
  · obtain ⟨u, c, m, caps, rfl, _⟩ := h
    rfl
  · obtain ⟨u, c, m, caps, rfl, hw, hc, cu, hC, hm, hq⟩ := h
    refine ⟨_, (pss_cons (ps_set (i := 3) scLfacts.nd rfl (by first | exact Or.inl rfl | exact Or.inr rfl) (pe_lst pa_nil))
      (pss_cons (ps_for PassesOwn.never rfl (pi_range1 rfl T.nrange (pa_cons (pv 2) pa_nil)) (pg_name (i := 4) scLfacts.nd rfl (by first | exact Or.inl rfl | exact Or.inr rfl)) (pss_cons (ps_par (i := 5) (j := 6) rfl scLfacts.nd rfl rfl (by decide) rfl rfl (pa_cons (pe_call (okLdraw T) (hr.mono (by decide)) rfl T.gLdraw T.fLdraw.kp T.bLdraw .nil pass0 (pa_cons (pv 0) (pa_cons (pe_callB call_len_seq rfl T.nlen PySem.boot_len (pa_cons (pv 1) pa_nil)) pa_nil))) (pa_cons (pe_call (okLdraw T) (hr.mono (by decide)) rfl T.gLdraw T.fLdraw.kp T.bLdraw .nil pass0 (pa_cons (pv 0) (pa_cons (pe_callB call_len_seq rfl T.nlen PySem.boot_len (pa_cons (pv 1) pa_nil)) pa_nil))) pa_nil)) rfl)
      (pss_cons (ps_set (i := 7) scLfacts.nd rfl (by first | exact Or.inl rfl | exact Or.inr rfl) (pe_ix (r := rIxL K) ix_list (pe_lst (pa_cons pe_int (pa_cons (pe_op op_add pe_int (pe_call (okLdraw T) (hr.mono (by decide)) rfl T.gLdraw T.fLdraw.kp T.bLdraw .nil pass0 (pa_cons (pv 0) (pa_cons (pe_ix (r := rIxL K) ix_list (pv 1) (pv 5) (fun _ _ => rfl)) pa_nil)))) (pa_cons (pe_ix (r := rIxL K) ix_list (pv 1) (pv 5) (fun _ _ => rfl)) (pa_cons (pe_callB (call_min2 rfl) rfl T.nmin (by decide +kernel) (pa_cons (pe_op op_pow pe_int pe_int) (pa_cons (pe_op op_add (pe_ix (r := rIxL K) ix_list (pv 1) (pv 5) (fun _ _ => rfl)) pe_int) pa_nil))) pa_nil))))) (pe_call (okLdraw T) (hr.mono (by decide)) rfl T.gLdraw T.fLdraw.kp T.bLdraw .nil pass0 (pa_cons (pv 0) (pa_cons pe_int pa_nil))) (fun _ _ => rfl)))
      (pss_cons (ps_set (i := 8) scLfacts.nd rfl (by first | exact Or.inl rfl | exact Or.inr rfl) (pe_ix (r := rIxL K) ix_list (pe_lst (pa_cons pe_str (pa_cons pe_str (pa_cons pe_str (pa_cons pe_str (pa_cons pe_str (pa_cons pe_str pa_nil))))))) (pe_call (okLdraw T) (hr.mono (by decide)) rfl T.gLdraw T.fLdraw.kp T.bLdraw .nil pass0 (pa_cons (pv 0) (pa_cons pe_int pa_nil))) (fun _ _ => rfl)))
      (C8.pss_cut (ps_if (PW.pt (pw_and (pt_cmpR op_eq (pv 8) pe_str (nomark _)) (pw_and1 (PW.pt (pw_or (pt_cmpR op_eq (pv 5) (pv 6) (nomark _)) (pw_or1 (pt_cmpR op_ne (pe_ix (r := rIxL K) ix_list (pv 1) (pv 5) (fun _ _ => rfl)) (pe_ix (r := rIxL K) ix_list (pv 1) (pv 6) (fun _ _ => rfl)) (nomark _)))))))) (pss_one (ps_set (i := 8) scLfacts.nd rfl (by first | exact Or.inl rfl | exact Or.inr rfl) pe_str)) pss_nil)
      (C8.pss_cut (ps_if (PW.pt (pw_and (pt_cmpR op_eq (pv 8) pe_str (nomark _)) (pw_and1 (pt_cmpR op_eq (pv 5) (pv 6) (nomark _))))) (pss_one (ps_set (i := 8) scLfacts.nd rfl (by first | exact Or.inl rfl | exact Or.inr rfl) pe_str)) pss_nil)
      (pss_one (ps_expr (pe_bm PySem.F.plainAttrs_list PySem.F.slot_list_append PySem.F.type_list_append mt_append (pv 3) (pa_cons (pe_tup (pa_cons (pv 8) (pa_cons (pv 5) (pa_cons (pe_ix (r := rIxL K) ix_list (pe_lst (pa_cons (pv 6) (pa_cons (pv 7) pa_nil))) (pe_callTy call_int1 rfl T.nint (by decide +kernel) (pa_cons (pe_cmpR (r := rIn K false) op_in_seq (pv 8) (pe_tup (pa_cons pe_str (pa_cons pe_str pa_nil))) (by rfl)) pa_nil)) (fun _ _ => rfl)) pa_nil)))) pa_nil))))))))))
      (pss_one (ps_ret (pv 3))))), ?_⟩
    have c1 := hC.l1
    have c6 := hC.l6
    have vl : (vi caps).length = caps.length := List.length_map ..
    refine ⟨(by show 0 ≤ sizeLine; decide), fun f hf => ?_⟩
    have fu := hw.ne hf
    have cf : c ≠ f := ne_of_none hc hf
    refine ⟨_, rfl, m, rfl, by omega, by omega, ?_⟩
    refine for_range (lo := 0) (n := (m : Int).toNat) (fun i σ H' => ∃ (v4 v5 v6 v7 v8 : Option V) (ts : List V) (ds : List D), σ = [some (.ref u), some (.ref c), some (.int m), some (.ref f), v4, v5, v6, v7, v8] ∧ H' f = some (.lst ts) ∧
        A2 (FactAt H') ts ds ∧ ds.length = i ∧ (∀ d ∈ ds, d.ok caps) ∧ WellAt H' u ∧ Fr u H H')
      ⟨none, none, none, none, none, [], [], rfl, upd_same, trivial, rfl, (fun d h => by cases h), hw.new hf, Fr.of (same_new hf)⟩ ?_ ?_
    · rintro i σ H' hi ⟨v4, v5, v6, v7, v8, ts, ds, rfl, gf, gA, gl, gok, wl, fr⟩
      have gc := fr _ _ cu hc
      refine ⟨_, rfl, _, rfl, c, _, rfl, .inl (SqL.of gc), u, _, rfl, wl, by omega, by omega, fun H1 a la w1 f1 => ?_⟩
      have gc1 := f1 _ _ cu gc
      refine ⟨_, rfl, _, rfl, c, _, rfl, .inl (SqL.of gc1), u, _, rfl, w1, by omega, by omega, fun H2 b lb w2 f2 => ⟨_, _, rfl, ?_⟩⟩
      have gc2 := f2 _ _ cu gc1
      have ha : a < caps.length := by omega
      have hb : b < caps.length := by omega
      have k0 := hC.lo a ha
      have k1 := hC.hi a ha
      refine ⟨_, rfl, _, rfl, _, rfl, c, _, _, _, rfl, rfl, SqL.of gc2, vi_at ha, u, at0 caps a, rfl, w2, k0, by omega, fun H3 x lx w3 f3 => ?_⟩
      have gc3 := f3 _ _ cu gc2
      refine ⟨_, _, rfl, rfl, _, rfl, _, rfl, c, _, _, _, rfl, rfl, SqL.of gc3, vi_at ha, _, _, rfl, rfl, ⟨by decide, by decide, by decide⟩, _, rfl, _, rfl, c, _, _, _, rfl, rfl, SqL.of gc3, vi_at ha, _, _, rfl, rfl, _, _, rfl, (by show 4 ≤ sizeLine; decide), fun s hs => ?_⟩
      have su := w3.ne hs
      have fr3 : Fr u H H3 := ((fr.trans f1).trans f2).trans f3
      have gf3 := f3 _ _ fu (f2 _ _ fu (f1 _ _ fu gf))
      have sm3 : Same H3 (upd H3 s (.lst (vi [1, 1 + (x : Int), at0 caps a, (if at0 caps a + 1 < 10 ^ (12 : Int).toNat then at0 caps a + 1 else 10 ^ (12 : Int).toNat)]))) := same_new hs
      refine ⟨_, rfl, u, 4, rfl, w3.new hs, by decide, by decide, fun H4 n ln w4 f4 => ?_⟩
      have n4 : n < 4 := by omega
      refine ⟨s, vi [1, 1 + (x : Int), at0 caps a, (if at0 caps a + 1 < 10 ^ (12 : Int).toNat then at0 caps a + 1 else 10 ^ (12 : Int).toNat)], _, _, rfl, rfl, SqL.of (f4 _ _ su upd_same), vi_at n4, ?_⟩
      obtain ⟨mu, hmu, mb⟩ : ∃ r : Int, at0 [1, 1 + (x : Int), at0 caps a, (if at0 caps a + 1 < 10 ^ (12 : Int).toNat then at0 caps a + 1 else 10 ^ (12 : Int).toNat)] n = r ∧ 1 ≤ r ∧ r ≤ 1000000000000 :=
        ⟨_, rfl, pick4 n4 ⟨by omega, by omega⟩ ⟨by omega, by omega⟩ ⟨by omega, by omega⟩ (by
          have e12 : (10 : Int) ^ (12 : Int).toNat = 1000000000000 := by decide
          rw [e12]
          split <;> exact ⟨by omega, by omega⟩)⟩
      unfold at0 at hmu
      unfold at0
      rw [hmu]
      refine ⟨(by show 6 ≤ sizeLine; decide), fun s2 hs2 => ?_⟩
      have s2u := w4.ne hs2
      have fr4 : Fr u H H4 := (fr3.trans (Fr.of sm3)).trans f4
      have gf4 := f4 _ _ fu (sm3 _ _ gf3)
      have gc4 := f4 _ _ cu (sm3 _ _ gc3)
      have sm4 : Same H4 (upd H4 s2 (.lst (sixW.map fun k => V.str (wn k)))) := same_new hs2
      refine ⟨_, rfl, u, 6, rfl, w4.new hs2, by decide, by decide, fun H5 n2 ln2 w5 f5 => ?_⟩
      have n6 : n2 < 6 := by omega
      refine ⟨s2, sixW.map fun k => V.str (wn k), _, _, rfl, rfl, SqL.of (f5 _ _ s2u upd_same), six_at n6, ?_⟩
      generalize sixW.getD n2 .pour = k0'
      have fr5 : Fr u H H5 := (fr4.trans (Fr.of sm4)).trans f5
      have gf5 := f5 _ _ fu (sm4 _ _ gf4)
      have gc5 := f5 _ _ cu (sm4 _ _ gc4)
      have gA5 : A2 (FactAt H5) ts ds := by
        obtain ⟨o, ho, hb⟩ := wl.ex
        exact A2.mono (fun _ _ q => q.fr (((((f1.trans f2).trans f3).trans (Fr.of sm3)).trans f4).trans ((Fr.of sm4).trans f5)) ho hb) gA
      refine ⟨fun σ' H' => ∃ k : Wd, σ' = [some (.ref u), some (.ref c), some (.int m), some (.ref f), some (.int (0 + (i : Int))), some (.int a), some (.int b), some (.int mu), some (.str (wn k))] ∧ H' = H5 ∧ (k = .change → a ≠ b ∧ at0 caps a = at0 caps b), ?_, ?_⟩
      · refine ⟨_, rfl, rfl, _, rfl, ?_⟩
        by_cases hk : k0' = .change
        · refine ifT (wnT (j := .change) hk) ⟨_, rfl, _, rfl, rfl, _, rfl, ifD (fun _ => ifT rfl ⟨.pour, rfl, rfl, fun z => by cases z⟩) (fun hab => ?_)⟩
          refine ⟨_, rfl, _, rfl, c, _, _, _, rfl, rfl, SqL.of gc5, vi_at ha, _, rfl, _, rfl, c, _, _, _, rfl, rfl, SqL.of gc5, vi_at hb, rfl, _, rfl, ifN (fun hcap => ⟨k0', rfl, rfl, fun _ => ⟨fun z => hab (by rw [z]), ?_⟩⟩) (fun _ => ⟨.pour, rfl, rfl, fun z => by cases z⟩)⟩
          injection hcap
        · exact ifF (wnF (j := .change) hk) (ifF rfl ⟨k0', rfl, rfl, fun z => absurd z hk⟩)
      · rintro σ' H' ⟨k, rfl, rfl, hk⟩
        refine ⟨fun σ' H'' => ∃ k : Wd, σ' = [some (.ref u), some (.ref c), some (.int m), some (.ref f), some (.int (0 + (i : Int))), some (.int a), some (.int b), some (.int mu), some (.str (wn k))] ∧ H'' = H' ∧ (k = .change → a ≠ b ∧ at0 caps a = at0 caps b) ∧ (k = .pour → a ≠ b), ?_, ?_⟩
        · refine ⟨_, rfl, rfl, _, rfl, ?_⟩
          by_cases hp : k = .pour
          · exact ifT (wnT (j := .pour) hp) ⟨_, rfl, _, rfl, rfl, _, rfl, ifD (fun _ => ⟨.put, rfl, rfl, (fun z => by cases z), fun z => by cases z⟩) (fun hab => ⟨k, rfl, rfl, hk, fun _ z => hab (by rw [z])⟩)⟩
          · exact ifF (wnF (j := .pour) hp) (ifF rfl ⟨k, rfl, rfl, hk, fun z => absurd z hp⟩)
        · rintro σ' H'' ⟨k, rfl, rfl, hk, hp⟩
          refine ⟨_, rfl, .inl ⟨rfl, _, SqL.of gf5⟩, _, rfl, _, rfl, _, rfl, _, rfl, (by show 2 ≤ sizeLine; decide), fun s3 hs3 => ?_⟩
          have sm5 : Same H'' (upd H'' s3 (.lst [.int b, .int mu])) := same_new hs3
          refine ⟨_, rfl, (by show 2 ≤ sizeLine; decide), fun s4 hs4 => ?_⟩
          have sm6 := sm5.trans (same_new (o := .tup [.str "put", .str "draw"]) hs4)
          have n34 : s3 ≠ s4 := fun z => by rw [← z, upd_same] at hs4; cases hs4
          refine ⟨s4, _, rfl, .inr (SqT.of upd_same), rfl, rfl, .inr ⟨_, rfl, s3, _, _, _, rfl, rfl, SqL.of (by rw [upd_ne n34]; exact upd_same), pick2, (by show 3 ≤ sizeLine; decide), fun t ht => ?_⟩⟩
          have sm7 := sm6.trans (same_new (o := .tup [.str (wn k), .int a, .int (if inV (.str (wn k)) [.str "put", .str "draw"] = true then mu else (b : Int))]) ht)
          have tf : f ≠ t := ne_of_none (sm6 _ _ gf5) ht
          have tl := gA5.len
          refine ⟨f, _, _, rfl, rfl, sm7 _ _ gf5, Nat.lt_of_lt_of_le (by omega : ts.length < 100) (by decide), ?_⟩
          have bl : Fr f (upd (upd (upd H'' s3 (.lst [.int b, .int mu])) s4 (.tup [.str "put", .str "draw"])) t (.tup [.str (wn k), .int a, .int (if inV (.str (wn k)) [.str "put", .str "draw"] = true then mu else (b : Int))])) _ := fr_mut (o := .lst (ts ++ [.ref t])) (Fr.refl _ _)
          refine ⟨_, _, _, _, _, ts ++ [.ref t], ds ++ [mkD k a b mu], rfl, upd_same, ?_, by simp [gl], ?_, ?_, ?_⟩
          · refine A2.app (A2.mono (fun _ _ q => (q.same sm7).fr bl (sm7 _ _ gf5) bl_l) gA5) ⟨⟨t, rfl, ?_⟩, trivial⟩
            refine bl _ _ tf.symm ?_
            rw [upd_same, mkD_word, mkD_fst, mkD_last, inV_word]
            by_cases hpd : k = .put ∨ k = .draw
            · rw [if_pos hpd, if_pos (decide_eq_true hpd)]
            · rw [if_neg hpd, if_neg (by rw [decide_eq_false hpd]; exact Bool.false_ne_true)]
          · intro d hd
            rcases List.mem_append.mp hd with q | q
            · exact gok d q
            · obtain rfl : d = mkD k a b mu := by simpa using q
              exact mkD_ok ha hb mb.1 mb.2 hp hk
          · exact (w5.same sm7).mut fu
          · exact fr_new (fr5.trans (Fr.of sm7)) hf
    · rintro σ H' ⟨v4, v5, v6, v7, v8, ts, ds, rfl, gf, gA, gl, gok, wl, fr⟩
      rw [Int.toNat_natCast] at gl
      exact ⟨_, rfl, hq H' f ts ds hf gf gA gl gok wl fr⟩
end
end Kp

namespace Kp
open PySem PySem.Spec PyProof.Rows L2 KpR
/-! ### lists of ints compared; slices -/
def pdI (l : List Int) : List PyData := l.map PyData.int
section
variable {K : PySem.W.Frag} {H : Hp}
theorem dpI : ∀ l : List Int, DpAll K H (vi l) (pdI l)
  | [] => .nil
  | i :: l => .cons (.int i) (dpI l)
theorem lay_i : ∀ l : List Int, PyData.canLayAll0 (pdI l) = true
  | [] => by simp [pdI, PyData.canLayAll0]
  | i :: l => by
    have := lay_i l
    simp only [pdI, List.map_cons, PyData.canLayAll0, PyData.canLay0, Bool.true_and]
    exact this
theorem dep_i : ∀ l : List Int, PyData.depthAll (pdI l) = 0
  | [] => by simp [pdI, PyData.depthAll]
  | i :: l => by
    have := dep_i l
    simp only [pdI, List.map_cons, PyData.depthAll, PyData.depth]
    rw [show PyData.depthAll (List.map PyData.int l) = 0 from this]
    rfl
theorem shape_i (l : List Int) : SeqAt.shaped (.list (pdI l)) = true := by
  unfold SeqAt.shaped
  simp only [PyData.canLay0, PyData.depth, lay_i, dep_i]
  rfl
theorem eqv_i : ∀ l m : List Int, PyData.eqvAll (pdI l) (pdI m) = decide (l = m)
  | [], [] => by simp [pdI, PyData.eqvAll]
  | [], _ :: _ => by simp [pdI, PyData.eqvAll]
  | _ :: _, [] => by simp [pdI, PyData.eqvAll]
  | i :: l, j :: m => by
    have := eqv_i l m
    simp only [pdI, List.map_cons, PyData.eqvAll, PyData.eqv]
    rw [show PyData.eqvAll (List.map PyData.int l) (List.map PyData.int m) = decide (l = m) from this]
    by_cases h1 : i = j
    · by_cases h2 : l = m <;> simp [h1, h2]
    · simp [h1]
theorem ne_ints {a b : Addr} {l m : List Int} {Q : VK} (h1 : SqL K H a (vi l)) (h2 : SqL K H b (vi m)) (e : l = m) (q : Q (.bl false) H) : rNeD K (.ref a) (.ref b) H Q := by
  refine ⟨_, _, .lst h1 (dpI l), .lst h2 (dpI m), shape_i l, shape_i m, ?_⟩
  have z : PyData.eqv (.list (pdI l)) (.list (pdI m)) = true := by
    simp only [PyData.eqv, eqv_i]
    exact decide_eq_true e
  rw [z]
  exact q
theorem eq_ints {a b : Addr} {l m : List Int} {Q : VK} (h1 : SqL K H a (vi l)) (h2 : SqL K H b (vi m)) (q : Q (.bl (decide (l = m))) H) : rEqD K (.ref a) (.ref b) H Q := by
  refine ⟨_, _, .lst h1 (dpI l), .lst h2 (dpI m), shape_i l, shape_i m, ?_⟩
  have z : PyData.eqv (.list (pdI l)) (.list (pdI m)) = decide (l = m) := by simp only [PyData.eqv, eqv_i]
  rw [z]
  exact q
end
theorem cut_take {xs : List V} {n : Nat} : cutV xs none (some (n : Int)) = xs.take n := by
  unfold cutV
  rw [HT.sIx_nat, HT.sIx_none, List.drop_zero, Nat.sub_zero]
  by_cases h : n ≤ xs.length
  · rw [Nat.min_eq_left h]
  · rw [Nat.min_eq_right (by omega), List.take_length, List.take_of_length_le (by omega)]
theorem cut_drop {xs : List V} {n : Nat} (h : n ≤ xs.length) : cutV xs (some (n : Int)) none = xs.drop n := by
  unfold cutV
  rw [HT.sIx_nat, HT.sIx_none, Nat.min_eq_left h]
  exact List.take_of_length_le (by rw [List.length_drop]; omega)
section
variable {K : PySem.W.Frag} {mg : Str → Option Value}
/-- behind's keywords -/
theorem kbParts (T : Tx K mg) : ∃ mv : List Value, KBn K T.dbehind ["row", "start", "parts", "times"] 2 ["parts"] (fun us ws => us ++ (ws ++ mv)) (fun vs zs => vs ++ (zs ++ [.int 1])) :=
  T.fbehind.kbinds0 2 ["parts"] [("times", .int 1)] (fun vs mz zs => vs ++ (zs ++ mz)) (by simp) (by simp) (fun r1 r2 r3 => r1.append (r3.append r2))
    (fun Dd doc pm an cdv ct us mv ws h1 h2 h3 => match us, mv, ws, h1, h2, h3 with
      | [_, _], [_], [_], _, _, _ => ⟨_, _, _, _, _, _, rfl, rfl, rfl⟩)
theorem kbTimes (T : Tx K mg) : ∃ mv : List Value, KBn K T.dbehind ["row", "start", "parts", "times"] 2 ["times"] (fun us ws => us ++ (mv ++ ws)) (fun vs zs => vs ++ ([.int 1] ++ zs)) :=
  T.fbehind.kbinds0 2 ["times"] [("parts", .int 1)] (fun vs mz zs => vs ++ (mz ++ zs)) (by simp) (by simp) (fun r1 r2 r3 => r1.append (r2.append r3))
    (fun Dd doc pm an cdv ct us mv ws h1 h2 h3 => match us, mv, ws, h1, h2, h3 with
      | [_, _], [_], [_], _, _, _ => ⟨_, _, _, _, _, _, rfl, rfl, rfl⟩)
theorem kbBoth (T : Tx K mg) : ∃ mv : List Value, KBn K T.dbehind ["row", "start", "parts", "times"] 2 ["parts", "times"] (fun us ws => us ++ ws) (fun vs zs => vs ++ zs) :=
  T.fbehind.kbinds0 2 ["parts", "times"] [] (fun vs mz zs => vs ++ zs) (by simp) (by simp) (fun r1 r2 r3 => r1.append r3)
    (fun Dd doc pm an cdv ct us mv ws h1 h2 h3 => match us, mv, ws, h1, h2, h3 with
      | [_, _], [], [_, _], _, _, _ => rfl)
end
section
variable {K : PySem.W.Frag} {H : Hp}
/-- a written list of ints, one of which is drawn -/
theorem pickL {l : Addr} {xs : List Int} {n : Nat} {Q : VK} (h : SqL K H l (vi xs)) (hn : n < xs.length) (q : Q (.int (at0 xs n)) H) : rIxL K (.ref l) (.int n) H Q := ⟨l, _, _, _, rfl, rfl, h, vi_at hn, q⟩
end
end Kp

namespace Kp
open PySem PySem.Spec PyProof.Rows L2 KpR
theorem eq_tups {K : PySem.W.Frag} {H : Hp} {a b : Addr} {l m : List Int} {Q : VK} (h1 : SqT K H a (vi l)) (h2 : SqT K H b (vi m)) (e : l = m) (q : Q (.bl true) H) : rEqD K (.ref a) (.ref b) H Q := by
  have sh : ∀ l : List Int, SeqAt.shaped (.tuple (pdI l)) = true := fun l => by
    unfold SeqAt.shaped
    simp only [PyData.canLay0, PyData.depth, lay_i, dep_i]
    rfl
  refine ⟨_, _, .tup h1 (dpI l), .tup h2 (dpI m), sh l, sh m, ?_⟩
  have z : PyData.eqv (.tuple (pdI l)) (.tuple (pdI m)) = true := by
    simp only [PyData.eqv, eqv_i]
    exact decide_eq_true e
  rw [z]
  exact q
end Kp

namespace Kp
open PySem PySem.Spec PyProof.Rows L2 KpR
section
variable {K : PySem.W.Frag} {mg : Str → Option Value}
def RJars (T : Tx K mg) (a b : Addr) (H : Hp) : Prop := ∃ caps, JarsAt T H a caps ∧ JarsAt T H b caps
def RPour (T : Tx K mg) (a b : Addr) (H : Hp) : Prop := ∃ x y, DeedAt T H (.ref a) (.pour x y) ∧ DeedAt T H (.ref b) (.pour x y)
def RPut (T : Tx K mg) (a b : Addr) (H : Hp) : Prop := ∃ x k, DeedAt T H (.ref a) (.put x k) ∧ DeedAt T H (.ref b) (.put x k)
def RDraw (T : Tx K mg) (a b : Addr) (H : Hp) : Prop := ∃ x k, DeedAt T H (.ref a) (.draw x k) ∧ DeedAt T H (.ref b) (.draw x k)
def RChange (T : Tx K mg) (a b : Addr) (H : Hp) : Prop := ∃ x y, DeedAt T H (.ref a) (.change x y) ∧ DeedAt T H (.ref b) (.change x y)
def RRow (T : Tx K mg) (a b : Addr) (H : Hp) : Prop := ∃ caps ds, RowAt T H a caps ds ∧ RowAt T H b caps ds
def spJarsEq (T : Tx K mg) : Sp := spEq (RJars T)
def spPourEq (T : Tx K mg) : Sp := spEq (RPour T)
def spPutEq (T : Tx K mg) : Sp := spEq (RPut T)
def spDrawEq (T : Tx K mg) : Sp := spEq (RDraw T)
def spChangeEq (T : Tx K mg) : Sp := spEq (RChange T)
def spRowEq (T : Tx K mg) : Sp := spEq (RRow T)
def DDeed (T : Tx K mg) : Eqv := fun x y H => DIns T.cPour (RPour T) x y H ∨ DIns T.cPut (RPut T) x y H ∨ DIns T.cDraw (RDraw T) x y H ∨ DIns T.cChange (RChange T) x y H
theorem ddeed {T : Tx K mg} {H : Hp} {u v : V} {d : D} (h1 : DeedAt T H u d) (h2 : DeedAt T H v d) : DDeed T u v H := by
  obtain ⟨p, dx, rfl, g1⟩ := id h1
  obtain ⟨q, dy, rfl, g2⟩ := id h2
  cases d with
  | pour a b => exact .inl ⟨p, q, dx, dy, _, _, rfl, rfl, g1, g2, _, _, h1, h2⟩
  | put a k => exact .inr (.inl ⟨p, q, dx, dy, _, _, rfl, rfl, g1, g2, _, _, h1, h2⟩)
  | draw a k => exact .inr (.inr (.inl ⟨p, q, dx, dy, _, _, rfl, rfl, g1, g2, _, _, h1, h2⟩))
  | change a b => exact .inr (.inr (.inr ⟨p, q, dx, dy, _, _, rfl, rfl, g1, g2, _, _, h1, h2⟩))
theorem mon_deeds (T : Tx K mg) : Mon (DDeed T) :=
  Mon.or (mon_ins fun _ _ _ _ e ⟨x, y, h1, h2⟩ => ⟨x, y, h1.same e, h2.same e⟩) (Mon.or (mon_ins fun _ _ _ _ e ⟨x, y, h1, h2⟩ => ⟨x, y, h1.same e, h2.same e⟩)
    (Mon.or (mon_ins fun _ _ _ _ e ⟨x, y, h1, h2⟩ => ⟨x, y, h1.same e, h2.same e⟩) (mon_ins fun _ _ _ _ e ⟨x, y, h1, h2⟩ => ⟨x, y, h1.same e, h2.same e⟩)))
theorem prs_deeds {T : Tx K mg} {H : Hp} {us vs : List V} {ds : List D} (h1 : A2 (DeedAt T H) us ds) (h2 : A2 (DeedAt T H) vs ds) : Prs (DDeed T) us vs H := by
  refine ⟨h1.len.trans h2.len.symm, fun i x y hx hy => ?_⟩
  obtain ⟨d, hd, r1⟩ := h1.get hx
  obtain ⟨e, he, r2⟩ := h2.get hy
  rw [hd] at he
  cases he
  exact ddeed r1 r2
end
section
variable {P : Program} {w : World} {K : PySem.W.Frag} {mg : Str → Option Value} {base : Heap}
theorem okJarsEq (T : Tx K mg) : FnOk P w K mg base CX0 1 T.aJarsEq T.dJarsEq ["self", "other"] (spJarsEq T) := by
  refine T.fJarsEq.ok scJarsEq (fun vs H Q E h => ?_) (fun cdv A outer s H vs Q E hr h => ?_)
  · obtain ⟨a, b, rfl, _⟩ := h
    rfl
  · obtain ⟨a, b, rfl, ⟨caps, ⟨dx, t, h1, h2⟩, ⟨dy, u, g1, g2⟩⟩, hq⟩ := h
    refine ⟨_, (pss_one (ps_ret (pe_and (pe_callB call_isi rfl T.nisinstance (by decide +kernel) (pa_cons (pv 1) (pa_cons (pe_glob (v := .ref T.cJars) rfl T.mJars rfl) pa_nil))) (pe_one (pe_cmpR (op_eqD hr.units) (pe_fld (pv 0) rfl) (pe_fld (pv 1) rfl) (nomark _)))))), ?_⟩
    refine ⟨_, rfl, .ref b, .ref T.cJars, _, _, true, rfl, .own _, .base (.ins g1 T.lJars T.yJars.ha T.yJars.hn T.yJars.ht T.yJars.hm), T.iJars_Jars, _, rfl, ifT rfl ?_⟩
    refine ⟨_, rfl, a, _, dx, _, _, rfl, h1, T.lJars, T.nJars_sizes, lk1, _, rfl, b, _, dy, _, _, rfl, g1, T.lJars, T.nJars_sizes, lk1, eq_tups (SqT.of h2) (SqT.of g2) rfl (hq _ Ext.rfl')⟩
theorem okPourEq (T : Tx K mg) : FnOk P w K mg base CX0 1 T.aPourEq T.dPourEq ["self", "other"] (spPourEq T) := by
  refine T.fPourEq.ok scPourEq (fun vs H Q E h => ?_) (fun cdv A outer s H vs Q E hr h => ?_)
  · obtain ⟨a, b, rfl, _⟩ := h
    rfl
  · obtain ⟨a, b, rfl, ⟨x, y, ⟨p, dx, e1, h1⟩, ⟨q, dy, e2, g1⟩⟩, hq⟩ := h
    cases e1
    cases e2
    refine ⟨_, (pss_one (ps_ret (pe_and (pe_callB call_isi rfl T.nisinstance (by decide +kernel) (pa_cons (pv 1) (pa_cons (pe_glob (v := .ref T.cPour) rfl T.mPour rfl) pa_nil))) (pe_and (pe_cmpR op_eq (pe_fld (pv 0) rfl) (pe_fld (pv 1) rfl) (nomark _)) (pe_one (pe_cmpR op_eq (pe_fld (pv 0) rfl) (pe_fld (pv 1) rfl) (nomark _))))))), ?_⟩
    refine ⟨_, rfl, .ref b, .ref T.cPour, _, _, true, rfl, .own _, .base (.ins g1 T.lPour T.yPour.ha T.yPour.hn T.yPour.ht T.yPour.hm), T.iPour_Pour, _, rfl, ifT rfl ?_⟩
    refine ⟨_, rfl, a, _, dx, _, _, rfl, h1, T.lPour, T.nPour_a, lk1, _, rfl, b, _, dy, _, _, rfl, g1, T.lPour, T.nPour_a, lk1, rfl, _, rfl, ifT (decide_eq_true rfl) ?_⟩
    refine ⟨_, rfl, a, _, dx, _, _, rfl, h1, T.lPour, T.nPour_b, lk2 (by decide +kernel), _, rfl, b, _, dy, _, _, rfl, g1, T.lPour, T.nPour_b, lk2 (by decide +kernel), rfl, ?_⟩
    exact (congrArg (fun c => Q (V.bl c) H) (decide_eq_true rfl)).mpr (hq _ Ext.rfl')
theorem okPutEq (T : Tx K mg) : FnOk P w K mg base CX0 1 T.aPutEq T.dPutEq ["self", "other"] (spPutEq T) := by
  refine T.fPutEq.ok scPutEq (fun vs H Q E h => ?_) (fun cdv A outer s H vs Q E hr h => ?_)
  · obtain ⟨a, b, rfl, _⟩ := h
    rfl
  · obtain ⟨a, b, rfl, ⟨x, y, ⟨p, dx, e1, h1⟩, ⟨q, dy, e2, g1⟩⟩, hq⟩ := h
    cases e1
    cases e2
    refine ⟨_, (pss_one (ps_ret (pe_and (pe_callB call_isi rfl T.nisinstance (by decide +kernel) (pa_cons (pv 1) (pa_cons (pe_glob (v := .ref T.cPut) rfl T.mPut rfl) pa_nil))) (pe_and (pe_cmpR op_eq (pe_fld (pv 0) rfl) (pe_fld (pv 1) rfl) (nomark _)) (pe_one (pe_cmpR op_eq (pe_fld (pv 0) rfl) (pe_fld (pv 1) rfl) (nomark _))))))), ?_⟩
    refine ⟨_, rfl, .ref b, .ref T.cPut, _, _, true, rfl, .own _, .base (.ins g1 T.lPut T.yPut.ha T.yPut.hn T.yPut.ht T.yPut.hm), T.iPut_Put, _, rfl, ifT rfl ?_⟩
    refine ⟨_, rfl, a, _, dx, _, _, rfl, h1, T.lPut, T.nPut_a, lk1, _, rfl, b, _, dy, _, _, rfl, g1, T.lPut, T.nPut_a, lk1, rfl, _, rfl, ifT (decide_eq_true rfl) ?_⟩
    refine ⟨_, rfl, a, _, dx, _, _, rfl, h1, T.lPut, T.nPut_k, lk2 (by decide +kernel), _, rfl, b, _, dy, _, _, rfl, g1, T.lPut, T.nPut_k, lk2 (by decide +kernel), rfl, ?_⟩
    exact (congrArg (fun c => Q (V.bl c) H) (decide_eq_true rfl)).mpr (hq _ Ext.rfl')
theorem okDrawEq (T : Tx K mg) : FnOk P w K mg base CX0 1 T.aDrawEq T.dDrawEq ["self", "other"] (spDrawEq T) := by
  refine T.fDrawEq.ok scDrawEq (fun vs H Q E h => ?_) (fun cdv A outer s H vs Q E hr h => ?_)
  · obtain ⟨a, b, rfl, _⟩ := h
    rfl
  · obtain ⟨a, b, rfl, ⟨x, y, ⟨p, dx, e1, h1⟩, ⟨q, dy, e2, g1⟩⟩, hq⟩ := h
    cases e1
    cases e2
    refine ⟨_, (pss_one (ps_ret (pe_and (pe_callB call_isi rfl T.nisinstance (by decide +kernel) (pa_cons (pv 1) (pa_cons (pe_glob (v := .ref T.cDraw) rfl T.mDraw rfl) pa_nil))) (pe_and (pe_cmpR op_eq (pe_fld (pv 0) rfl) (pe_fld (pv 1) rfl) (nomark _)) (pe_one (pe_cmpR op_eq (pe_fld (pv 0) rfl) (pe_fld (pv 1) rfl) (nomark _))))))), ?_⟩
    refine ⟨_, rfl, .ref b, .ref T.cDraw, _, _, true, rfl, .own _, .base (.ins g1 T.lDraw T.yDraw.ha T.yDraw.hn T.yDraw.ht T.yDraw.hm), T.iDraw_Draw, _, rfl, ifT rfl ?_⟩
    refine ⟨_, rfl, a, _, dx, _, _, rfl, h1, T.lDraw, T.nDraw_a, lk1, _, rfl, b, _, dy, _, _, rfl, g1, T.lDraw, T.nDraw_a, lk1, rfl, _, rfl, ifT (decide_eq_true rfl) ?_⟩
    refine ⟨_, rfl, a, _, dx, _, _, rfl, h1, T.lDraw, T.nDraw_k, lk2 (by decide +kernel), _, rfl, b, _, dy, _, _, rfl, g1, T.lDraw, T.nDraw_k, lk2 (by decide +kernel), rfl, ?_⟩
    exact (congrArg (fun c => Q (V.bl c) H) (decide_eq_true rfl)).mpr (hq _ Ext.rfl')
theorem okChangeEq (T : Tx K mg) : FnOk P w K mg base CX0 1 T.aChangeEq T.dChangeEq ["self", "other"] (spChangeEq T) := by
  refine T.fChangeEq.ok scChangeEq (fun vs H Q E h => ?_) (fun cdv A outer s H vs Q E hr h => ?_)
  · obtain ⟨a, b, rfl, _⟩ := h
    rfl
  · obtain ⟨a, b, rfl, ⟨x, y, ⟨p, dx, e1, h1⟩, ⟨q, dy, e2, g1⟩⟩, hq⟩ := h
    cases e1
    cases e2
    refine ⟨_, (pss_one (ps_ret (pe_and (pe_callB call_isi rfl T.nisinstance (by decide +kernel) (pa_cons (pv 1) (pa_cons (pe_glob (v := .ref T.cChange) rfl T.mChange rfl) pa_nil))) (pe_and (pe_cmpR op_eq (pe_fld (pv 0) rfl) (pe_fld (pv 1) rfl) (nomark _)) (pe_one (pe_cmpR op_eq (pe_fld (pv 0) rfl) (pe_fld (pv 1) rfl) (nomark _))))))), ?_⟩
    refine ⟨_, rfl, .ref b, .ref T.cChange, _, _, true, rfl, .own _, .base (.ins g1 T.lChange T.yChange.ha T.yChange.hn T.yChange.ht T.yChange.hm), T.iChange_Change, _, rfl, ifT rfl ?_⟩
    refine ⟨_, rfl, a, _, dx, _, _, rfl, h1, T.lChange, T.nChange_a, lk1, _, rfl, b, _, dy, _, _, rfl, g1, T.lChange, T.nChange_a, lk1, rfl, _, rfl, ifT (decide_eq_true rfl) ?_⟩
    refine ⟨_, rfl, a, _, dx, _, _, rfl, h1, T.lChange, T.nChange_b, lk2 (by decide +kernel), _, rfl, b, _, dy, _, _, rfl, g1, T.lChange, T.nChange_b, lk2 (by decide +kernel), rfl, ?_⟩
    exact (congrArg (fun c => Q (V.bl c) H) (decide_eq_true rfl)).mpr (hq _ Ext.rfl')
end
theorem eqG_deeds {X : Cx} {K : PySem.W.Frag} {mg : Str → Option Value} (T : Tx K mg) (hK : X.K = K := by rfl) (hm : X.mg = mg := by rfl) : EqG X 1 (DDeed T) := by
  subst hK
  subst hm
  exact EqG.or (eqG_ins (E := E0) (okPourEq T) T.ePourEq T.eiPourEq T.bPourEq pass0) (EqG.or (eqG_ins (E := E0) (okPutEq T) T.ePutEq T.eiPutEq T.bPutEq pass0)
    (EqG.or (eqG_ins (E := E0) (okDrawEq T) T.eDrawEq T.eiDrawEq T.bDrawEq pass0) (eqG_ins (E := E0) (okChangeEq T) T.eChangeEq T.eiChangeEq T.bChangeEq pass0)))
section
variable {P : Program} {w : World} {K : PySem.W.Frag} {mg : Str → Option Value} {base : Heap}
theorem okRowEq (T : Tx K mg) : FnOk P w K mg base CX0 3 T.aRowEq T.dRowEq ["self", "other"] (spRowEq T) := by
  refine T.fRowEq.ok scRowEq (fun vs H Q E h => ?_) (fun cdv A outer s H vs Q E hr h => ?_)
  · obtain ⟨a, b, rfl, _⟩ := h
    rfl
  · obtain ⟨a, b, rfl, ⟨caps, ds, ⟨dx, j1, t1, vs1, h1, hj1, ht1, hA1⟩, ⟨dy, j2, t2, vs2, g1, gj1, gt1, gA1⟩⟩, hq⟩ := h
    refine ⟨_, (pss_one (ps_ret (pe_and (pe_callB call_isi rfl T.nisinstance (by decide +kernel) (pa_cons (pv 1) (pa_cons (pe_glob (v := .ref T.cRow) rfl T.mRow rfl) pa_nil))) (pe_and (pe_cmpR (op_eqG (rcG_ins (E := E0) (okJarsEq T) T.eJarsEq T.eiJarsEq T.bJarsEq pass0) (hr.mono (by decide))) (pe_fld (pv 0) rfl) (pe_fld (pv 1) rfl) (nomark _)) (pe_one (pe_cmpR (op_eqG (n := 2) (rcG_tup (n := 1) (D := DDeed T) (mon_deeds T) (eqG_deeds T)) (hr.mono (by decide))) (pe_fld (pv 0) rfl) (pe_fld (pv 1) rfl) (nomark _))))))), ?_⟩
    refine ⟨_, rfl, .ref b, .ref T.cRow, _, _, true, rfl, .own _, .base (.ins g1 T.lRow T.yRow.ha T.yRow.hn T.yRow.ht T.yRow.hm), T.iRow_Row, _, rfl, ifT rfl ?_⟩
    obtain ⟨ex, s1, k1, k2⟩ := id hj1
    obtain ⟨ey, s2, m1, m2⟩ := id gj1
    refine ⟨_, rfl, a, _, dx, _, _, rfl, h1, T.lRow, T.nRow_jars, lk1, _, rfl, b, _, dy, _, _, rfl, g1, T.lRow, T.nRow_jars, lk1, ⟨j1, j2, ex, ey, _, _, rfl, rfl, k1, m1, caps, hj1, gj1⟩, fun H1 e1 => ⟨_, rfl, ifT rfl ?_⟩⟩
    refine ⟨_, rfl, a, _, dx, _, _, rfl, e1 _ _ h1, T.lRow, T.nRow_deeds, lk2 (by decide +kernel), _, rfl, b, _, dy, _, _, rfl, e1 _ _ g1, T.lRow, T.nRow_deeds, lk2 (by decide +kernel), ⟨t1, t2, vs1, vs2, rfl, rfl, SqT.of (e1 _ _ ht1), SqT.of (e1 _ _ gt1), ?_⟩, fun H2 e2 => hq _ (Ext.trans e1 e2)⟩
    exact prs_deeds (A2.mono (fun _ _ k => k.same e1) hA1) (A2.mono (fun _ _ k => k.same e1) gA1)
end
end Kp

namespace Kp
open PySem PySem.Spec PyProof.Rows L2 KpR
theorem turn_fst (d : D) : d.turn.fst = (match d with | .pour _ b => b | _ => d.fst) := by cases d <;> rfl
theorem many11 {k : Nat} (h : k < 5) : ∃ m : Nat, at0 [1, 2, 5, 20, 0] k = (m : Int) ∧ m ≤ 20 := by
  match k, h with
  | 0, _ => exact ⟨1, rfl, by decide⟩
  | 1, _ => exact ⟨2, rfl, by decide⟩
  | 2, _ => exact ⟨5, rfl, by decide⟩
  | 3, _ => exact ⟨20, rfl, by decide⟩
  | 4, _ => exact ⟨0, rfl, by decide⟩
/-- [.. for a, b in zip(xs, ys)], two lists of one length -/
theorem lc_zipK {K : PySem.W.Frag} {a b : Addr} {xs ys : List V} {g : TG} {tt : TT} {te : TE} {vs : List Nat} {σ : L2.St} {H1 : Hp} {Dd : Addr} {Qd : Hp → Prop} (hl : xs.length = ys.length) (Pv : Nat → Hp → Prop) (h0 : Pv 0 (upd H1 Dd (.lst [])))
    (hq : ∀ i H, Pv i H → SqL K H a xs ∧ SqL K H b ys)
    (hs : ∀ i x y T H, xs[i]? = some x → ys[i]? = some y → Pv i H → H T = none → g (.ref T) (wipe σ vs) (upd H T (.tup [x, y])) fun σ2 H2 => wipe σ2 vs = wipe σ vs ∧ tt σ2 H2 fun c H3 =>
      if c = true then te σ2 H3 fun z H4 => ∃ acc, H4 Dd = some (.lst acc) ∧ acc.length < sizeLine ∧ Pv (i + 1) (upd H4 Dd (.lst (acc ++ [z]))) else Pv (i + 1) H3)
    (hd : ∀ H, Pv xs.length H → Qd H) :
    ∃ W : Nat → Nat → Hp → Prop, (∃ m, W 0 m (upd H1 Dd (.lst []))) ∧ ∀ i m H, W i m H →
      ((Itz K a b).stop i H ∧ Qd H) ∨ ((Itz K a b).go i H ∧ ∃ Nx : Hp → Prop, (∀ H', Nx H' → ∃ m', m' < m ∧ W (i + 1) m' H') ∧ ∀ x H', (Itz K a b).yld i H x H' → g x (wipe σ vs) H' fun σ2 H2 => wipe σ2 vs = wipe σ vs ∧ tt σ2 H2 fun c H3 =>
        if c = true then te σ2 H3 fun y H4 => ∃ acc, H4 Dd = some (.lst acc) ∧ acc.length < sizeLine ∧ Nx (upd H4 Dd (.lst (acc ++ [y]))) else Nx H3) := by
  refine ⟨fun i m H => m = xs.length - i ∧ i ≤ xs.length ∧ Pv i H, ⟨xs.length, by simp, Nat.zero_le _, h0⟩, ?_⟩
  rintro i m H ⟨rfl, hi, p⟩
  obtain ⟨qa, qb⟩ := hq i H p
  by_cases e : i = xs.length
  · subst e
    exact .inl ⟨⟨xs, ys, qa, qb, .inl (Nat.le_refl _)⟩, hd H p⟩
  · have lt : i < xs.length := by omega
    have lt2 : i < ys.length := by omega
    refine .inr ⟨⟨xs, ys, xs[i], ys[i], qa, qb, List.getElem?_eq_getElem lt, List.getElem?_eq_getElem lt2⟩, Pv (i + 1), fun H2 q => ⟨xs.length - (i + 1), by omega, rfl, by omega, q⟩, ?_⟩
    rintro x H2 ⟨T, u, v, rfl, hT, rfl, hu, hv⟩
    exact hs i u v T H (hu xs qa) (hv ys qb) p hT
section
variable {K : PySem.W.Frag} {mg : Str → Option Value}
def spLabout (T : Tx K mg) : Sp := fun vs H Q _ => ∃ (f : Addr) (ts : List V) (ds : List D), vs = [.ref f] ∧ SqL K H f ts ∧ A2 (FactAt H) ts ds ∧ ds.length ≤ 20 ∧
  ∀ (H' : Hp) (g : Addr) (us : List V), H g = none → H' g = some (.lst us) → A2 (FactAt H') us (ds.map D.turn) → Same H H' → Q (.ref g) H'
def spLrooms (T : Tx K mg) : Sp := fun vs H Q _ => ∃ (c a : Addr) (caps st : List Int) (p : Int), vs = [.ref c, .ref a, .int p] ∧ SqL K H c (vi caps) ∧ Caps caps ∧ SqL K H a (vi st) ∧ st.length = caps.length ∧ 1 ≤ p ∧ p < 2 ^ 62 ∧
  ∀ (H' : Hp) (q : Addr), H q = none → H' q = some (.lst (vi (rooms caps p st))) → Same H H' → Q (.ref q) H'
def spLaw (K : PySem.W.Frag) : Sp := fun vs H Q _ => ∃ (a : Addr) (ns : List Int), vs = [.ref a] ∧ SqL K H a (ns.map V.int) ∧ ns.length ≤ 63 ∧ ∀ H', Q (.bl true) H'
def splaw (T : Tx K mg) : Sp := spLaw K
end
section
variable {P : Program} {w : World} {K : PySem.W.Frag} {mg : Str → Option Value} {base : Heap}
theorem okLabout (T : Tx K mg) : FnOk P w K mg base CX0 1 T.aLabout T.dLabout ["_law_facts_here"] (spLabout T) := by
  refine T.fLabout.ok scLabout (fun vs H Q E h => ?_) (fun cdv A outer s H vs Q E hr h => ?_)
  · obtain ⟨f, ts, ds, rfl, _⟩ := h
    rfl
  · obtain ⟨f, ts, ds, rfl, hf, hA, hl, hq⟩ := h
    refine ⟨_, (pss_cons (ps_set (i := 1) scLabout.nd rfl (by first | exact Or.inl rfl | exact Or.inr rfl) (pe_lst pa_nil))
      (pss_cons (ps_for PassesOwn.never rfl (pi_list (pv 0)) (pg_tup rfl (pgs_cons (pg_name (i := 2) scLabout.nd rfl (by first | exact Or.inl rfl | exact Or.inr rfl)) (pgs_cons (pg_name (i := 3) scLabout.nd rfl (by first | exact Or.inl rfl | exact Or.inr rfl)) (pgs_cons (pg_name (i := 4) scLabout.nd rfl (by first | exact Or.inl rfl | exact Or.inr rfl)) pgs_nil)))) (pss_one (ps_if (pt_cmpR op_eq (pv 2) pe_str (nomark _)) (pss_one (ps_expr (pe_bm PySem.F.plainAttrs_list PySem.F.slot_list_append PySem.F.type_list_append mt_append (pv 1) (pa_cons (pe_tup (pa_cons (pv 2) (pa_cons (pv 4) (pa_cons (pv 3) pa_nil)))) pa_nil)))) (pss_one (ps_if (pt_cmpR op_eq (pv 2) pe_str (nomark _)) (pss_one (ps_expr (pe_bm PySem.F.plainAttrs_list PySem.F.slot_list_append PySem.F.type_list_append mt_append (pv 1) (pa_cons (pe_tup (pa_cons (pv 2) (pa_cons (pv 3) (pa_cons (pv 4) pa_nil)))) pa_nil)))) (pss_one (ps_expr (pe_bm PySem.F.plainAttrs_list PySem.F.slot_list_append PySem.F.type_list_append mt_append (pv 1) (pa_cons (pe_tup (pa_cons (pe_ix (r := rIxL K) ix_list (pe_lst (pa_cons pe_str (pa_cons pe_str pa_nil))) (pe_callTy call_int1 rfl T.nint (by decide +kernel) (pa_cons (pe_cmpR op_eq (pv 2) pe_str (nomark _)) pa_nil)) (fun _ _ => rfl)) (pa_cons (pv 3) (pa_cons (pv 4) pa_nil)))) pa_nil)))))))))
      (pss_one (ps_ret (pv 1))))), ?_⟩
    have ls := hA.len
    refine ⟨(by show 0 ≤ sizeLine; decide), fun g hg => ?_⟩
    refine ⟨_, rfl, f, rfl, ⟨_, (same_new hg).seq hf⟩, ?_⟩
    refine for_list (K := K) (a := f) (xs := ts) (fun i σ H' => ∃ (v1 v2 v3 : Option V) (us : List V), σ = [some (.ref f), some (.ref g), v1, v2, v3] ∧ H' g = some (.lst us) ∧ A2 (FactAt H') us ((ds.take i).map D.turn) ∧ Same H H')
      ⟨none, none, none, [], rfl, upd_same, trivial, same_new hg⟩ (fun i σ H' _ ⟨_, _, _, _, _, _, _, e⟩ => e.seq hf) ?_ ?_
    · rintro i y σ H' hi ⟨v1, v2, v3, us, rfl, gg, gA, sm⟩
      obtain ⟨d, hd, t, rfl, ht⟩ := hA.get hi
      have ht1 := sm _ _ ht
      have ul := gA.len
      rw [List.length_map, List.length_take] at ul
      refine ⟨t, _, rfl, SqT.of ht1, rfl, _, _, rfl, _, _, rfl, _, _, rfl, rfl, ?_⟩
      refine ⟨_, rfl, rfl, _, rfl, ?_⟩
      have stp : ∀ (wd : Str) (x y : Int) (H2 : Hp) (t2 : Addr), wd = d.turn.word → x = d.turn.fst → y = d.turn.last → Same H' H2 → H2 t2 = none →
          A2 (FactAt (upd (upd H2 t2 (.tup [.str wd, .int x, .int y])) g (.lst (us ++ [.ref t2])))) (us ++ [.ref t2]) ((ds.take (i + 1)).map D.turn) ∧
          Same H (upd (upd H2 t2 (.tup [.str wd, .int x, .int y])) g (.lst (us ++ [.ref t2]))) := fun wd x y H2 t2 ew ex ey s2 h2 => by
        subst ew
        subst ex
        subst ey
        have s3 := s2.trans (same_new (o := .tup [.str d.turn.word, .int d.turn.fst, .int d.turn.last]) h2)
        have tg : g ≠ t2 := ne_of_none (s2 _ _ gg) h2
        have bl : Fr g (upd H2 t2 (.tup [.str d.turn.word, .int d.turn.fst, .int d.turn.last])) _ := fr_mut (o := .lst (us ++ [.ref t2])) (Fr.refl _ _)
        refine ⟨?_, same_mut (sm.trans s3) hg⟩
        rw [List.take_add_one, hd, List.map_append]
        exact A2.app (A2.mono (fun _ _ k => (k.same s3).fr bl (s3 _ _ gg) bl_l) gA) ⟨⟨t2, rfl, bl _ _ tg.symm upd_same⟩, trivial⟩
      have lim : us.length < sizeLine := Nat.lt_of_lt_of_le (by omega : us.length < 100) (by decide)
      cases d with
      | pour a b =>
        refine ifT (show decide (V.str "pour" = V.str "pour") = true by decide +kernel) ?_
        refine ⟨_, rfl, .inl ⟨rfl, _, SqL.of gg⟩, _, rfl, _, rfl, _, rfl, (by show 3 ≤ sizeLine; decide), fun t2 ht2 => ?_⟩
        have tg : g ≠ t2 := ne_of_none gg ht2
        obtain ⟨z1, z2⟩ := stp (D.pour a b).word (D.pour a b).last (D.pour a b).fst H' t2 rfl rfl rfl (Same.refl _) ht2
        exact ⟨g, _, .ref t2, rfl, rfl, (by rw [upd_ne tg]; exact gg), lim, _, _, _, us ++ [V.ref t2], rfl, upd_same, z1, z2⟩
      | change a b =>
        refine ifF (show decide (V.str "change" = V.str "pour") = false by decide +kernel) ⟨_, rfl, rfl, _, rfl, ifT (show decide (V.str "change" = V.str "change") = true by decide +kernel) ?_⟩
        refine ⟨_, rfl, .inl ⟨rfl, _, SqL.of gg⟩, _, rfl, _, rfl, _, rfl, (by show 3 ≤ sizeLine; decide), fun t2 ht2 => ?_⟩
        have tg : g ≠ t2 := ne_of_none gg ht2
        obtain ⟨z1, z2⟩ := stp (D.change a b).word (D.change a b).fst (D.change a b).last H' t2 rfl rfl rfl (Same.refl _) ht2
        exact ⟨g, _, .ref t2, rfl, rfl, (by rw [upd_ne tg]; exact gg), lim, _, _, _, us ++ [V.ref t2], rfl, upd_same, z1, z2⟩
      | put a k =>
        refine ifF (show decide (V.str "put" = V.str "pour") = false by decide +kernel) ⟨_, rfl, rfl, _, rfl, ifF (show decide (V.str "put" = V.str "change") = false by decide +kernel) ?_⟩
        refine ⟨_, rfl, .inl ⟨rfl, _, SqL.of gg⟩, (by show 2 ≤ sizeLine; decide), fun s hs => ?_⟩
        have s2 : Same H' (upd H' s (.lst [.str "draw", .str "put"])) := same_new hs
        refine ⟨_, rfl, rfl, .inr ⟨_, rfl, s, [.str "draw", .str "put"], _, .str "draw", rfl, rfl, SqL.of upd_same, ?_, _, rfl, _, rfl, (by show 3 ≤ sizeLine; decide), fun t2 ht2 => ?_⟩⟩
        · have e : decide (V.str "put" = V.str "draw") = false := by decide +kernel
          show atI _ (if decide (V.str "put" = V.str "draw") = true then 1 else 0) = _
          rw [e]
          rfl
        · have tg : g ≠ t2 := ne_of_none (s2 _ _ gg) ht2
          obtain ⟨z1, z2⟩ := stp "draw" (D.put a k).fst (D.put a k).last _ t2 rfl rfl rfl s2 ht2
          exact ⟨g, _, .ref t2, rfl, rfl, (by rw [upd_ne tg]; exact s2 _ _ gg), lim, _, _, _, us ++ [V.ref t2], rfl, upd_same, z1, z2⟩
      | draw a k =>
        refine ifF (show decide (V.str "draw" = V.str "pour") = false by decide +kernel) ⟨_, rfl, rfl, _, rfl, ifF (show decide (V.str "draw" = V.str "change") = false by decide +kernel) ?_⟩
        refine ⟨_, rfl, .inl ⟨rfl, _, SqL.of gg⟩, (by show 2 ≤ sizeLine; decide), fun s hs => ?_⟩
        have s2 : Same H' (upd H' s (.lst [.str "draw", .str "put"])) := same_new hs
        refine ⟨_, rfl, rfl, .inr ⟨_, rfl, s, [.str "draw", .str "put"], _, .str "put", rfl, rfl, SqL.of upd_same, ?_, _, rfl, _, rfl, (by show 3 ≤ sizeLine; decide), fun t2 ht2 => ?_⟩⟩
        · have e : decide (V.str "draw" = V.str "draw") = true := by decide +kernel
          show atI _ (if decide (V.str "draw" = V.str "draw") = true then 1 else 0) = _
          rw [e]
          rfl
        · have tg : g ≠ t2 := ne_of_none (s2 _ _ gg) ht2
          obtain ⟨z1, z2⟩ := stp "put" (D.draw a k).fst (D.draw a k).last _ t2 rfl rfl rfl s2 ht2
          exact ⟨g, _, .ref t2, rfl, rfl, (by rw [upd_ne tg]; exact s2 _ _ gg), lim, _, _, _, us ++ [V.ref t2], rfl, upd_same, z1, z2⟩
    · rintro σ H' ⟨v1, v2, v3, us, rfl, gg, gA, sm⟩
      rw [ls, List.take_length] at gA
      exact ⟨_, rfl, hq H' g us hg gg gA sm⟩
theorem okLrooms (T : Tx K mg) : FnOk P w K mg base CX0 1 T.aLrooms T.dLrooms ["_law_caps_here", "_law_amounts_here", "_law_portions"] (spLrooms T) := by
  refine T.fLrooms.ok scLrooms (fun vs H Q E h => ?_) (fun cdv A outer s H vs Q E hr h => ?_)
  · obtain ⟨c, a, caps, st, p, rfl, _⟩ := h
    rfl
  · obtain ⟨c, a, caps, st, p, rfl, hc, hC, ha, hl, p1, p2, hq⟩ := h
    refine ⟨_, (pss_one (ps_ret (pe_lc (own := [("_law_cap", 3), ("_law_much", 4)]) (g := gTup K 2 (gCons (gName 3) (gCons (gName 4) gNil))) rfl scLrooms.nd (pi_zip rfl T.nzip (pa_cons (pv 0) (pa_cons (pv 1) pa_nil))) (blkOk_by (own := [("_law_cap", 3), ("_law_much", 4)]) (N := ["_law_caps_here", "_law_amounts_here", "_law_portions", "_law_cap", "_law_much"]) (sc := defScope sLrooms) (by decide +kernel)) (fun _ _ _ _ _ => (pg_tup rfl (pgs_cons (pg_name (i := 3) scLrooms.nd rfl (by first | exact Or.inl rfl | exact Or.inr rfl)) (pgs_cons (pg_name (i := 4) scLrooms.nd rfl (by first | exact Or.inl rfl | exact Or.inr rfl)) pgs_nil)))) (fun _ _ _ _ _ => pts_nil) (fun _ _ _ _ _ => (pe_op op_sub (pe_op op_mul (pv 3) (pv 2)) (pv 4)))))), ?_⟩
    have c6 := hC.l6
    refine ⟨_, rfl, _, rfl, c, a, _, _, rfl, hc, ha, fun Dd hD => ?_⟩
    refine lc_zipK (K := K) (a := c) (b := a) (xs := vi caps) (ys := vi st) (by rw [List.length_map, List.length_map, hl]) (fun i H' => H' Dd = some (.lst (vi ((rooms caps p st).take i))) ∧ Same H H') ⟨upd_same, same_new hD⟩ (fun i H' h => ⟨h.2.seq hc, h.2.seq ha⟩) ?_ ?_
    · rintro i x y T2 H' hx hy ⟨g1, sm⟩ hT
      obtain ⟨z, hz, rfl⟩ := vi_get hx
      obtain ⟨u, hu, rfl⟩ := vi_get hy
      have s2 : Same H' (upd H' T2 (.tup [.int z, .int u])) := same_new hT
      refine ⟨T2, _, rfl, SqT.of upd_same, rfl, _, _, rfl, _, _, rfl, rfl, rfl, ?_⟩
      refine ⟨_, rfl, _, rfl, _, _, rfl, rfl, .inr (mulP p1 p2), _, rfl, _, _, rfl, rfl, _, s2 _ _ g1, Nat.lt_of_lt_of_le (by rw [List.length_map, List.length_take, rooms_len hl]; omega : _ < 100) (by decide), ?_, same_mut (sm.trans s2) hD⟩
      rw [upd_same, rooms_snoc hz hu]
      simp [vi]
    · rintro H' ⟨g1, sm⟩
      rw [List.length_map, List.take_of_length_le (Nat.le_of_eq (rooms_len hl))] at g1
      exact hq H' Dd hD g1 sm
theorem oklaw (T : Tx K mg) : FnOk P w K mg base CX0 6 T.alaw T.dlaw ["_law_script"] (splaw T) := by
  refine T.flaw.ok sclaw (fun vs H Q E h => ?_) (fun cdv A outer s H vs Q E hr h => ?_)
  · obtain ⟨a, ns, rfl, _⟩ := h
    rfl
  · obtain ⟨a, ns, rfl, hS, hlen, hq⟩ := h
    obtain ⟨mw, kb_parts_times⟩ := kbBoth T
    refine ⟨_, (pss_cons (ps_for PassesOwn.never rfl (pi_list (pe_slice sl_list (pe_op op_catR (pv 0) (pe_lst (pa_cons pe_int pa_nil))) po_none (po_some pe_int))) (pg_name (i := 1) sclaw.nd rfl (by first | exact Or.inl rfl | exact Or.inr rfl)) (pss_cons (ps_set (i := 2) sclaw.nd rfl (by first | exact Or.inl rfl | exact Or.inr rfl) (pe_call (okLwell T) (hr.mono (by decide)) rfl T.gLwell T.fLwell.kp T.bLwell .nil pass0 (pa_cons (pv 1) pa_nil)))
      (pss_cons (ps_set (i := 3) sclaw.nd rfl (by first | exact Or.inl rfl | exact Or.inr rfl) (pe_call (okLcaps T) (hr.mono (by decide)) rfl T.gLcaps T.fLcaps.kp T.bLcaps .nil pass0 (pa_cons (pv 2) (pa_cons pe_int pa_nil))))
      (pss_cons (ps_set (i := 4) sclaw.nd rfl (by first | exact Or.inl rfl | exact Or.inr rfl) (pe_call (okLfacts T) (hr.mono (by decide)) rfl T.gLfacts T.fLfacts.kp T.bLfacts .nil pass0 (pa_cons (pv 2) (pa_cons (pv 3) (pa_cons (pe_ix (r := rIxL K) ix_list (pe_lst (pa_cons pe_int (pa_cons pe_int (pa_cons pe_int (pa_cons pe_int (pa_cons pe_int pa_nil)))))) (pe_call (okLdraw T) (hr.mono (by decide)) rfl T.gLdraw T.fLdraw.kp T.bLdraw .nil pass0 (pa_cons (pv 2) (pa_cons pe_int pa_nil))) (fun _ _ => rfl)) pa_nil)))))
      (pss_cons (ps_par (i := 5) (j := 6) rfl sclaw.nd rfl rfl (by decide) rfl rfl (pa_cons (pe_call (okLrow T) (hr.mono (by decide)) rfl T.gLrow T.fLrow.kp T.bLrow .nil pass0 (pa_cons (pv 3) (pa_cons (pv 4) pa_nil))) (pa_cons (pe_call (okLrow T) (hr.mono (by decide)) rfl T.gLrow T.fLrow.kp T.bLrow .nil pass0 (pa_cons (pv 3) (pa_cons (pe_call (okLabout T) (hr.mono (by decide)) rfl T.gLabout T.fLabout.kp T.bLabout .nil pass0 (pa_cons (pv 4) pa_nil)) pa_nil))) pa_nil)) rfl)
      (pss_cons (ps_if (pt_cmpR (op_neOwn (E := E0) (okRowEq T) T.neRow T.bRowEq pass0 (hr.mono (by decide))) (pe_call (okLrow T) (hr.mono (by decide)) rfl T.gLrow T.fLrow.kp T.bLrow .nil pass0 (pa_cons (pv 3) (pa_cons (pe_call (okLabout T) (hr.mono (by decide)) rfl T.gLabout T.fLabout.kp T.bLabout .nil pass0 (pa_cons (pe_call (okLabout T) (hr.mono (by decide)) rfl T.gLabout T.fLabout.kp T.bLabout .nil pass0 (pa_cons (pv 4) pa_nil)) pa_nil)) pa_nil))) (pv 5) (nomark _)) (pss_one (ps_ret pe_bl)) pss_nil)
      (pss_one (ps_for PassesOwn.never rfl (pi_range1 rfl T.nrange (pa_cons pe_int pa_nil)) (pg_name (i := 7) sclaw.nd rfl (by first | exact Or.inl rfl | exact Or.inr rfl)) (pss_cons (ps_set (i := 8) sclaw.nd rfl (by first | exact Or.inl rfl | exact Or.inr rfl) (pe_ix (r := rIxL K) ix_list (pe_lst (pa_cons pe_int (pa_cons pe_int (pa_cons pe_int (pa_cons pe_int (pa_cons (pe_op op_pow pe_int pe_int) pa_nil)))))) (pe_call (okLdraw T) (hr.mono (by decide)) rfl T.gLdraw T.fLdraw.kp T.bLdraw .nil pass0 (pa_cons (pv 2) (pa_cons pe_int pa_nil))) (fun _ _ => rfl)))
      (pss_cons (ps_set (i := 9) sclaw.nd rfl (by first | exact Or.inl rfl | exact Or.inr rfl) (pe_call (okLdraw T) (hr.mono (by decide)) rfl T.gLdraw T.fLdraw.kp T.bLdraw .nil pass0 (pa_cons (pv 2) (pa_cons pe_int pa_nil))))
      (pss_cons (ps_set (i := 10) sclaw.nd rfl (by first | exact Or.inl rfl | exact Or.inr rfl) (pe_call (okLamounts T) (hr.mono (by decide)) rfl T.gLamounts T.fLamounts.kp T.bLamounts .nil pass0 (pa_cons (pv 2) (pa_cons (pv 3) (pa_cons (pv 8) pa_nil)))))
      (pss_cons (ps_set (i := 11) sclaw.nd rfl (by first | exact Or.inl rfl | exact Or.inr rfl) (pe_callN (okbehind T) (hr.mono (by decide)) rfl T.gbehind T.fbehind.kp kb_parts_times pass0 (pa_cons (pv 5) (pa_cons (pv 10) pa_nil)) (pk_cons (pv 8) (pk_cons (pv 9) pk_nil))))
      (pss_cons (ps_set (i := 12) sclaw.nd rfl (by first | exact Or.inl rfl | exact Or.inr rfl) (pe_callN (okbehind T) (hr.mono (by decide)) rfl T.gbehind T.fbehind.kp kb_parts_times pass0 (pa_cons (pv 6) (pa_cons (pe_call (okLrooms T) (hr.mono (by decide)) rfl T.gLrooms T.fLrooms.kp T.bLrooms .nil pass0 (pa_cons (pv 3) (pa_cons (pv 10) (pa_cons (pv 8) pa_nil)))) pa_nil)) (pk_cons (pv 8) (pk_cons (pv 9) pk_nil))))
      (pss_one (ps_if (pt_cmpR (op_neD hr.units) (pv 12) (pe_call (okLrooms T) (hr.mono (by decide)) rfl T.gLrooms T.fLrooms.kp T.bLrooms .nil pass0 (pa_cons (pv 3) (pa_cons (pv 11) (pa_cons (pv 8) pa_nil)))) (nomark _)) (pss_one (ps_ret pe_bl)) pss_nil)))))))))))))))
      (pss_one (ps_ret pe_bl))), ?_⟩
    refine ⟨_, rfl, (by show 1 ≤ sizeLine; decide), fun z hz => ?_⟩
    have s1 : Same H (upd H z (.lst [V.int 0])) := same_new hz
    refine ⟨a, z, _, _, rfl, rfl, s1.seq hS, SqL.of upd_same, ?_, fun q hq0 => ?_⟩
    · rw [List.length_map]
      exact Nat.le_trans (by simp; omega : ns.length + [V.int 0].length ≤ 100) (by decide)
    refine ⟨_, rfl, q, _, rfl, SqL.of upd_same, fun l hl => ?_⟩
    rw [show (6 : Int) = ((6 : Nat) : Int) from rfl, cut_take]
    refine ⟨l, rfl, ⟨_, SqL.of upd_same⟩, ?_⟩
    have allI : ∀ y ∈ (ns.map V.int ++ [V.int 0]).take 6, ∃ n, y = V.int n := fun y hy => by
      rcases List.mem_append.mp (List.mem_of_mem_take hy) with k | k
      · obtain ⟨n, _, e⟩ := List.mem_map.mp k
        exact ⟨n, e.symm⟩
      · exact ⟨0, by simpa using k⟩
    generalize hxs : (ns.map V.int ++ [V.int 0]).take 6 = xs at *
    generalize hHl : upd (upd (upd H z (.lst [V.int 0])) q (.lst (ns.map V.int ++ [V.int 0]))) l (.lst xs) = Hl at *
    have gl : Hl l = some (.lst xs) := by rw [← hHl]; exact upd_same
    refine for_list (K := K) (a := l) (xs := xs) (fun i σ H' => ∃ v1 v2 v3 v4 v5 v6 v7 v8 v9 v10 v11 v12 : Option V, σ = [some (.ref a), v1, v2, v3, v4, v5, v6, v7, v8, v9, v10, v11, v12] ∧ Same Hl H')
      ⟨none, none, none, none, none, none, none, none, none, none, none, none, rfl, Same.refl _⟩ (fun i σ H' _ ⟨_, _, _, _, _, _, _, _, _, _, _, _, _, e⟩ => e.seq (SqL.of gl)) ?_ ?_
    · rintro i y σ H0 hi ⟨v1, v2, v3, v4, v5, v6, v7, v8, v9, v10, v11, v12, rfl, sm⟩
      obtain ⟨n, rfl⟩ := allI y (List.mem_of_getElem? hi)
      refine ⟨_, rfl, n, rfl, fun H2 u u0 w2 s2 => ?_⟩
      refine ⟨_, rfl, u, 6, rfl, w2, by decide, by decide, fun H3 c caps c0 hc hC cl w3 f3 => ?_⟩
      have cu : c ≠ u := w2.ne c0
      refine ⟨_, rfl, _, rfl, (by show 5 ≤ sizeLine; decide), fun pl hpl => ?_⟩
      have plu : pl ≠ u := w3.ne hpl
      refine ⟨_, rfl, u, 5, rfl, w3.new hpl, by decide, by decide, fun H4 k1 l1 w4 f4 => ?_⟩
      refine pickL (xs := [1, 2, 5, 20, 0]) (SqL.of (f4 _ _ plu upd_same)) (by simp; omega) ?_
      obtain ⟨m1, em, m20⟩ := many11 (k := k1) (by omega)
      rw [em]
      have hc4 := f4 _ _ cu ((same_new hpl) _ _ hc)
      refine ⟨u, c, m1, caps, rfl, w4, hc4, cu, hC, m20, fun H5 g ts ds z1 hg hA n1 ok w5 f5 => ?_⟩
      have gu : g ≠ u := w4.ne z1
      have hc5 := f5 _ _ cu hc4
      have u00 : Hl u = none := sm.free u0
      have d20 : ds.length ≤ 20 := by omega
      have okT : ∀ d ∈ ds.map D.turn, d.ok caps := fun d hd => by
        obtain ⟨e, he, rfl⟩ := List.mem_map.mp hd
        exact turn_ok (ok e he)
      -- both rows
      refine ⟨_, rfl, _, rfl, c, g, caps, ts, ds, rfl, SqL.of hc5, hC, SqL.of hg, hA, d20, ok, fun H6 r1 r10 hR1 s6 => ?_⟩
      refine ⟨_, rfl, _, rfl, g, ts, ds, rfl, SqL.of (s6 _ _ hg), A2.mono (fun _ _ k => k.same s6) hA, d20, fun H7 g2 us g20 hg2 hA2 s7 => ?_⟩
      have s67 := s6.trans s7
      refine ⟨c, g2, caps, us, ds.map D.turn, rfl, SqL.of (s67 _ _ hc5), hC, SqL.of hg2, hA2, by rw [List.length_map]; exact d20, okT, fun H8 r2 r20 hR2 s8 => ⟨_, _, rfl, ?_⟩⟩
      have s68 := s67.trans s8
      -- turned about twice
      refine ⟨_, rfl, _, rfl, g, ts, ds, rfl, SqL.of (s68 _ _ hg), A2.mono (fun _ _ k => k.same s68) hA, d20, fun H9 g3 us3 g30 hg3 hA3 s9 => ?_⟩
      refine ⟨g3, us3, ds.map D.turn, rfl, SqL.of hg3, hA3, by rw [List.length_map]; exact d20, fun HA g4 us4 g40 hg4 hA4 sA => ?_⟩
      rw [turns_turns] at hA4
      have s6A := (s68.trans s9).trans sA
      refine ⟨c, g4, caps, us4, ds, rfl, SqL.of (s6A _ _ hc5), hC, SqL.of hg4, hA4, d20, ok, fun HB r3 r30 hR3 sB => ?_⟩
      have s1B := ((((s7.trans s8).trans s9).trans sA).trans sB)
      have hR1B := hR1.same s1B
      obtain ⟨dx, j1, t1, vs1, q1, _⟩ := id hR3
      obtain ⟨dy, j2, t2, vs2, q2, _⟩ := id hR1B
      refine ⟨_, rfl, ⟨r3, r1, dx, dy, _, _, rfl, rfl, q1, q2, caps, ds, hR3, hR1B⟩, fun HC eC => ⟨_, rfl, ifF rfl ?_⟩⟩
      have sC : Same H5 HC := (s6A.trans sB).trans eC
      have hR1C := hR1B.same eC
      have hR2C := hR2.same (((s9.trans sA).trans sB).trans eC)
      have wA := w5.same sC
      have hcA := sC _ _ hc5
      have smA : Same Hl HC := fun b o e => by
        have nb : b ≠ u := ne_of_none e u00
        exact sC _ _ (f5 _ _ nb (f4 _ _ nb ((same_new hpl) _ _ (f3 _ _ nb (s2 _ _ (sm _ _ e))))))
      obtain ⟨oA, hoA, bA⟩ := wA.ex
      refine ⟨5, rfl, by decide, by decide, ?_⟩
      refine for_range (lo := 0) (n := (5 : Int).toNat) (fun i σ H' => ∃ v7 v8 v9 v10 v11 v12 : Option V, σ = [some (.ref a), some (.int n), some (.ref u), some (.ref c), some (.ref g), some (.ref r1), some (.ref r2), v7, v8, v9, v10, v11, v12] ∧ WellAt H' u ∧ Fr u HC H')
        ⟨_, _, _, _, _, _, rfl, wA, Fr.refl _ _⟩ ?_ ?_
      · rintro i σ B0 hi ⟨v7, v8, v9, v10, v11, v12, rfl, x0, e0⟩
        -- portions
        refine ⟨_, _, rfl, rfl, ⟨by decide, by decide, by decide⟩, (by show 5 ≤ sizeLine; decide), fun p1 hp1 => ?_⟩
        have p1u : p1 ≠ u := x0.ne hp1
        refine ⟨_, rfl, u, 5, rfl, x0.new hp1, by decide, by decide, fun B1 k2 l2 x1 e1 => ?_⟩
        refine pickL (xs := [1, 2, 3, 7, (10 : Int) ^ (9 : Int).toNat]) (SqL.of (e1 _ _ p1u upd_same)) (by simp; omega) ?_
        obtain ⟨p, hp, pb⟩ : ∃ p : Int, at0 [1, 2, 3, 7, (10 : Int) ^ (9 : Int).toNat] k2 = p ∧ 1 ≤ p ∧ p ≤ 1000000000 := ⟨_, rfl, pick5 (by omega) (by decide) (by decide) (by decide) (by decide) (by decide)⟩
        rw [hp]
        have eA1 : Fr u HC B1 := (e0.trans (Fr.of (same_new hp1))).trans e1
        have p62 : p < 2 ^ 62 := by omega
        -- many
        refine ⟨_, rfl, u, 6, rfl, x1, by decide, by decide, fun B2 mm lm x2 e2 => ?_⟩
        have eA2 := eA1.trans e2
        -- amounts
        refine ⟨_, rfl, _, rfl, _, rfl, u, c, p, caps, rfl, x2, eA2 _ _ cu hcA, cu, hC, pb.1, by omega, fun B3 am st am0 hst sst x3 e3 => ?_⟩
        have eA3 := eA2.trans e3
        have sl := sst.len
        -- due
        refine ⟨_, rfl, _, rfl, _, rfl, _, rfl, rfl, rfl, r1, am, ds, caps, st, p, mm, rfl, hR1C.fr eA3 hoA bA, ok, SqL.of hst, pb.1, p62, by omega, sst, fun B4 due due0 hdue t4 => ?_⟩
        have eA4 := eA3.trans (Fr.of t4)
        -- found
        refine ⟨_, rfl, _, rfl, _, rfl, _, rfl, c, am, caps, st, p, rfl, SqL.of (eA4 _ _ cu hcA), hC, SqL.of (t4 _ _ hst), sl, pb.1, p62, fun B5 q5 q50 hq5 t5 => ?_⟩
        have t45 := t4.trans t5
        have eA5 := eA3.trans (Fr.of t45)
        refine ⟨_, rfl, _, rfl, rfl, rfl, r2, q5, ds.map D.turn, caps, rooms caps p st, p, mm, rfl, hR2C.fr eA5 hoA bA, okT, SqL.of hq5, pb.1, p62, by omega, rooms_stand sst, fun B6 fo fo0 hfo t6 => ?_⟩
        have t46 := t45.trans t6
        have eA6 := eA3.trans (Fr.of t46)
        -- compared
        refine ⟨_, rfl, _, rfl, _, rfl, _, rfl, c, due, caps, runs caps p ds mm st, p, rfl, SqL.of (eA6 _ _ cu hcA), hC, SqL.of ((t5.trans t6) _ _ hdue), runs_len.trans sl, pb.1, p62, fun B7 q7 q70 hq7 t7 => ?_⟩
        refine ne_ints (SqL.of (t7 _ _ hfo)) (SqL.of hq7) (turn_runs ok sl) ⟨_, rfl, ifF rfl ?_⟩
        have t47 := t46.trans t7
        exact ⟨_, _, _, _, _, _, rfl, x3.same t47, eA3.trans (Fr.of t47)⟩
      · rintro σ B0 ⟨v7, v8, v9, v10, v11, v12, rfl, x0, e0⟩
        exact ⟨_, _, _, _, _, _, _, _, _, _, _, _, rfl, fun b o e => e0 _ _ (ne_of_none e u00) (smA _ _ e)⟩
    · rintro σ H0 ⟨v1, v2, v3, v4, v5, v6, v7, v8, v9, v10, v11, v12, rfl, sm⟩
      exact hq _
end
end Kp

namespace Kp
open PySem PySem.Spec PyProof.Rows L2 KpR
theorem funD2 {K : PySem.W.Frag} {f D : Addr} {x qual : Str} {st : Stmt} {oc doc pm cdv ct : Value} {od an : Option Addr} {osl : Array (Option Value)} {t1 t2 : Tok}
    (l : K.lookup f = some ⟨oc, od, .func (PySem.W.fnOf x qual (defArgs st) (defBody st) (defScope st) .none (.ref D) doc pm an cdv ct), osl⟩) (c : PySem.W.codeIn K cdv qual = true) (k : PySem.W.keepIn K (.ref f) = true)
    (w1 : PySem.W.nsIn K D "parts" = some (some (.int 1 t1))) (w2 : PySem.W.nsIn K D "times" = some (some (.int 1 t2))) :
    FunD K x qual (defArgs st) (defBody st) (defScope st) [] [("parts", .int 1), ("times", .int 1)] f (PySem.W.fnOf x qual (defArgs st) (defBody st) (defScope st) .none (.ref D) doc pm an cdv ct) := by
  refine ⟨⟨oc, od, .none, .ref D, doc, pm, an, cdv, ct, osl, rfl, l, c, .inl ⟨rfl, rfl⟩, .inr ⟨D, rfl, fun q hq => ?_⟩⟩, k⟩
  rcases List.mem_cons.mp hq with e | hq
  · rw [e]
    exact ⟨_, w1, _, rfl⟩
  · rcases List.mem_cons.mp hq with e | hq
    · rw [e]
      exact ⟨_, w2, _, rfl⟩
    · cases hq
theorem all_mk {l : PySem.W.OpenLaw} {w : World} {K : PySem.W.Frag} {h : Heap} {mg : Str → Option Value} {fa CJars CPour CPut CDraw CChange CRow fcheckmuch fcheckjar fcheckdeed fJarsInit fPourInit fPutInit fDrawInit fChangeInit fRowInit fcheckstart fbehinddeed fbehindround fbehind fLwell fLdraw fLcaps fLfacts fLdeed fLrow fLamounts fJarsEq fPourEq fPutEq fDrawEq fChangeEq fRowEq fLabout fLrooms flaw Dbehind : Addr} (X : K.In h) (G : h.Ns mainGlobals mg) (hfa : mg "law" = some (.ref fa))
    {odcheckmuch ancheckmuch odcheckjar ancheckjar odcheckdeed ancheckdeed odJarsInit anJarsInit odPourInit anPourInit odPutInit anPutInit odDrawInit anDrawInit odChangeInit anChangeInit odRowInit anRowInit odcheckstart ancheckstart odbehinddeed anbehinddeed odbehindround anbehindround odbehind anbehind odLwell anLwell odLdraw anLdraw odLcaps anLcaps odLfacts anLfacts odLdeed anLdeed odLrow anLrow odLamounts anLamounts odJarsEq anJarsEq odPourEq anPourEq odPutEq anPutEq odDrawEq anDrawEq odChangeEq anChangeEq odRowEq anRowEq odLabout anLabout odLrooms anLrooms odlaw anlaw : Option Addr} {slcheckmuch slcheckjar slcheckdeed slJarsInit slPourInit slPutInit slDrawInit slChangeInit slRowInit slcheckstart slbehinddeed slbehindround slbehind slLwell slLdraw slLcaps slLfacts slLdeed slLrow slLamounts slJarsEq slPourEq slPutEq slDrawEq slChangeEq slRowEq slLabout slLrooms sllaw : Array (Option Value)} {occheckmuch dccheckmuch pmcheckmuch cdcheckmuch ctcheckmuch kVcheckmuch occheckjar dccheckjar pmcheckjar cdcheckjar ctcheckjar kVcheckjar occheckdeed dccheckdeed pmcheckdeed cdcheckdeed ctcheckdeed kVcheckdeed ocJarsInit dcJarsInit pmJarsInit cdJarsInit ctJarsInit kVJarsInit ocPourInit dcPourInit pmPourInit cdPourInit ctPourInit kVPourInit ocPutInit dcPutInit pmPutInit cdPutInit ctPutInit kVPutInit ocDrawInit dcDrawInit pmDrawInit cdDrawInit ctDrawInit kVDrawInit ocChangeInit dcChangeInit pmChangeInit cdChangeInit ctChangeInit kVChangeInit ocRowInit dcRowInit pmRowInit cdRowInit ctRowInit kVRowInit occheckstart dccheckstart pmcheckstart cdcheckstart ctcheckstart kVcheckstart ocbehinddeed dcbehinddeed pmbehinddeed cdbehinddeed ctbehinddeed kVbehinddeed ocbehindround dcbehindround pmbehindround cdbehindround ctbehindround kVbehindround ocbehind dcbehind pmbehind cdbehind ctbehind ocLwell dcLwell pmLwell cdLwell ctLwell kVLwell ocLdraw dcLdraw pmLdraw cdLdraw ctLdraw kVLdraw ocLcaps dcLcaps pmLcaps cdLcaps ctLcaps kVLcaps ocLfacts dcLfacts pmLfacts cdLfacts ctLfacts kVLfacts ocLdeed dcLdeed pmLdeed cdLdeed ctLdeed kVLdeed ocLrow dcLrow pmLrow cdLrow ctLrow kVLrow ocLamounts dcLamounts pmLamounts cdLamounts ctLamounts kVLamounts ocJarsEq dcJarsEq pmJarsEq cdJarsEq ctJarsEq kVJarsEq ocPourEq dcPourEq pmPourEq cdPourEq ctPourEq kVPourEq ocPutEq dcPutEq pmPutEq cdPutEq ctPutEq kVPutEq ocDrawEq dcDrawEq pmDrawEq cdDrawEq ctDrawEq kVDrawEq ocChangeEq dcChangeEq pmChangeEq cdChangeEq ctChangeEq kVChangeEq ocRowEq dcRowEq pmRowEq cdRowEq ctRowEq kVRowEq ocLabout dcLabout pmLabout cdLabout ctLabout kVLabout ocLrooms dcLrooms pmLrooms cdLrooms ctLrooms kVLrooms oclaw dclaw pmlaw cdlaw ctlaw kVlaw : Value} {tkMOSTJARS tkMOSTDEEDS tkMOSTMUCH tkMOSTTIMES tbehind_parts tbehind_times : Tok}
    {nmR qR : Str} {NR : Addr} {bsR : List Value} {hdR abR : Bool} {snR : List Str} {subR : List Value} {colR : Option Bool} {ddR : Option Addr} {r0 r1 r2 r3 r5 : Option Value} {nidR : String} {cR : Value} {dR : Option Addr} {esR : Array DictEntry} {mR : Nat} {slR : Array (Option Value)}
    (xJars : PySem.W.nsIn K mainGlobals "Jars" = some (some (.ref CJars)))
    (xPour : PySem.W.nsIn K mainGlobals "Pour" = some (some (.ref CPour)))
    (xPut : PySem.W.nsIn K mainGlobals "Put" = some (some (.ref CPut)))
    (xDraw : PySem.W.nsIn K mainGlobals "Draw" = some (some (.ref CDraw)))
    (xChange : PySem.W.nsIn K mainGlobals "Change" = some (some (.ref CChange)))
    (xRow : PySem.W.nsIn K mainGlobals "Row" = some (some (.ref CRow)))
    (acheckmuch : PySem.W.nsIn K mainGlobals "check_much" = some (some (.ref fcheckmuch)))
    (lcheckmuch : K.lookup fcheckmuch = some ⟨occheckmuch, odcheckmuch, .func (PySem.W.fnOf "check_much" "check_much" (defArgs scheckmuch) (defBody scheckmuch) (defScope scheckmuch) .none kVcheckmuch dccheckmuch pmcheckmuch ancheckmuch cdcheckmuch ctcheckmuch), slcheckmuch⟩)
    (qcheckmuch : PySem.W.codeIn K cdcheckmuch "check_much" = true)
    (kcheckmuch : PySem.W.keepIn K (.ref fcheckmuch) = true)
    (acheckjar : PySem.W.nsIn K mainGlobals "check_jar" = some (some (.ref fcheckjar)))
    (lcheckjar : K.lookup fcheckjar = some ⟨occheckjar, odcheckjar, .func (PySem.W.fnOf "check_jar" "check_jar" (defArgs scheckjar) (defBody scheckjar) (defScope scheckjar) .none kVcheckjar dccheckjar pmcheckjar ancheckjar cdcheckjar ctcheckjar), slcheckjar⟩)
    (qcheckjar : PySem.W.codeIn K cdcheckjar "check_jar" = true)
    (kcheckjar : PySem.W.keepIn K (.ref fcheckjar) = true)
    (acheckdeed : PySem.W.nsIn K mainGlobals "check_deed" = some (some (.ref fcheckdeed)))
    (lcheckdeed : K.lookup fcheckdeed = some ⟨occheckdeed, odcheckdeed, .func (PySem.W.fnOf "check_deed" "check_deed" (defArgs scheckdeed) (defBody scheckdeed) (defScope scheckdeed) .none kVcheckdeed dccheckdeed pmcheckdeed ancheckdeed cdcheckdeed ctcheckdeed), slcheckdeed⟩)
    (qcheckdeed : PySem.W.codeIn K cdcheckdeed "check_deed" = true)
    (kcheckdeed : PySem.W.keepIn K (.ref fcheckdeed) = true)
    (aJarsInit : PySem.W.findIn K (.ref CJars) "__init__" = some (some (.ref fJarsInit)))
    (iJarsInit : PySem.W.isFn K (.ref fJarsInit) = true)
    (lJarsInit : K.lookup fJarsInit = some ⟨ocJarsInit, odJarsInit, .func (PySem.W.fnOf "__init__" "Jars.__init__" (defArgs sJarsInit) (defBody sJarsInit) (defScope sJarsInit) .none kVJarsInit dcJarsInit pmJarsInit anJarsInit cdJarsInit ctJarsInit), slJarsInit⟩)
    (qJarsInit : PySem.W.codeIn K cdJarsInit "Jars.__init__" = true)
    (kJarsInit : PySem.W.keepIn K (.ref fJarsInit) = true)
    (aPourInit : PySem.W.findIn K (.ref CPour) "__init__" = some (some (.ref fPourInit)))
    (iPourInit : PySem.W.isFn K (.ref fPourInit) = true)
    (lPourInit : K.lookup fPourInit = some ⟨ocPourInit, odPourInit, .func (PySem.W.fnOf "__init__" "Pour.__init__" (defArgs sPourInit) (defBody sPourInit) (defScope sPourInit) .none kVPourInit dcPourInit pmPourInit anPourInit cdPourInit ctPourInit), slPourInit⟩)
    (qPourInit : PySem.W.codeIn K cdPourInit "Pour.__init__" = true)
    (kPourInit : PySem.W.keepIn K (.ref fPourInit) = true)
    (aPutInit : PySem.W.findIn K (.ref CPut) "__init__" = some (some (.ref fPutInit)))
    (iPutInit : PySem.W.isFn K (.ref fPutInit) = true)
    (lPutInit : K.lookup fPutInit = some ⟨ocPutInit, odPutInit, .func (PySem.W.fnOf "__init__" "Put.__init__" (defArgs sPutInit) (defBody sPutInit) (defScope sPutInit) .none kVPutInit dcPutInit pmPutInit anPutInit cdPutInit ctPutInit), slPutInit⟩)
    (qPutInit : PySem.W.codeIn K cdPutInit "Put.__init__" = true)
    (kPutInit : PySem.W.keepIn K (.ref fPutInit) = true)
    (aDrawInit : PySem.W.findIn K (.ref CDraw) "__init__" = some (some (.ref fDrawInit)))
    (iDrawInit : PySem.W.isFn K (.ref fDrawInit) = true)
    (lDrawInit : K.lookup fDrawInit = some ⟨ocDrawInit, odDrawInit, .func (PySem.W.fnOf "__init__" "Draw.__init__" (defArgs sDrawInit) (defBody sDrawInit) (defScope sDrawInit) .none kVDrawInit dcDrawInit pmDrawInit anDrawInit cdDrawInit ctDrawInit), slDrawInit⟩)
    (qDrawInit : PySem.W.codeIn K cdDrawInit "Draw.__init__" = true)
    (kDrawInit : PySem.W.keepIn K (.ref fDrawInit) = true)
    (aChangeInit : PySem.W.findIn K (.ref CChange) "__init__" = some (some (.ref fChangeInit)))
    (iChangeInit : PySem.W.isFn K (.ref fChangeInit) = true)
    (lChangeInit : K.lookup fChangeInit = some ⟨ocChangeInit, odChangeInit, .func (PySem.W.fnOf "__init__" "Change.__init__" (defArgs sChangeInit) (defBody sChangeInit) (defScope sChangeInit) .none kVChangeInit dcChangeInit pmChangeInit anChangeInit cdChangeInit ctChangeInit), slChangeInit⟩)
    (qChangeInit : PySem.W.codeIn K cdChangeInit "Change.__init__" = true)
    (kChangeInit : PySem.W.keepIn K (.ref fChangeInit) = true)
    (aRowInit : PySem.W.findIn K (.ref CRow) "__init__" = some (some (.ref fRowInit)))
    (iRowInit : PySem.W.isFn K (.ref fRowInit) = true)
    (lRowInit : K.lookup fRowInit = some ⟨ocRowInit, odRowInit, .func (PySem.W.fnOf "__init__" "Row.__init__" (defArgs sRowInit) (defBody sRowInit) (defScope sRowInit) .none kVRowInit dcRowInit pmRowInit anRowInit cdRowInit ctRowInit), slRowInit⟩)
    (qRowInit : PySem.W.codeIn K cdRowInit "Row.__init__" = true)
    (kRowInit : PySem.W.keepIn K (.ref fRowInit) = true)
    (acheckstart : PySem.W.nsIn K mainGlobals "check_start" = some (some (.ref fcheckstart)))
    (lcheckstart : K.lookup fcheckstart = some ⟨occheckstart, odcheckstart, .func (PySem.W.fnOf "check_start" "check_start" (defArgs scheckstart) (defBody scheckstart) (defScope scheckstart) .none kVcheckstart dccheckstart pmcheckstart ancheckstart cdcheckstart ctcheckstart), slcheckstart⟩)
    (qcheckstart : PySem.W.codeIn K cdcheckstart "check_start" = true)
    (kcheckstart : PySem.W.keepIn K (.ref fcheckstart) = true)
    (abehinddeed : PySem.W.nsIn K mainGlobals "behind_deed" = some (some (.ref fbehinddeed)))
    (lbehinddeed : K.lookup fbehinddeed = some ⟨ocbehinddeed, odbehinddeed, .func (PySem.W.fnOf "behind_deed" "behind_deed" (defArgs sbehinddeed) (defBody sbehinddeed) (defScope sbehinddeed) .none kVbehinddeed dcbehinddeed pmbehinddeed anbehinddeed cdbehinddeed ctbehinddeed), slbehinddeed⟩)
    (qbehinddeed : PySem.W.codeIn K cdbehinddeed "behind_deed" = true)
    (kbehinddeed : PySem.W.keepIn K (.ref fbehinddeed) = true)
    (abehindround : PySem.W.nsIn K mainGlobals "behind_round" = some (some (.ref fbehindround)))
    (lbehindround : K.lookup fbehindround = some ⟨ocbehindround, odbehindround, .func (PySem.W.fnOf "behind_round" "behind_round" (defArgs sbehindround) (defBody sbehindround) (defScope sbehindround) .none kVbehindround dcbehindround pmbehindround anbehindround cdbehindround ctbehindround), slbehindround⟩)
    (qbehindround : PySem.W.codeIn K cdbehindround "behind_round" = true)
    (kbehindround : PySem.W.keepIn K (.ref fbehindround) = true)
    (abehind : PySem.W.nsIn K mainGlobals "behind" = some (some (.ref fbehind)))
    (lbehind : K.lookup fbehind = some ⟨ocbehind, odbehind, .func (PySem.W.fnOf "behind" "behind" (defArgs sbehind) (defBody sbehind) (defScope sbehind) .none (.ref Dbehind) dcbehind pmbehind anbehind cdbehind ctbehind), slbehind⟩)
    (qbehind : PySem.W.codeIn K cdbehind "behind" = true)
    (kbehind : PySem.W.keepIn K (.ref fbehind) = true)
    (wbehind_parts : PySem.W.nsIn K Dbehind "parts" = some (some (.int 1 tbehind_parts)))
    (wbehind_times : PySem.W.nsIn K Dbehind "times" = some (some (.int 1 tbehind_times)))
    (aLwell : PySem.W.nsIn K mainGlobals "_law_well" = some (some (.ref fLwell)))
    (lLwell : K.lookup fLwell = some ⟨ocLwell, odLwell, .func (PySem.W.fnOf "_law_well" "_law_well" (defArgs sLwell) (defBody sLwell) (defScope sLwell) .none kVLwell dcLwell pmLwell anLwell cdLwell ctLwell), slLwell⟩)
    (qLwell : PySem.W.codeIn K cdLwell "_law_well" = true)
    (kLwell : PySem.W.keepIn K (.ref fLwell) = true)
    (aLdraw : PySem.W.nsIn K mainGlobals "_law_draw" = some (some (.ref fLdraw)))
    (lLdraw : K.lookup fLdraw = some ⟨ocLdraw, odLdraw, .func (PySem.W.fnOf "_law_draw" "_law_draw" (defArgs sLdraw) (defBody sLdraw) (defScope sLdraw) .none kVLdraw dcLdraw pmLdraw anLdraw cdLdraw ctLdraw), slLdraw⟩)
    (qLdraw : PySem.W.codeIn K cdLdraw "_law_draw" = true)
    (kLdraw : PySem.W.keepIn K (.ref fLdraw) = true)
    (aLcaps : PySem.W.nsIn K mainGlobals "_law_caps" = some (some (.ref fLcaps)))
    (lLcaps : K.lookup fLcaps = some ⟨ocLcaps, odLcaps, .func (PySem.W.fnOf "_law_caps" "_law_caps" (defArgs sLcaps) (defBody sLcaps) (defScope sLcaps) .none kVLcaps dcLcaps pmLcaps anLcaps cdLcaps ctLcaps), slLcaps⟩)
    (qLcaps : PySem.W.codeIn K cdLcaps "_law_caps" = true)
    (kLcaps : PySem.W.keepIn K (.ref fLcaps) = true)
    (aLfacts : PySem.W.nsIn K mainGlobals "_law_facts" = some (some (.ref fLfacts)))
    (lLfacts : K.lookup fLfacts = some ⟨ocLfacts, odLfacts, .func (PySem.W.fnOf "_law_facts" "_law_facts" (defArgs sLfacts) (defBody sLfacts) (defScope sLfacts) .none kVLfacts dcLfacts pmLfacts anLfacts cdLfacts ctLfacts), slLfacts⟩)
    (qLfacts : PySem.W.codeIn K cdLfacts "_law_facts" = true)
    (kLfacts : PySem.W.keepIn K (.ref fLfacts) = true)
    (aLdeed : PySem.W.nsIn K mainGlobals "_law_deed" = some (some (.ref fLdeed)))
    (lLdeed : K.lookup fLdeed = some ⟨ocLdeed, odLdeed, .func (PySem.W.fnOf "_law_deed" "_law_deed" (defArgs sLdeed) (defBody sLdeed) (defScope sLdeed) .none kVLdeed dcLdeed pmLdeed anLdeed cdLdeed ctLdeed), slLdeed⟩)
    (qLdeed : PySem.W.codeIn K cdLdeed "_law_deed" = true)
    (kLdeed : PySem.W.keepIn K (.ref fLdeed) = true)
    (aLrow : PySem.W.nsIn K mainGlobals "_law_row" = some (some (.ref fLrow)))
    (lLrow : K.lookup fLrow = some ⟨ocLrow, odLrow, .func (PySem.W.fnOf "_law_row" "_law_row" (defArgs sLrow) (defBody sLrow) (defScope sLrow) .none kVLrow dcLrow pmLrow anLrow cdLrow ctLrow), slLrow⟩)
    (qLrow : PySem.W.codeIn K cdLrow "_law_row" = true)
    (kLrow : PySem.W.keepIn K (.ref fLrow) = true)
    (aLamounts : PySem.W.nsIn K mainGlobals "_law_amounts" = some (some (.ref fLamounts)))
    (lLamounts : K.lookup fLamounts = some ⟨ocLamounts, odLamounts, .func (PySem.W.fnOf "_law_amounts" "_law_amounts" (defArgs sLamounts) (defBody sLamounts) (defScope sLamounts) .none kVLamounts dcLamounts pmLamounts anLamounts cdLamounts ctLamounts), slLamounts⟩)
    (qLamounts : PySem.W.codeIn K cdLamounts "_law_amounts" = true)
    (kLamounts : PySem.W.keepIn K (.ref fLamounts) = true)
    (aJarsEq : PySem.W.findIn K (.ref CJars) "__eq__" = some (some (.ref fJarsEq)))
    (iJarsEq : PySem.W.isFn K (.ref fJarsEq) = true)
    (lJarsEq : K.lookup fJarsEq = some ⟨ocJarsEq, odJarsEq, .func (PySem.W.fnOf "__eq__" "Jars.__eq__" (defArgs sJarsEq) (defBody sJarsEq) (defScope sJarsEq) .none kVJarsEq dcJarsEq pmJarsEq anJarsEq cdJarsEq ctJarsEq), slJarsEq⟩)
    (qJarsEq : PySem.W.codeIn K cdJarsEq "Jars.__eq__" = true)
    (kJarsEq : PySem.W.keepIn K (.ref fJarsEq) = true)
    (aPourEq : PySem.W.findIn K (.ref CPour) "__eq__" = some (some (.ref fPourEq)))
    (iPourEq : PySem.W.isFn K (.ref fPourEq) = true)
    (lPourEq : K.lookup fPourEq = some ⟨ocPourEq, odPourEq, .func (PySem.W.fnOf "__eq__" "Pour.__eq__" (defArgs sPourEq) (defBody sPourEq) (defScope sPourEq) .none kVPourEq dcPourEq pmPourEq anPourEq cdPourEq ctPourEq), slPourEq⟩)
    (qPourEq : PySem.W.codeIn K cdPourEq "Pour.__eq__" = true)
    (kPourEq : PySem.W.keepIn K (.ref fPourEq) = true)
    (aPutEq : PySem.W.findIn K (.ref CPut) "__eq__" = some (some (.ref fPutEq)))
    (iPutEq : PySem.W.isFn K (.ref fPutEq) = true)
    (lPutEq : K.lookup fPutEq = some ⟨ocPutEq, odPutEq, .func (PySem.W.fnOf "__eq__" "Put.__eq__" (defArgs sPutEq) (defBody sPutEq) (defScope sPutEq) .none kVPutEq dcPutEq pmPutEq anPutEq cdPutEq ctPutEq), slPutEq⟩)
    (qPutEq : PySem.W.codeIn K cdPutEq "Put.__eq__" = true)
    (kPutEq : PySem.W.keepIn K (.ref fPutEq) = true)
    (aDrawEq : PySem.W.findIn K (.ref CDraw) "__eq__" = some (some (.ref fDrawEq)))
    (iDrawEq : PySem.W.isFn K (.ref fDrawEq) = true)
    (lDrawEq : K.lookup fDrawEq = some ⟨ocDrawEq, odDrawEq, .func (PySem.W.fnOf "__eq__" "Draw.__eq__" (defArgs sDrawEq) (defBody sDrawEq) (defScope sDrawEq) .none kVDrawEq dcDrawEq pmDrawEq anDrawEq cdDrawEq ctDrawEq), slDrawEq⟩)
    (qDrawEq : PySem.W.codeIn K cdDrawEq "Draw.__eq__" = true)
    (kDrawEq : PySem.W.keepIn K (.ref fDrawEq) = true)
    (aChangeEq : PySem.W.findIn K (.ref CChange) "__eq__" = some (some (.ref fChangeEq)))
    (iChangeEq : PySem.W.isFn K (.ref fChangeEq) = true)
    (lChangeEq : K.lookup fChangeEq = some ⟨ocChangeEq, odChangeEq, .func (PySem.W.fnOf "__eq__" "Change.__eq__" (defArgs sChangeEq) (defBody sChangeEq) (defScope sChangeEq) .none kVChangeEq dcChangeEq pmChangeEq anChangeEq cdChangeEq ctChangeEq), slChangeEq⟩)
    (qChangeEq : PySem.W.codeIn K cdChangeEq "Change.__eq__" = true)
    (kChangeEq : PySem.W.keepIn K (.ref fChangeEq) = true)
    (aRowEq : PySem.W.findIn K (.ref CRow) "__eq__" = some (some (.ref fRowEq)))
    (iRowEq : PySem.W.isFn K (.ref fRowEq) = true)
    (lRowEq : K.lookup fRowEq = some ⟨ocRowEq, odRowEq, .func (PySem.W.fnOf "__eq__" "Row.__eq__" (defArgs sRowEq) (defBody sRowEq) (defScope sRowEq) .none kVRowEq dcRowEq pmRowEq anRowEq cdRowEq ctRowEq), slRowEq⟩)
    (qRowEq : PySem.W.codeIn K cdRowEq "Row.__eq__" = true)
    (kRowEq : PySem.W.keepIn K (.ref fRowEq) = true)
    (aLabout : PySem.W.nsIn K mainGlobals "_law_about" = some (some (.ref fLabout)))
    (lLabout : K.lookup fLabout = some ⟨ocLabout, odLabout, .func (PySem.W.fnOf "_law_about" "_law_about" (defArgs sLabout) (defBody sLabout) (defScope sLabout) .none kVLabout dcLabout pmLabout anLabout cdLabout ctLabout), slLabout⟩)
    (qLabout : PySem.W.codeIn K cdLabout "_law_about" = true)
    (kLabout : PySem.W.keepIn K (.ref fLabout) = true)
    (aLrooms : PySem.W.nsIn K mainGlobals "_law_rooms" = some (some (.ref fLrooms)))
    (lLrooms : K.lookup fLrooms = some ⟨ocLrooms, odLrooms, .func (PySem.W.fnOf "_law_rooms" "_law_rooms" (defArgs sLrooms) (defBody sLrooms) (defScope sLrooms) .none kVLrooms dcLrooms pmLrooms anLrooms cdLrooms ctLrooms), slLrooms⟩)
    (qLrooms : PySem.W.codeIn K cdLrooms "_law_rooms" = true)
    (kLrooms : PySem.W.keepIn K (.ref fLrooms) = true)
    (alaw : PySem.W.nsIn K mainGlobals "law" = some (some (.ref flaw)))
    (llaw : K.lookup flaw = some ⟨oclaw, odlaw, .func (PySem.W.fnOf "law" "law" (defArgs slaw) (defBody slaw) (defScope slaw) .none kVlaw dclaw pmlaw anlaw cdlaw ctlaw), sllaw⟩)
    (qlaw : PySem.W.codeIn K cdlaw "law" = true)
    (klaw : PySem.W.keepIn K (.ref flaw) = true)
    (pgJars : PySem.W.plainGet K CJars Str.empty = true)
    (hdJars : PySem.W.hasDictIn K CJars = true)
    (poJars : PySem.W.plainOver K CJars = true)
    (saJars : PySem.W.findIn K (.ref CJars) "__setattr__" = some (some (.builtin "object.__setattr__")))
    (mkJars : PySem.W.makesIn K CJars = true)
    (kcJars : PySem.W.keepIn K (.ref CJars) = true)
    (nJars_sizes : PySem.W.findIn K (.ref CJars) "sizes" = some none)
    (pgPour : PySem.W.plainGet K CPour Str.empty = true)
    (hdPour : PySem.W.hasDictIn K CPour = true)
    (poPour : PySem.W.plainOver K CPour = true)
    (saPour : PySem.W.findIn K (.ref CPour) "__setattr__" = some (some (.builtin "object.__setattr__")))
    (mkPour : PySem.W.makesIn K CPour = true)
    (kcPour : PySem.W.keepIn K (.ref CPour) = true)
    (nPour_a : PySem.W.findIn K (.ref CPour) "a" = some none)
    (nPour_b : PySem.W.findIn K (.ref CPour) "b" = some none)
    (pgPut : PySem.W.plainGet K CPut Str.empty = true)
    (hdPut : PySem.W.hasDictIn K CPut = true)
    (poPut : PySem.W.plainOver K CPut = true)
    (saPut : PySem.W.findIn K (.ref CPut) "__setattr__" = some (some (.builtin "object.__setattr__")))
    (mkPut : PySem.W.makesIn K CPut = true)
    (kcPut : PySem.W.keepIn K (.ref CPut) = true)
    (nPut_a : PySem.W.findIn K (.ref CPut) "a" = some none)
    (nPut_k : PySem.W.findIn K (.ref CPut) "k" = some none)
    (pgDraw : PySem.W.plainGet K CDraw Str.empty = true)
    (hdDraw : PySem.W.hasDictIn K CDraw = true)
    (poDraw : PySem.W.plainOver K CDraw = true)
    (saDraw : PySem.W.findIn K (.ref CDraw) "__setattr__" = some (some (.builtin "object.__setattr__")))
    (mkDraw : PySem.W.makesIn K CDraw = true)
    (kcDraw : PySem.W.keepIn K (.ref CDraw) = true)
    (nDraw_a : PySem.W.findIn K (.ref CDraw) "a" = some none)
    (nDraw_k : PySem.W.findIn K (.ref CDraw) "k" = some none)
    (pgChange : PySem.W.plainGet K CChange Str.empty = true)
    (hdChange : PySem.W.hasDictIn K CChange = true)
    (poChange : PySem.W.plainOver K CChange = true)
    (saChange : PySem.W.findIn K (.ref CChange) "__setattr__" = some (some (.builtin "object.__setattr__")))
    (mkChange : PySem.W.makesIn K CChange = true)
    (kcChange : PySem.W.keepIn K (.ref CChange) = true)
    (nChange_a : PySem.W.findIn K (.ref CChange) "a" = some none)
    (nChange_b : PySem.W.findIn K (.ref CChange) "b" = some none)
    (pgRow : PySem.W.plainGet K CRow Str.empty = true)
    (hdRow : PySem.W.hasDictIn K CRow = true)
    (poRow : PySem.W.plainOver K CRow = true)
    (saRow : PySem.W.findIn K (.ref CRow) "__setattr__" = some (some (.builtin "object.__setattr__")))
    (mkRow : PySem.W.makesIn K CRow = true)
    (kcRow : PySem.W.keepIn K (.ref CRow) = true)
    (nRow_jars : PySem.W.findIn K (.ref CRow) "jars" = some none)
    (nRow_deeds : PySem.W.findIn K (.ref CRow) "deeds" = some none)
    (neO : K.lookup CRow = some (PySem.excClassObj nmR qR CRow NR bsR [.type "object"] hdR snR subR abR colR ddR r0 r1 r2 r3 r5 nidR))
    (neN : K.lookup NR = some ⟨cR, dR, .dict esR mR, slR⟩)
    (neS : strB esR = true)
    (neE : PySem.W.nsIn K NR "__eq__" = some (some (.ref fRowEq)))
    (neM : PySem.W.nsIn K NR "__ne__" = some none)
    (neF : ocRowEq = .type "function")
    (yaChange : PySem.W.findIn K (.ref CChange) "__class__" = some (some (.builtin "object.__class__")))
    (ymChange : PySem.W.mroIn K CChange (.type "object") = some true)
    (yaDraw : PySem.W.findIn K (.ref CDraw) "__class__" = some (some (.builtin "object.__class__")))
    (ymDraw : PySem.W.mroIn K CDraw (.type "object") = some true)
    (yaJars : PySem.W.findIn K (.ref CJars) "__class__" = some (some (.builtin "object.__class__")))
    (ymJars : PySem.W.mroIn K CJars (.type "object") = some true)
    (yaPour : PySem.W.findIn K (.ref CPour) "__class__" = some (some (.builtin "object.__class__")))
    (ymPour : PySem.W.mroIn K CPour (.type "object") = some true)
    (yaPut : PySem.W.findIn K (.ref CPut) "__class__" = some (some (.builtin "object.__class__")))
    (ymPut : PySem.W.mroIn K CPut (.type "object") = some true)
    (yaRow : PySem.W.findIn K (.ref CRow) "__class__" = some (some (.builtin "object.__class__")))
    (ymRow : PySem.W.mroIn K CRow (.type "object") = some true)
    (yn : PySem.W.specialIn K (.builtin "object.__class__") "__get__" = some (some (.builtin "getset_descriptor.__get__")))
    (yt : PySem.W.takesIn K (.builtin "object.__class__") = some true)
    (isPour_Put : PySem.W.kitOne K (.ref CPour) (.ref CPut) = some false)
    (isPour_Draw : PySem.W.kitOne K (.ref CPour) (.ref CDraw) = some false)
    (isPour_Pour : PySem.W.kitOne K (.ref CPour) (.ref CPour) = some true)
    (isPour_Change : PySem.W.kitOne K (.ref CPour) (.ref CChange) = some false)
    (isPut_Put : PySem.W.kitOne K (.ref CPut) (.ref CPut) = some true)
    (isPut_Draw : PySem.W.kitOne K (.ref CPut) (.ref CDraw) = some false)
    (isPut_Pour : PySem.W.kitOne K (.ref CPut) (.ref CPour) = some false)
    (isPut_Change : PySem.W.kitOne K (.ref CPut) (.ref CChange) = some false)
    (isDraw_Put : PySem.W.kitOne K (.ref CDraw) (.ref CPut) = some false)
    (isDraw_Draw : PySem.W.kitOne K (.ref CDraw) (.ref CDraw) = some true)
    (isDraw_Pour : PySem.W.kitOne K (.ref CDraw) (.ref CPour) = some false)
    (isDraw_Change : PySem.W.kitOne K (.ref CDraw) (.ref CChange) = some false)
    (isChange_Put : PySem.W.kitOne K (.ref CChange) (.ref CPut) = some false)
    (isChange_Draw : PySem.W.kitOne K (.ref CChange) (.ref CDraw) = some false)
    (isChange_Pour : PySem.W.kitOne K (.ref CChange) (.ref CPour) = some false)
    (isChange_Change : PySem.W.kitOne K (.ref CChange) (.ref CChange) = some true)
    (isJars_Jars : PySem.W.kitOne K (.ref CJars) (.ref CJars) = some true)
    (isRow_Row : PySem.W.kitOne K (.ref CRow) (.ref CRow) = some true)
    (gMOSTJARS : PySem.W.nsIn K mainGlobals "MOST_JARS" = some (some (.int 6 tkMOSTJARS)))
    (gMOSTDEEDS : PySem.W.nsIn K mainGlobals "MOST_DEEDS" = some (some (.int 20 tkMOSTDEEDS)))
    (gMOSTMUCH : PySem.W.nsIn K mainGlobals "MOST_MUCH" = some (some (.int 1000000000000 tkMOSTMUCH)))
    (gMOSTTIMES : PySem.W.nsIn K mainGlobals "MOST_TIMES" = some (some (.int 1000 tkMOSTTIMES)))
    (zabs : PySem.W.nsIn K mainGlobals "abs" = some none)
    (zenumerate : PySem.W.nsIn K mainGlobals "enumerate" = some none)
    (zint : PySem.W.nsIn K mainGlobals "int" = some none)
    (zisinstance : PySem.W.nsIn K mainGlobals "isinstance" = some none)
    (zlen : PySem.W.nsIn K mainGlobals "len" = some none)
    (zlist : PySem.W.nsIn K mainGlobals "list" = some none)
    (zmax : PySem.W.nsIn K mainGlobals "max" = some none)
    (zmin : PySem.W.nsIn K mainGlobals "min" = some none)
    (zrange : PySem.W.nsIn K mainGlobals "range" = some none)
    (ztuple : PySem.W.nsIn K mainGlobals "tuple" = some none)
    (zzip : PySem.W.nsIn K mainGlobals "zip" = some none) :
    ∃ fd : FuncData, (∀ (s : Shared) (v : Value), BindsTo s fd ⟨[v], []⟩ [("_law_script", v)]) ∧ ∀ base : Heap, K.In base → base.Ns mainGlobals mg → FnOk l.prog w K mg base CX0 6 fa fd ["_law_script"] (spLaw K) := by
  have e := hfa.symm.trans (PySem.W.mg_of X G alaw)
  cases e
  exact ⟨PySem.W.fnOf "law" "law" (defArgs slaw) (defBody slaw) (defScope slaw) .none kVlaw dclaw pmlaw anlaw cdlaw ctlaw, fun s v => .of_eq rfl, fun base _ _ => oklaw {
    cJars := CJars
    mJars := PySem.W.mg_of X G xJars
    cPour := CPour
    mPour := PySem.W.mg_of X G xPour
    cPut := CPut
    mPut := PySem.W.mg_of X G xPut
    cDraw := CDraw
    mDraw := PySem.W.mg_of X G xDraw
    cChange := CChange
    mChange := PySem.W.mg_of X G xChange
    cRow := CRow
    mRow := PySem.W.mg_of X G xRow
    gcheckmuch := PySem.W.mg_of X G acheckmuch
    acheckmuch := fcheckmuch
    dcheckmuch := PySem.W.fnOf "check_much" "check_much" (defArgs scheckmuch) (defBody scheckmuch) (defScope scheckmuch) .none kVcheckmuch dccheckmuch pmcheckmuch ancheckmuch cdcheckmuch ctcheckmuch
    fcheckmuch := fun_mk (st := scheckmuch) lcheckmuch qcheckmuch kcheckmuch
    bcheckmuch := (fun_mk (st := scheckmuch) lcheckmuch qcheckmuch kcheckmuch).binds (ps := ["what", "much"]) fun _ _ _ _ _ _ us hl => match us, hl with | [_, _], _ => rfl
    gcheckjar := PySem.W.mg_of X G acheckjar
    acheckjar := fcheckjar
    dcheckjar := PySem.W.fnOf "check_jar" "check_jar" (defArgs scheckjar) (defBody scheckjar) (defScope scheckjar) .none kVcheckjar dccheckjar pmcheckjar ancheckjar cdcheckjar ctcheckjar
    fcheckjar := fun_mk (st := scheckjar) lcheckjar qcheckjar kcheckjar
    bcheckjar := (fun_mk (st := scheckjar) lcheckjar qcheckjar kcheckjar).binds (ps := ["jars", "jar"]) fun _ _ _ _ _ _ us hl => match us, hl with | [_, _], _ => rfl
    gcheckdeed := PySem.W.mg_of X G acheckdeed
    acheckdeed := fcheckdeed
    dcheckdeed := PySem.W.fnOf "check_deed" "check_deed" (defArgs scheckdeed) (defBody scheckdeed) (defScope scheckdeed) .none kVcheckdeed dccheckdeed pmcheckdeed ancheckdeed cdcheckdeed ctcheckdeed
    fcheckdeed := fun_mk (st := scheckdeed) lcheckdeed qcheckdeed kcheckdeed
    bcheckdeed := (fun_mk (st := scheckdeed) lcheckdeed qcheckdeed kcheckdeed).binds (ps := ["jars", "deed"]) fun _ _ _ _ _ _ us hl => match us, hl with | [_, _], _ => rfl
    aJarsInit := fJarsInit
    dJarsInit := PySem.W.fnOf "__init__" "Jars.__init__" (defArgs sJarsInit) (defBody sJarsInit) (defScope sJarsInit) .none kVJarsInit dcJarsInit pmJarsInit anJarsInit cdJarsInit ctJarsInit
    fJarsInit := fun_mk (st := sJarsInit) lJarsInit qJarsInit kJarsInit
    bJarsInit := (fun_mk (st := sJarsInit) lJarsInit qJarsInit kJarsInit).binds (ps := ["self", "sizes"]) fun _ _ _ _ _ _ us hl => match us, hl with | [_, _], _ => rfl
    aPourInit := fPourInit
    dPourInit := PySem.W.fnOf "__init__" "Pour.__init__" (defArgs sPourInit) (defBody sPourInit) (defScope sPourInit) .none kVPourInit dcPourInit pmPourInit anPourInit cdPourInit ctPourInit
    fPourInit := fun_mk (st := sPourInit) lPourInit qPourInit kPourInit
    bPourInit := (fun_mk (st := sPourInit) lPourInit qPourInit kPourInit).binds (ps := ["self", "a", "b"]) fun _ _ _ _ _ _ us hl => match us, hl with | [_, _, _], _ => rfl
    aPutInit := fPutInit
    dPutInit := PySem.W.fnOf "__init__" "Put.__init__" (defArgs sPutInit) (defBody sPutInit) (defScope sPutInit) .none kVPutInit dcPutInit pmPutInit anPutInit cdPutInit ctPutInit
    fPutInit := fun_mk (st := sPutInit) lPutInit qPutInit kPutInit
    bPutInit := (fun_mk (st := sPutInit) lPutInit qPutInit kPutInit).binds (ps := ["self", "a", "k"]) fun _ _ _ _ _ _ us hl => match us, hl with | [_, _, _], _ => rfl
    aDrawInit := fDrawInit
    dDrawInit := PySem.W.fnOf "__init__" "Draw.__init__" (defArgs sDrawInit) (defBody sDrawInit) (defScope sDrawInit) .none kVDrawInit dcDrawInit pmDrawInit anDrawInit cdDrawInit ctDrawInit
    fDrawInit := fun_mk (st := sDrawInit) lDrawInit qDrawInit kDrawInit
    bDrawInit := (fun_mk (st := sDrawInit) lDrawInit qDrawInit kDrawInit).binds (ps := ["self", "a", "k"]) fun _ _ _ _ _ _ us hl => match us, hl with | [_, _, _], _ => rfl
    aChangeInit := fChangeInit
    dChangeInit := PySem.W.fnOf "__init__" "Change.__init__" (defArgs sChangeInit) (defBody sChangeInit) (defScope sChangeInit) .none kVChangeInit dcChangeInit pmChangeInit anChangeInit cdChangeInit ctChangeInit
    fChangeInit := fun_mk (st := sChangeInit) lChangeInit qChangeInit kChangeInit
    bChangeInit := (fun_mk (st := sChangeInit) lChangeInit qChangeInit kChangeInit).binds (ps := ["self", "a", "b"]) fun _ _ _ _ _ _ us hl => match us, hl with | [_, _, _], _ => rfl
    aRowInit := fRowInit
    dRowInit := PySem.W.fnOf "__init__" "Row.__init__" (defArgs sRowInit) (defBody sRowInit) (defScope sRowInit) .none kVRowInit dcRowInit pmRowInit anRowInit cdRowInit ctRowInit
    fRowInit := fun_mk (st := sRowInit) lRowInit qRowInit kRowInit
    bRowInit := (fun_mk (st := sRowInit) lRowInit qRowInit kRowInit).binds (ps := ["self", "jars", "deeds"]) fun _ _ _ _ _ _ us hl => match us, hl with | [_, _, _], _ => rfl
    gcheckstart := PySem.W.mg_of X G acheckstart
    acheckstart := fcheckstart
    dcheckstart := PySem.W.fnOf "check_start" "check_start" (defArgs scheckstart) (defBody scheckstart) (defScope scheckstart) .none kVcheckstart dccheckstart pmcheckstart ancheckstart cdcheckstart ctcheckstart
    fcheckstart := fun_mk (st := scheckstart) lcheckstart qcheckstart kcheckstart
    bcheckstart := (fun_mk (st := scheckstart) lcheckstart qcheckstart kcheckstart).binds (ps := ["jars", "start", "parts"]) fun _ _ _ _ _ _ us hl => match us, hl with | [_, _, _], _ => rfl
    gbehinddeed := PySem.W.mg_of X G abehinddeed
    abehinddeed := fbehinddeed
    dbehinddeed := PySem.W.fnOf "behind_deed" "behind_deed" (defArgs sbehinddeed) (defBody sbehinddeed) (defScope sbehinddeed) .none kVbehinddeed dcbehinddeed pmbehinddeed anbehinddeed cdbehinddeed ctbehinddeed
    fbehinddeed := fun_mk (st := sbehinddeed) lbehinddeed qbehinddeed kbehinddeed
    bbehinddeed := (fun_mk (st := sbehinddeed) lbehinddeed qbehinddeed kbehinddeed).binds (ps := ["jars", "deed", "stand", "parts"]) fun _ _ _ _ _ _ us hl => match us, hl with | [_, _, _, _], _ => rfl
    gbehindround := PySem.W.mg_of X G abehindround
    abehindround := fbehindround
    dbehindround := PySem.W.fnOf "behind_round" "behind_round" (defArgs sbehindround) (defBody sbehindround) (defScope sbehindround) .none kVbehindround dcbehindround pmbehindround anbehindround cdbehindround ctbehindround
    fbehindround := fun_mk (st := sbehindround) lbehindround qbehindround kbehindround
    bbehindround := (fun_mk (st := sbehindround) lbehindround qbehindround kbehindround).binds (ps := ["row", "stand", "parts"]) fun _ _ _ _ _ _ us hl => match us, hl with | [_, _, _], _ => rfl
    gbehind := PySem.W.mg_of X G abehind
    abehind := fbehind
    dbehind := PySem.W.fnOf "behind" "behind" (defArgs sbehind) (defBody sbehind) (defScope sbehind) .none (.ref Dbehind) dcbehind pmbehind anbehind cdbehind ctbehind
    fbehind := funD2 lbehind qbehind kbehind wbehind_parts wbehind_times
    gLwell := PySem.W.mg_of X G aLwell
    aLwell := fLwell
    dLwell := PySem.W.fnOf "_law_well" "_law_well" (defArgs sLwell) (defBody sLwell) (defScope sLwell) .none kVLwell dcLwell pmLwell anLwell cdLwell ctLwell
    fLwell := fun_mk (st := sLwell) lLwell qLwell kLwell
    bLwell := (fun_mk (st := sLwell) lLwell qLwell kLwell).binds (ps := ["_law_cell"]) fun _ _ _ _ _ _ us hl => match us, hl with | [_], _ => rfl
    gLdraw := PySem.W.mg_of X G aLdraw
    aLdraw := fLdraw
    dLdraw := PySem.W.fnOf "_law_draw" "_law_draw" (defArgs sLdraw) (defBody sLdraw) (defScope sLdraw) .none kVLdraw dcLdraw pmLdraw anLdraw cdLdraw ctLdraw
    fLdraw := fun_mk (st := sLdraw) lLdraw qLdraw kLdraw
    bLdraw := (fun_mk (st := sLdraw) lLdraw qLdraw kLdraw).binds (ps := ["_law_well_here", "_law_many"]) fun _ _ _ _ _ _ us hl => match us, hl with | [_, _], _ => rfl
    gLcaps := PySem.W.mg_of X G aLcaps
    aLcaps := fLcaps
    dLcaps := PySem.W.fnOf "_law_caps" "_law_caps" (defArgs sLcaps) (defBody sLcaps) (defScope sLcaps) .none kVLcaps dcLcaps pmLcaps anLcaps cdLcaps ctLcaps
    fLcaps := fun_mk (st := sLcaps) lLcaps qLcaps kLcaps
    bLcaps := (fun_mk (st := sLcaps) lLcaps qLcaps kLcaps).binds (ps := ["_law_well_here", "_law_most"]) fun _ _ _ _ _ _ us hl => match us, hl with | [_, _], _ => rfl
    gLfacts := PySem.W.mg_of X G aLfacts
    aLfacts := fLfacts
    dLfacts := PySem.W.fnOf "_law_facts" "_law_facts" (defArgs sLfacts) (defBody sLfacts) (defScope sLfacts) .none kVLfacts dcLfacts pmLfacts anLfacts cdLfacts ctLfacts
    fLfacts := fun_mk (st := sLfacts) lLfacts qLfacts kLfacts
    bLfacts := (fun_mk (st := sLfacts) lLfacts qLfacts kLfacts).binds (ps := ["_law_well_here", "_law_caps_here", "_law_many"]) fun _ _ _ _ _ _ us hl => match us, hl with | [_, _, _], _ => rfl
    gLdeed := PySem.W.mg_of X G aLdeed
    aLdeed := fLdeed
    dLdeed := PySem.W.fnOf "_law_deed" "_law_deed" (defArgs sLdeed) (defBody sLdeed) (defScope sLdeed) .none kVLdeed dcLdeed pmLdeed anLdeed cdLdeed ctLdeed
    fLdeed := fun_mk (st := sLdeed) lLdeed qLdeed kLdeed
    bLdeed := (fun_mk (st := sLdeed) lLdeed qLdeed kLdeed).binds (ps := ["_law_fact"]) fun _ _ _ _ _ _ us hl => match us, hl with | [_], _ => rfl
    gLrow := PySem.W.mg_of X G aLrow
    aLrow := fLrow
    dLrow := PySem.W.fnOf "_law_row" "_law_row" (defArgs sLrow) (defBody sLrow) (defScope sLrow) .none kVLrow dcLrow pmLrow anLrow cdLrow ctLrow
    fLrow := fun_mk (st := sLrow) lLrow qLrow kLrow
    bLrow := (fun_mk (st := sLrow) lLrow qLrow kLrow).binds (ps := ["_law_caps_here", "_law_facts_here"]) fun _ _ _ _ _ _ us hl => match us, hl with | [_, _], _ => rfl
    gLamounts := PySem.W.mg_of X G aLamounts
    aLamounts := fLamounts
    dLamounts := PySem.W.fnOf "_law_amounts" "_law_amounts" (defArgs sLamounts) (defBody sLamounts) (defScope sLamounts) .none kVLamounts dcLamounts pmLamounts anLamounts cdLamounts ctLamounts
    fLamounts := fun_mk (st := sLamounts) lLamounts qLamounts kLamounts
    bLamounts := (fun_mk (st := sLamounts) lLamounts qLamounts kLamounts).binds (ps := ["_law_well_here", "_law_caps_here", "_law_portions"]) fun _ _ _ _ _ _ us hl => match us, hl with | [_, _, _], _ => rfl
    eJarsEq := aJarsEq
    eiJarsEq := iJarsEq
    aJarsEq := fJarsEq
    dJarsEq := PySem.W.fnOf "__eq__" "Jars.__eq__" (defArgs sJarsEq) (defBody sJarsEq) (defScope sJarsEq) .none kVJarsEq dcJarsEq pmJarsEq anJarsEq cdJarsEq ctJarsEq
    fJarsEq := fun_mk (st := sJarsEq) lJarsEq qJarsEq kJarsEq
    bJarsEq := (fun_mk (st := sJarsEq) lJarsEq qJarsEq kJarsEq).binds (ps := ["self", "other"]) fun _ _ _ _ _ _ us hl => match us, hl with | [_, _], _ => rfl
    ePourEq := aPourEq
    eiPourEq := iPourEq
    aPourEq := fPourEq
    dPourEq := PySem.W.fnOf "__eq__" "Pour.__eq__" (defArgs sPourEq) (defBody sPourEq) (defScope sPourEq) .none kVPourEq dcPourEq pmPourEq anPourEq cdPourEq ctPourEq
    fPourEq := fun_mk (st := sPourEq) lPourEq qPourEq kPourEq
    bPourEq := (fun_mk (st := sPourEq) lPourEq qPourEq kPourEq).binds (ps := ["self", "other"]) fun _ _ _ _ _ _ us hl => match us, hl with | [_, _], _ => rfl
    ePutEq := aPutEq
    eiPutEq := iPutEq
    aPutEq := fPutEq
    dPutEq := PySem.W.fnOf "__eq__" "Put.__eq__" (defArgs sPutEq) (defBody sPutEq) (defScope sPutEq) .none kVPutEq dcPutEq pmPutEq anPutEq cdPutEq ctPutEq
    fPutEq := fun_mk (st := sPutEq) lPutEq qPutEq kPutEq
    bPutEq := (fun_mk (st := sPutEq) lPutEq qPutEq kPutEq).binds (ps := ["self", "other"]) fun _ _ _ _ _ _ us hl => match us, hl with | [_, _], _ => rfl
    eDrawEq := aDrawEq
    eiDrawEq := iDrawEq
    aDrawEq := fDrawEq
    dDrawEq := PySem.W.fnOf "__eq__" "Draw.__eq__" (defArgs sDrawEq) (defBody sDrawEq) (defScope sDrawEq) .none kVDrawEq dcDrawEq pmDrawEq anDrawEq cdDrawEq ctDrawEq
    fDrawEq := fun_mk (st := sDrawEq) lDrawEq qDrawEq kDrawEq
    bDrawEq := (fun_mk (st := sDrawEq) lDrawEq qDrawEq kDrawEq).binds (ps := ["self", "other"]) fun _ _ _ _ _ _ us hl => match us, hl with | [_, _], _ => rfl
    eChangeEq := aChangeEq
    eiChangeEq := iChangeEq
    aChangeEq := fChangeEq
    dChangeEq := PySem.W.fnOf "__eq__" "Change.__eq__" (defArgs sChangeEq) (defBody sChangeEq) (defScope sChangeEq) .none kVChangeEq dcChangeEq pmChangeEq anChangeEq cdChangeEq ctChangeEq
    fChangeEq := fun_mk (st := sChangeEq) lChangeEq qChangeEq kChangeEq
    bChangeEq := (fun_mk (st := sChangeEq) lChangeEq qChangeEq kChangeEq).binds (ps := ["self", "other"]) fun _ _ _ _ _ _ us hl => match us, hl with | [_, _], _ => rfl
    eRowEq := aRowEq
    eiRowEq := iRowEq
    aRowEq := fRowEq
    dRowEq := PySem.W.fnOf "__eq__" "Row.__eq__" (defArgs sRowEq) (defBody sRowEq) (defScope sRowEq) .none kVRowEq dcRowEq pmRowEq anRowEq cdRowEq ctRowEq
    fRowEq := fun_mk (st := sRowEq) lRowEq qRowEq kRowEq
    bRowEq := (fun_mk (st := sRowEq) lRowEq qRowEq kRowEq).binds (ps := ["self", "other"]) fun _ _ _ _ _ _ us hl => match us, hl with | [_, _], _ => rfl
    gLabout := PySem.W.mg_of X G aLabout
    aLabout := fLabout
    dLabout := PySem.W.fnOf "_law_about" "_law_about" (defArgs sLabout) (defBody sLabout) (defScope sLabout) .none kVLabout dcLabout pmLabout anLabout cdLabout ctLabout
    fLabout := fun_mk (st := sLabout) lLabout qLabout kLabout
    bLabout := (fun_mk (st := sLabout) lLabout qLabout kLabout).binds (ps := ["_law_facts_here"]) fun _ _ _ _ _ _ us hl => match us, hl with | [_], _ => rfl
    gLrooms := PySem.W.mg_of X G aLrooms
    aLrooms := fLrooms
    dLrooms := PySem.W.fnOf "_law_rooms" "_law_rooms" (defArgs sLrooms) (defBody sLrooms) (defScope sLrooms) .none kVLrooms dcLrooms pmLrooms anLrooms cdLrooms ctLrooms
    fLrooms := fun_mk (st := sLrooms) lLrooms qLrooms kLrooms
    bLrooms := (fun_mk (st := sLrooms) lLrooms qLrooms kLrooms).binds (ps := ["_law_caps_here", "_law_amounts_here", "_law_portions"]) fun _ _ _ _ _ _ us hl => match us, hl with | [_, _, _], _ => rfl
    glaw := PySem.W.mg_of X G alaw
    alaw := fa
    dlaw := PySem.W.fnOf "law" "law" (defArgs slaw) (defBody slaw) (defScope slaw) .none kVlaw dclaw pmlaw anlaw cdlaw ctlaw
    flaw := fun_mk (st := slaw) llaw qlaw klaw
    blaw := (fun_mk (st := slaw) llaw qlaw klaw).binds (ps := ["_law_script"]) fun _ _ _ _ _ _ us hl => match us, hl with | [_], _ => rfl
    lJars := ⟨pgJars, hdJars, poJars, saJars⟩
    kJars := ⟨mkJars, aJarsInit, iJarsInit, kcJars⟩
    nJars_sizes := nJars_sizes
    lPour := ⟨pgPour, hdPour, poPour, saPour⟩
    kPour := ⟨mkPour, aPourInit, iPourInit, kcPour⟩
    nPour_a := nPour_a
    nPour_b := nPour_b
    lPut := ⟨pgPut, hdPut, poPut, saPut⟩
    kPut := ⟨mkPut, aPutInit, iPutInit, kcPut⟩
    nPut_a := nPut_a
    nPut_k := nPut_k
    lDraw := ⟨pgDraw, hdDraw, poDraw, saDraw⟩
    kDraw := ⟨mkDraw, aDrawInit, iDrawInit, kcDraw⟩
    nDraw_a := nDraw_a
    nDraw_k := nDraw_k
    lChange := ⟨pgChange, hdChange, poChange, saChange⟩
    kChange := ⟨mkChange, aChangeInit, iChangeInit, kcChange⟩
    nChange_a := nChange_a
    nChange_b := nChange_b
    lRow := ⟨pgRow, hdRow, poRow, saRow⟩
    kRow := ⟨mkRow, aRowInit, iRowInit, kcRow⟩
    nRow_jars := nRow_jars
    nRow_deeds := nRow_deeds
    neRow := ⟨⟨nmR, qR, NR, bsR, hdR, snR, subR, abR, colR, ddR, r0, r1, r2, r3, r5, nidR, neO, cR, dR, esR, mR, slR, neN, neS, neE, neM⟩, ⟨_, lRowEq, neF⟩⟩
    yChange := ⟨yaChange, yn, yt, ymChange⟩
    yDraw := ⟨yaDraw, yn, yt, ymDraw⟩
    yJars := ⟨yaJars, yn, yt, ymJars⟩
    yPour := ⟨yaPour, yn, yt, ymPour⟩
    yPut := ⟨yaPut, yn, yt, ymPut⟩
    yRow := ⟨yaRow, yn, yt, ymRow⟩
    iPour_Put := isPour_Put
    iPour_Draw := isPour_Draw
    iPour_Pour := isPour_Pour
    iPour_Change := isPour_Change
    iPut_Put := isPut_Put
    iPut_Draw := isPut_Draw
    iPut_Pour := isPut_Pour
    iPut_Change := isPut_Change
    iDraw_Put := isDraw_Put
    iDraw_Draw := isDraw_Draw
    iDraw_Pour := isDraw_Pour
    iDraw_Change := isDraw_Change
    iChange_Put := isChange_Put
    iChange_Draw := isChange_Draw
    iChange_Pour := isChange_Pour
    iChange_Change := isChange_Change
    iJars_Jars := isJars_Jars
    iRow_Row := isRow_Row
    tMOSTJARS := tkMOSTJARS
    cMOSTJARS := PySem.W.mg_of X G gMOSTJARS
    tMOSTDEEDS := tkMOSTDEEDS
    cMOSTDEEDS := PySem.W.mg_of X G gMOSTDEEDS
    tMOSTMUCH := tkMOSTMUCH
    cMOSTMUCH := PySem.W.mg_of X G gMOSTMUCH
    tMOSTTIMES := tkMOSTTIMES
    cMOSTTIMES := PySem.W.mg_of X G gMOSTTIMES
    nabs := PySem.W.mg_none_of X G zabs
    nenumerate := PySem.W.mg_none_of X G zenumerate
    nint := PySem.W.mg_none_of X G zint
    nisinstance := PySem.W.mg_none_of X G zisinstance
    nlen := PySem.W.mg_none_of X G zlen
    nlist := PySem.W.mg_none_of X G zlist
    nmax := PySem.W.mg_none_of X G zmax
    nmin := PySem.W.mg_none_of X G zmin
    nrange := PySem.W.mg_none_of X G zrange
    ntuple := PySem.W.mg_none_of X G ztuple
    nzip := PySem.W.mg_none_of X G zzip }⟩
theorem walk {l : PySem.W.OpenLaw} {q : Program} {loose : List Str} {XP : (Str → Option Value) → Heap → Prop} {YP : World → Heap → Prop} {d : DefRec} {K : Params → PySem.W.Frag} (hn : l.most = some 63) (hdf : d.params.defaults = [])
    (hY : ∀ (w : World) (h : Heap), YP w h → (K w.params).In h)
    (F : ∀ (w : World) (mg : Str → Option Value) (fa : Addr) (h : Heap), (K w.params).In h → h.Ns mainGlobals mg → mg d.name = some (.ref fa) →
      ∃ fd : FuncData, (∀ (s : Shared) (u : Value), BindsTo s fd ⟨[u], []⟩ [("_law_script", u)]) ∧ ∀ base : Heap, (K w.params).In base → base.Ns mainGlobals mg → FnOk l.prog w (K w.params) mg base CX0 6 fa fd ["_law_script"] (spLaw (K w.params))) :
    PySem.W.WalkO q loose XP YP l.row.toRowW d [] (fun f vs => PySem.call f vs) :=
  L2.walk_of (n := 63) (k := 6) (x := "_law_script") (CX := fun _ => CX0) (sp := fun w => spLaw (K w.params)) hn (by decide) hdf ⟨rfl, by decide, by decide⟩ hY F (fun _ _ a ns hl _ hS => ⟨a, ns, rfl, hS, hl, fun _ => rfl⟩) fun _ _ _ _ _ z => z
end Kp
open PySem PySem.W PyProof.Rows
set_option maxRecDepth 100000 in
set_option maxHeartbeats 0 in
theorem PySem.Challenge.cw_wholedrops_k11_whole_full_for_empty_holds : PySem.Challenge.rw_wholedrops_k11_whole_full_for_empty.Holds := by
  w_on; o_law; k_head; (case hw => w_witness2)
  k_fill
  refine Kp.walk (l := PySem.Challenge.rw_wholedrops_k11_whole_full_for_empty) rfl rfl (fun w h Y => PySem.W.kIn_of Y) ?F
  case F =>
    intro w mg fa h KX G hmg
    refine' Kp.all_mk KX G hmg ?xJars ?xPour ?xPut ?xDraw ?xChange ?xRow ?acheckmuch ?lcheckmuch ?qcheckmuch ?kcheckmuch ?acheckjar ?lcheckjar ?qcheckjar ?kcheckjar ?acheckdeed ?lcheckdeed ?qcheckdeed ?kcheckdeed ?aJarsInit ?iJarsInit ?lJarsInit ?qJarsInit ?kJarsInit ?aPourInit ?iPourInit ?lPourInit ?qPourInit ?kPourInit ?aPutInit ?iPutInit ?lPutInit ?qPutInit ?kPutInit ?aDrawInit ?iDrawInit ?lDrawInit ?qDrawInit ?kDrawInit ?aChangeInit ?iChangeInit ?lChangeInit ?qChangeInit ?kChangeInit ?aRowInit ?iRowInit ?lRowInit ?qRowInit ?kRowInit ?acheckstart ?lcheckstart ?qcheckstart ?kcheckstart ?abehinddeed ?lbehinddeed ?qbehinddeed ?kbehinddeed ?abehindround ?lbehindround ?qbehindround ?kbehindround ?abehind ?lbehind ?qbehind ?kbehind ?wbehind_parts ?wbehind_times ?aLwell ?lLwell ?qLwell ?kLwell ?aLdraw ?lLdraw ?qLdraw ?kLdraw ?aLcaps ?lLcaps ?qLcaps ?kLcaps ?aLfacts ?lLfacts ?qLfacts ?kLfacts ?aLdeed ?lLdeed ?qLdeed ?kLdeed ?aLrow ?lLrow ?qLrow ?kLrow ?aLamounts ?lLamounts ?qLamounts ?kLamounts ?aJarsEq ?iJarsEq ?lJarsEq ?qJarsEq ?kJarsEq ?aPourEq ?iPourEq ?lPourEq ?qPourEq ?kPourEq ?aPutEq ?iPutEq ?lPutEq ?qPutEq ?kPutEq ?aDrawEq ?iDrawEq ?lDrawEq ?qDrawEq ?kDrawEq ?aChangeEq ?iChangeEq ?lChangeEq ?qChangeEq ?kChangeEq ?aRowEq ?iRowEq ?lRowEq ?qRowEq ?kRowEq ?aLabout ?lLabout ?qLabout ?kLabout ?aLrooms ?lLrooms ?qLrooms ?kLrooms ?alaw ?llaw ?qlaw ?klaw ?pgJars ?hdJars ?poJars ?saJars ?mkJars ?kcJars ?nJars_sizes ?pgPour ?hdPour ?poPour ?saPour ?mkPour ?kcPour ?nPour_a ?nPour_b ?pgPut ?hdPut ?poPut ?saPut ?mkPut ?kcPut ?nPut_a ?nPut_k ?pgDraw ?hdDraw ?poDraw ?saDraw ?mkDraw ?kcDraw ?nDraw_a ?nDraw_k ?pgChange ?hdChange ?poChange ?saChange ?mkChange ?kcChange ?nChange_a ?nChange_b ?pgRow ?hdRow ?poRow ?saRow ?mkRow ?kcRow ?nRow_jars ?nRow_deeds ?neO ?neN ?neS ?neE ?neM ?neF ?yaChange ?ymChange ?yaDraw ?ymDraw ?yaJars ?ymJars ?yaPour ?ymPour ?yaPut ?ymPut ?yaRow ?ymRow ?yn ?yt ?isPour_Put ?isPour_Draw ?isPour_Pour ?isPour_Change ?isPut_Put ?isPut_Draw ?isPut_Pour ?isPut_Change ?isDraw_Put ?isDraw_Draw ?isDraw_Pour ?isDraw_Change ?isChange_Put ?isChange_Draw ?isChange_Pour ?isChange_Change ?isJars_Jars ?isRow_Row ?gMOSTJARS ?gMOSTDEEDS ?gMOSTMUCH ?gMOSTTIMES ?zabs ?zenumerate ?zint ?zisinstance ?zlen ?zlist ?zmax ?zmin ?zrange ?ztuple ?zzip
    (case xJars => k_is)
    (case xPour => k_is)
    (case xPut => k_is)
    (case xDraw => k_is)
    (case xChange => k_is)
    (case xRow => k_is)
    (case acheckmuch => k_is)
    (case lcheckmuch => k_is)
    (case qcheckmuch => k_is)
    (case kcheckmuch => k_is)
    (case acheckjar => k_is)
    (case lcheckjar => k_is)
    (case qcheckjar => k_is)
    (case kcheckjar => k_is)
    (case acheckdeed => k_is)
    (case lcheckdeed => k_is)
    (case qcheckdeed => k_is)
    (case kcheckdeed => k_is)
    (case aJarsInit => k_is)
    (case iJarsInit => k_is)
    (case lJarsInit => k_is)
    (case qJarsInit => k_is)
    (case kJarsInit => k_is)
    (case aPourInit => k_is)
    (case iPourInit => k_is)
    (case lPourInit => k_is)
    (case qPourInit => k_is)
    (case kPourInit => k_is)
    (case aPutInit => k_is)
    (case iPutInit => k_is)
    (case lPutInit => k_is)
    (case qPutInit => k_is)
    (case kPutInit => k_is)
    (case aDrawInit => k_is)
    (case iDrawInit => k_is)
    (case lDrawInit => k_is)
    (case qDrawInit => k_is)
    (case kDrawInit => k_is)
    (case aChangeInit => k_is)
    (case iChangeInit => k_is)
    (case lChangeInit => k_is)
    (case qChangeInit => k_is)
    (case kChangeInit => k_is)
    (case aRowInit => k_is)
    (case iRowInit => k_is)
    (case lRowInit => k_is)
    (case qRowInit => k_is)
    (case kRowInit => k_is)
    (case acheckstart => k_is)
    (case lcheckstart => k_is)
    (case qcheckstart => k_is)
    (case kcheckstart => k_is)
    (case abehinddeed => k_is)
    (case lbehinddeed => k_is)
    (case qbehinddeed => k_is)
    (case kbehinddeed => k_is)
    (case abehindround => k_is)
    (case lbehindround => k_is)
    (case qbehindround => k_is)
    (case kbehindround => k_is)
    (case abehind => k_is)
    (case lbehind => k_is)
    (case qbehind => k_is)
    (case kbehind => k_is)
    (case wbehind_parts => k_is)
    (case wbehind_times => k_is)
    (case aLwell => k_is)
    (case lLwell => k_is)
    (case qLwell => k_is)
    (case kLwell => k_is)
    (case aLdraw => k_is)
    (case lLdraw => k_is)
    (case qLdraw => k_is)
    (case kLdraw => k_is)
    (case aLcaps => k_is)
    (case lLcaps => k_is)
    (case qLcaps => k_is)
    (case kLcaps => k_is)
    (case aLfacts => k_is)
    (case lLfacts => k_is)
    (case qLfacts => k_is)
    (case kLfacts => k_is)
    (case aLdeed => k_is)
    (case lLdeed => k_is)
    (case qLdeed => k_is)
    (case kLdeed => k_is)
    (case aLrow => k_is)
    (case lLrow => k_is)
    (case qLrow => k_is)
    (case kLrow => k_is)
    (case aLamounts => k_is)
    (case lLamounts => k_is)
    (case qLamounts => k_is)
    (case kLamounts => k_is)
    (case aJarsEq => k_is)
    (case iJarsEq => k_is)
    (case lJarsEq => k_is)
    (case qJarsEq => k_is)
    (case kJarsEq => k_is)
    (case aPourEq => k_is)
    (case iPourEq => k_is)
    (case lPourEq => k_is)
    (case qPourEq => k_is)
    (case kPourEq => k_is)
    (case aPutEq => k_is)
    (case iPutEq => k_is)
    (case lPutEq => k_is)
    (case qPutEq => k_is)
    (case kPutEq => k_is)
    (case aDrawEq => k_is)
    (case iDrawEq => k_is)
    (case lDrawEq => k_is)
    (case qDrawEq => k_is)
    (case kDrawEq => k_is)
    (case aChangeEq => k_is)
    (case iChangeEq => k_is)
    (case lChangeEq => k_is)
    (case qChangeEq => k_is)
    (case kChangeEq => k_is)
    (case aRowEq => k_is)
    (case iRowEq => k_is)
    (case lRowEq => k_is)
    (case qRowEq => k_is)
    (case kRowEq => k_is)
    (case aLabout => k_is)
    (case lLabout => k_is)
    (case qLabout => k_is)
    (case kLabout => k_is)
    (case aLrooms => k_is)
    (case lLrooms => k_is)
    (case qLrooms => k_is)
    (case kLrooms => k_is)
    (case alaw => k_is)
    (case llaw => k_is)
    (case qlaw => k_is)
    (case klaw => k_is)
    (case pgJars => k_is)
    (case hdJars => k_is)
    (case poJars => k_is)
    (case saJars => k_is)
    (case mkJars => k_is)
    (case kcJars => k_is)
    (case nJars_sizes => k_is)
    (case pgPour => k_is)
    (case hdPour => k_is)
    (case poPour => k_is)
    (case saPour => k_is)
    (case mkPour => k_is)
    (case kcPour => k_is)
    (case nPour_a => k_is)
    (case nPour_b => k_is)
    (case pgPut => k_is)
    (case hdPut => k_is)
    (case poPut => k_is)
    (case saPut => k_is)
    (case mkPut => k_is)
    (case kcPut => k_is)
    (case nPut_a => k_is)
    (case nPut_k => k_is)
    (case pgDraw => k_is)
    (case hdDraw => k_is)
    (case poDraw => k_is)
    (case saDraw => k_is)
    (case mkDraw => k_is)
    (case kcDraw => k_is)
    (case nDraw_a => k_is)
    (case nDraw_k => k_is)
    (case pgChange => k_is)
    (case hdChange => k_is)
    (case poChange => k_is)
    (case saChange => k_is)
    (case mkChange => k_is)
    (case kcChange => k_is)
    (case nChange_a => k_is)
    (case nChange_b => k_is)
    (case pgRow => k_is)
    (case hdRow => k_is)
    (case poRow => k_is)
    (case saRow => k_is)
    (case mkRow => k_is)
    (case kcRow => k_is)
    (case nRow_jars => k_is)
    (case nRow_deeds => k_is)
    (case neO => k_is)
    (case neN => k_is)
    (case neS => rfl)
    (case neE => k_is)
    (case neM => k_is)
    (case neF => rfl)
    (case yaChange => k_is)
    (case ymChange => k_is)
    (case yaDraw => k_is)
    (case ymDraw => k_is)
    (case yaJars => k_is)
    (case ymJars => k_is)
    (case yaPour => k_is)
    (case ymPour => k_is)
    (case yaPut => k_is)
    (case ymPut => k_is)
    (case yaRow => k_is)
    (case ymRow => k_is)
    (case yn => k_is)
    (case yt => k_is)
    (case isPour_Put => (exact KpR.kit_cls (by k_is) (by k_is) (by k_is) (by decide)))
    (case isPour_Draw => (exact KpR.kit_cls (by k_is) (by k_is) (by k_is) (by decide)))
    (case isPour_Pour => exact KpR.kit_self (by simp))
    (case isPour_Change => (exact KpR.kit_cls (by k_is) (by k_is) (by k_is) (by decide)))
    (case isPut_Put => exact KpR.kit_self (by simp))
    (case isPut_Draw => (exact KpR.kit_cls (by k_is) (by k_is) (by k_is) (by decide)))
    (case isPut_Pour => (exact KpR.kit_cls (by k_is) (by k_is) (by k_is) (by decide)))
    (case isPut_Change => (exact KpR.kit_cls (by k_is) (by k_is) (by k_is) (by decide)))
    (case isDraw_Put => (exact KpR.kit_cls (by k_is) (by k_is) (by k_is) (by decide)))
    (case isDraw_Draw => exact KpR.kit_self (by simp))
    (case isDraw_Pour => (exact KpR.kit_cls (by k_is) (by k_is) (by k_is) (by decide)))
    (case isDraw_Change => (exact KpR.kit_cls (by k_is) (by k_is) (by k_is) (by decide)))
    (case isChange_Put => (exact KpR.kit_cls (by k_is) (by k_is) (by k_is) (by decide)))
    (case isChange_Draw => (exact KpR.kit_cls (by k_is) (by k_is) (by k_is) (by decide)))
    (case isChange_Pour => (exact KpR.kit_cls (by k_is) (by k_is) (by k_is) (by decide)))
    (case isChange_Change => exact KpR.kit_self (by simp))
    (case isJars_Jars => exact KpR.kit_self (by simp))
    (case isRow_Row => exact KpR.kit_self (by simp))
    (case gMOSTJARS => k_is)
    (case gMOSTDEEDS => k_is)
    (case gMOSTMUCH => k_is)
    (case gMOSTTIMES => k_is)
    (case zabs => k_is)
    (case zenumerate => k_is)
    (case zint => k_is)
    (case zisinstance => k_is)
    (case zlen => k_is)
    (case zlist => k_is)
    (case zmax => k_is)
    (case zmin => k_is)
    (case zrange => k_is)
    (case ztuple => k_is)
    (case zzip => k_is)


