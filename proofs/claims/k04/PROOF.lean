import PyProof.Rows.All
import Wide.All
import OpenK.AllK
import Wide.FinOn
import HandS.ForMost
import HandS.Defaults
import HandS.MakeKwOnly
import HandS.IsInst
import HandS.Wide
import HandS.Style
import HandS.Zip
import HandS.Codes
import HandS.OwnEq
import HandS.TupAny
import HandS.TupMul
import HandS.More
import HandS.Exc
import HandS.TryMany
import HandS.ExcInit
import HandS.ExcField
import HandS.ExcIs
import HandS.WordsExc
import HandS.Dict
import HandS.Deep
import KE.KDictDisplayH
import PyProof.InstNe
import PyProof.NeKinds
import HandS.Lambda
import HandS.EndTab
import HandS.EndOwn
import KE.KNestM
import PySem.Challenge.RW_wholedrops_k04_what_is_no_start
set_option Elab.async false
set_option linter.all false
set_option maxRecDepth 100000
set_option maxHeartbeats 4000000
namespace Kp
/-! ### an if whose test is a Bool -/
theorem ifT {c : Bool} {A B : Prop} (hc : c = true) (h : A) : if c = true then A else B := by
  rw [if_pos hc]
  exact h
theorem ifF {c : Bool} {A B : Prop} (hc : c = false) (h : B) : if c = true then A else B := by
  rw [hc, if_neg Bool.false_ne_true]
  exact h
theorem ifD {P A B : Prop} [Decidable P] (h1 : P → A) (h2 : ¬ P → B) : if decide P = true then A else B := by
  by_cases h : P
  · exact ifT (decide_eq_true h) (h1 h)
  · exact ifF (decide_eq_false h) (h2 h)
theorem ifN {P A B : Prop} [Decidable P] (h1 : P → B) (h2 : ¬ P → A) : if (!decide P) = true then A else B := by
  by_cases h : P
  · exact ifF (by rw [decide_eq_true h]; rfl) (h1 h)
  · exact ifT (by rw [decide_eq_false h]; rfl) (h2 h)
/-! ### lists of ints -/
def at0 (l : List Int) (i : Nat) : Int := l.getD i 0
theorem at0_get {l : List Int} {i : Nat} (h : i < l.length) : l[i]? = some (at0 l i) := by
  unfold at0
  rw [List.getD_eq_getElem?_getD, List.getElem?_eq_getElem h]
  rfl
theorem at0_of {l : List Int} {i : Nat} {v : Int} (h : l[i]? = some v) : at0 l i = v := by
  unfold at0
  rw [List.getD_eq_getElem?_getD, h]
  rfl
theorem at0_set {l : List Int} {i j : Nat} {v : Int} (h : i < l.length) : at0 (l.set i v) j = if i = j then v else at0 l j := by
  unfold at0
  rw [List.getD_eq_getElem?_getD, List.getD_eq_getElem?_getD, List.getElem?_set]
  by_cases e : i = j
  · subst e
    simp [h]
  · simp [e]
theorem at0_map {l : List Int} {f : Int → Int} {i : Nat} (h : i < l.length) : at0 (l.map f) i = f (at0 l i) := by
  have := at0_get h
  exact at0_of (by rw [List.getElem?_map, this]; rfl)
theorem ext0 {l m : List Int} (h : l.length = m.length) (e : ∀ i, i < l.length → at0 l i = at0 m i) : l = m := by
  apply List.ext_getElem? 
  intro i
  by_cases hi : i < l.length
  · rw [at0_get hi, at0_get (h ▸ hi), e i hi]
  · rw [List.getElem?_eq_none (by omega), List.getElem?_eq_none (by omega)]
/-! ### the deeds -/
inductive D where
  | pour (a b : Nat) | put (a : Nat) (k : Int) | draw (a : Nat) (k : Int) | change (a b : Nat)
  deriving DecidableEq
/-- what a deed must be for jars of these sizes -/
def D.ok (caps : List Int) : D → Prop
  | .pour a b => a < caps.length ∧ b < caps.length ∧ a ≠ b
  | .put a k => a < caps.length ∧ 1 ≤ k ∧ k ≤ 1000000000000
  | .draw a k => a < caps.length ∧ 1 ≤ k ∧ k ≤ 1000000000000
  | .change a b => a < caps.length ∧ b < caps.length ∧ a ≠ b ∧ at0 caps a = at0 caps b
/-- one deed, as behind_deed reckons it -/
def D.act (caps : List Int) (p : Int) (st : List Int) : D → List Int
  | .pour a b =>
    let m := if at0 caps b * p - at0 st b < at0 st a then at0 caps b * p - at0 st b else at0 st a
    (st.set a (at0 st a - m)).set b (at0 st b + m)
  | .put a k => st.set a (if at0 caps a * p < at0 st a + k * p then at0 caps a * p else at0 st a + k * p)
  | .draw a k => st.set a (if 0 > at0 st a - k * p then 0 else at0 st a - k * p)
  | .change a b => (st.set a (at0 st b)).set b (at0 st a)
def run (caps : List Int) (p : Int) (ds : List D) (st : List Int) : List Int := ds.foldl (D.act caps p) st
def runs (caps : List Int) (p : Int) (ds : List D) : Nat → List Int → List Int
  | 0, st => st
  | n + 1, st => run caps p ds (runs caps p ds n st)
/-- a start that can be -/
structure Stand (caps : List Int) (p : Int) (st : List Int) : Prop where
  len : st.length = caps.length
  lo : ∀ i, i < caps.length → 0 ≤ at0 st i
  hi : ∀ i, i < caps.length → at0 st i ≤ at0 caps i * p
structure Caps (caps : List Int) : Prop where
  l1 : 1 ≤ caps.length
  l6 : caps.length ≤ 6
  lo : ∀ i, i < caps.length → 1 ≤ at0 caps i
  hi : ∀ i, i < caps.length → at0 caps i ≤ 1000000000000
theorem act_len {caps st : List Int} {p : Int} {d : D} : (d.act caps p st).length = st.length := by
  cases d <;> simp [D.act]
theorem act_stand {caps st : List Int} {p : Int} {d : D} (hp : 1 ≤ p) (h : Stand caps p st) (hd : d.ok caps) : Stand caps p (d.act caps p st) := by
  have hl := h.len
  refine ⟨by rw [act_len, hl], ?_, ?_⟩
  all_goals
    intro i hi
    have z0 := h.lo i hi
    have z1 := h.hi i hi
    cases d with
    | pour a b =>
      obtain ⟨ha, hb, hab⟩ := hd
      have a0 := h.lo a ha
      have a1 := h.hi a ha
      have b0 := h.lo b hb
      have b1 := h.hi b hb
      simp only [D.act]
      rw [at0_set (by rw [List.length_set]; omega), at0_set (by omega)]
      by_cases e1 : b = i
      · subst e1
        rw [if_pos rfl]
        split <;> omega
      · rw [if_neg e1]
        by_cases e2 : a = i
        · subst e2
          rw [if_pos rfl]
          split <;> omega
        · rw [if_neg e2]
          omega
    | put a k =>
      obtain ⟨ha, hk, _⟩ := hd
      have a0 := h.lo a ha
      have a1 := h.hi a ha
      have kp : 0 ≤ k * p := Int.mul_nonneg (by omega) (by omega)
      simp only [D.act]
      rw [at0_set (by omega)]
      by_cases e1 : a = i
      · subst e1
        rw [if_pos rfl]
        split <;> omega
      · rw [if_neg e1]
        omega
    | draw a k =>
      obtain ⟨ha, hk, _⟩ := hd
      have a0 := h.lo a ha
      have a1 := h.hi a ha
      have kp : 0 ≤ k * p := Int.mul_nonneg (by omega) (by omega)
      simp only [D.act]
      rw [at0_set (by omega)]
      by_cases e1 : a = i
      · subst e1
        rw [if_pos rfl]
        split <;> omega
      · rw [if_neg e1]
        omega
    | change a b =>
      obtain ⟨ha, hb, hab, hs⟩ := hd
      have a0 := h.lo a ha
      have a1 := h.hi a ha
      have b0 := h.lo b hb
      have b1 := h.hi b hb
      simp only [D.act]
      rw [at0_set (by rw [List.length_set]; omega), at0_set (by omega)]
      by_cases e1 : b = i
      · subst e1
        rw [if_pos rfl]
        rw [hs] at a1
        omega
      · rw [if_neg e1]
        by_cases e2 : a = i
        · subst e2
          rw [if_pos rfl]
          rw [← hs] at b1
          omega
        · rw [if_neg e2]
          omega
theorem run_len {caps : List Int} {p : Int} : ∀ {ds : List D} {st : List Int}, (run caps p ds st).length = st.length
  | [], _ => rfl
  | d :: ds, st => (run_len (ds := ds) (st := d.act caps p st)).trans act_len
theorem run_stand {caps : List Int} {p : Int} (hp : 1 ≤ p) : ∀ {ds : List D} {st : List Int}, Stand caps p st → (∀ d ∈ ds, d.ok caps) → Stand caps p (run caps p ds st)
  | [], _, h, _ => h
  | d :: ds, st, h, hd => run_stand (ds := ds) hp (act_stand hp h (hd d (List.mem_cons_self ..))) fun e he => hd e (List.mem_cons_of_mem _ he)
theorem runs_stand {caps : List Int} {p : Int} (hp : 1 ≤ p) {ds : List D} (hd : ∀ d ∈ ds, d.ok caps) : ∀ {n : Nat} {st : List Int}, Stand caps p st → Stand caps p (runs caps p ds n st)
  | 0, _, h => h
  | n + 1, _, h => run_stand hp (runs_stand hp hd (n := n) h) hd
theorem run_app {caps : List Int} {p : Int} {ds es : List D} {st : List Int} : run caps p (ds ++ es) st = run caps p es (run caps p ds st) := List.foldl_append ..
theorem runs_add {caps : List Int} {p : Int} {ds : List D} : ∀ (m n : Nat) (st : List Int), runs caps p ds m (runs caps p ds n st) = runs caps p ds (n + m) st
  | 0, _, _ => rfl
  | m + 1, n, st => congrArg (run caps p ds) (runs_add m n st)
theorem runs_nil {caps : List Int} {p : Int} : ∀ (n : Nat) (st : List Int), runs caps p [] n st = st
  | 0, _ => rfl
  | n + 1, st => runs_nil n st
theorem run_snoc {caps : List Int} {p : Int} {ds : List D} {d : D} {i : Nat} {st : List Int} (h : ds[i]? = some d) : run caps p (ds.take (i + 1)) st = d.act caps p (run caps p (ds.take i) st) := by
  rw [List.take_add_one, h, run_app]
  rfl
end Kp

namespace Kp
theorem at0_app {l : List Int} {z : Int} {i : Nat} : at0 (l ++ [z]) i = if i < l.length then at0 l i else if i = l.length then z else 0 := by
  unfold at0
  rw [List.getD_eq_getElem?_getD, List.getD_eq_getElem?_getD]
  by_cases h : i < l.length
  · rw [if_pos h, List.getElem?_append_left h]
  · rw [if_neg h, List.getElem?_append_right (by omega)]
    by_cases e : i = l.length
    · subst e
      simp
    · rw [if_neg e, List.getElem?_eq_none (by simp; omega)]
      rfl
/-- sizes that are none too small, none too big -/
def Mid (caps : List Int) : Prop := ∀ c ∈ caps, 1 ≤ c ∧ c ≤ 1000000000000
theorem Mid.nil : Mid [] := fun c h => by cases h
theorem Mid.app {caps : List Int} {z : Int} (h : Mid caps) (h1 : 1 ≤ z) (h2 : z ≤ 1000000000000) : Mid (caps ++ [z]) := fun c hc => by
  rcases List.mem_append.mp hc with q | q
  · exact h c q
  · have : c = z := by simpa using q
    subst this
    exact ⟨h1, h2⟩
theorem at0_mem {l : List Int} {i : Nat} (h : i < l.length) : at0 l i ∈ l := List.mem_of_getElem? (at0_get h)
theorem Mid.set {caps : List Int} {i j : Nat} (h : Mid caps) (hj : j < caps.length) : Mid (caps.set i (at0 caps j)) := fun c hc => by
  rcases List.mem_or_eq_of_mem_set hc with q | q
  · exact h c q
  · rw [q]
    exact h _ (at0_mem hj)
theorem Mid.caps {caps : List Int} (h : Mid caps) (h1 : 1 ≤ caps.length) (h6 : caps.length ≤ 6) : Caps caps :=
  ⟨h1, h6, fun i hi => (h _ (at0_mem hi)).1, fun i hi => (h _ (at0_mem hi)).2⟩
/-- starts as far as they are made -/
structure Part (caps : List Int) (p : Int) (st : List Int) : Prop where
  lo : ∀ i, i < st.length → 0 ≤ at0 st i
  hi : ∀ i, i < st.length → at0 st i ≤ at0 caps i * p
theorem Part.nil {caps : List Int} {p : Int} : Part caps p [] := ⟨fun i h => absurd h (Nat.not_lt_zero _), fun i h => absurd h (Nat.not_lt_zero _)⟩
theorem Part.app {caps st : List Int} {p z : Int} (h : Part caps p st) (h0 : 0 ≤ z) (h1 : z ≤ at0 caps st.length * p) : Part caps p (st ++ [z]) := by
  refine ⟨fun i hi => ?_, fun i hi => ?_⟩
  all_goals
    rw [List.length_append] at hi
    rw [at0_app]
    by_cases q : i < st.length
    · rw [if_pos q]
      first | exact h.lo i q | exact h.hi i q
    · have e : i = st.length := by simp at hi; omega
      subst e
      rw [if_neg q, if_pos rfl]
      first | exact h0 | exact h1
theorem Part.stand {caps st : List Int} {p : Int} (h : Part caps p st) (hl : st.length = caps.length) : Stand caps p st :=
  ⟨hl, fun i hi => h.lo i (by omega), fun i hi => h.hi i (by omega)⟩
/-- the words of the deeds -/
inductive Wd where
  | pour | put | draw | change
  deriving DecidableEq
def sixW : List Wd := [.pour, .pour, .pour, .put, .draw, .change]
theorem unit_ok {n : Nat} (h : n < 6) : 1 ≤ at0 [1, 1, 1, 7, 1000000, 100000000000] n ∧ at0 [1, 1, 1, 7, 1000000, 100000000000] n ≤ 100000000000 := by
  have : ∀ n : Fin 6, 1 ≤ at0 [1, 1, 1, 7, 1000000, 100000000000] n.1 ∧ at0 [1, 1, 1, 7, 1000000, 100000000000] n.1 ≤ 100000000000 := by decide
  exact this ⟨n, h⟩
theorem pick4 {a b c d lo hi : Int} {n : Nat} (h : n < 4) (ha : lo ≤ a ∧ a ≤ hi) (hb : lo ≤ b ∧ b ≤ hi) (hc : lo ≤ c ∧ c ≤ hi) (hd : lo ≤ d ∧ d ≤ hi) : lo ≤ at0 [a, b, c, d] n ∧ at0 [a, b, c, d] n ≤ hi := by
  match n, h with
  | 0, _ => exact ha
  | 1, _ => exact hb
  | 2, _ => exact hc
  | 3, _ => exact hd
theorem pick5 {a b c d e lo hi : Int} {n : Nat} (h : n < 5) (ha : lo ≤ a ∧ a ≤ hi) (hb : lo ≤ b ∧ b ≤ hi) (hc : lo ≤ c ∧ c ≤ hi) (hd : lo ≤ d ∧ d ≤ hi) (he : lo ≤ e ∧ e ≤ hi) : lo ≤ at0 [a, b, c, d, e] n ∧ at0 [a, b, c, d, e] n ≤ hi := by
  match n, h with
  | 0, _ => exact ha
  | 1, _ => exact hb
  | 2, _ => exact hc
  | 3, _ => exact hd
  | 4, _ => exact he
end Kp

namespace Kp
def MidN (b : Int) (caps : List Int) : Prop := ∀ c ∈ caps, 1 ≤ c ∧ c ≤ b
theorem MidN.nil {b : Int} : MidN b [] := fun c h => by cases h
theorem MidN.app {b : Int} {caps : List Int} {z : Int} (h : MidN b caps) (h1 : 1 ≤ z) (h2 : z ≤ b) : MidN b (caps ++ [z]) := fun c hc => by
  rcases List.mem_append.mp hc with q | q
  · exact h c q
  · have : c = z := by simpa using q
    subst this
    exact ⟨h1, h2⟩
theorem MidN.set {b : Int} {caps : List Int} {i j : Nat} (h : MidN b caps) (hj : j < caps.length) : MidN b (caps.set i (at0 caps j)) := fun c hc => by
  rcases List.mem_or_eq_of_mem_set hc with q | q
  · exact h c q
  · rw [q]
    exact h _ (at0_mem hj)
theorem MidN.caps {b : Int} {caps : List Int} (h : MidN b caps) (hb : b ≤ 1000000000000) (h1 : 1 ≤ caps.length) (h6 : caps.length ≤ 6) : Caps caps :=
  ⟨h1, h6, fun i hi => (h _ (at0_mem hi)).1, fun i hi => Int.le_trans (h _ (at0_mem hi)).2 hb⟩
/-- the pour as the law's own walk reckons it -/
def stepL (caps : List Int) (p : Int) (st : List Int) : D → List Int
  | .pour a b =>
    let x := if at0 caps b * p < at0 st a + at0 st b then at0 caps b * p else at0 st a + at0 st b
    (st.set b x).set a (at0 st a + at0 st b - x)
  | .put a k => st.set a (if at0 caps a * p < at0 st a + k * p then at0 caps a * p else at0 st a + k * p)
  | .draw a k => st.set a (if 0 > at0 st a - k * p then 0 else at0 st a - k * p)
  | .change a b => (st.set a (at0 st b)).set b (at0 st a)
theorem stepL_act {caps st : List Int} {p : Int} {d : D} (hl : st.length = caps.length) (ok : d.ok caps) : stepL caps p st d = d.act caps p st := by
  cases d with
  | pour a b =>
    obtain ⟨ha, hb, hab⟩ := ok
    simp only [stepL, D.act]
    apply ext0
    · simp
    · intro i hi
      rw [at0_set (by rw [List.length_set]; omega), at0_set (by omega), at0_set (by rw [List.length_set]; omega), at0_set (by omega)]
      by_cases e1 : a = i
      · by_cases e2 : b = i
        · exact absurd (e1.trans e2.symm) hab
        · rw [if_pos e1, if_neg e2, if_pos e1]
          split <;> split <;> omega
      · by_cases e2 : b = i
        · rw [if_neg e1, if_pos e2, if_pos e2]
          split <;> split <;> omega
        · rw [if_neg e1, if_neg e2, if_neg e2, if_neg e1]
  | put a k => rfl
  | draw a k => rfl
  | change a b => rfl
theorem runs_len {caps : List Int} {p : Int} {ds : List D} : ∀ {n : Nat} {st : List Int}, (runs caps p ds n st).length = st.length
  | 0, _ => rfl
  | n + 1, st => run_len.trans (runs_len (n := n))
end Kp

namespace KpR
open PySem PySem.Spec PyProof.Rows L2
open AutoSeq1 (wpAny_loadPart')
/-! ### xs + ys, each a list that can be read -/
theorem addMeets (l b : Addr) (xs ys : Array Value) (n m : Nat) (sl tl : Array (Option Value)) (hsz : xs.size + ys.size ≤ sizeLine) :
    Meets (Builtin.«list.__add__» ⟨[.ref l, .ref b], []⟩) (fun _ R s =>
      s.heap.get? l = some { cls := .type "list", dict := none, data := .seq xs n, slots := sl } ∧
      s.heap.get? b = some { cls := .type "list", dict := none, data := .seq ys m, slots := tl } ∧
      R (.ok (.ret (.ref s.heap.objs.size))) { s with heap := s.heap.push { cls := .type "list", data := .seq (xs ++ ys) } }) :=
  .of_wp fun prog w A R s h => by
    obtain ⟨hp, g, d, tk, os⟩ := s
    obtain ⟨e1, e2, h⟩ := h
    have z1 := AutoSeq1.idx_int
    have z2 := AutoSeq1.sub_tuple_tuple
    have z3 := AutoSeq1.sub_list_list
    have z4 := AutoSeq1.sub_tuple_list
    have z5 := AutoSeq1.sub_list_tuple
    wp_walk using wpAny_loadPart' e1, wpAny_loadPart' e2
    exact ⟨_, rfl, h⟩
theorem enumNewT (l : Addr) (its : Array Value) (n : Nat) (dct : Option Addr) (sl : Array (Option Value)) :
    Meets (Builtin.«enumerate.__new__» ⟨[.type "enumerate", .ref l], []⟩) (fun _ R s =>
      s.heap.get? l = some { cls := .type "tuple", dict := dct, data := .seq its n, slots := sl } ∧
      R (.ok (.ret (.ref (s.heap.push { cls := .type "tuple_iterator", data := .fields #[.ref l, .int 0 0] }).objs.size)))
        { s with heap := Heap.push (Heap.push s.heap { cls := .type "tuple_iterator", data := .fields #[.ref l, .int 0 0] }) { cls := .type "enumerate", data := .fields #[.none, .bool false, .ref s.heap.objs.size, rawInt 0, .none, .none] } }) :=
  .of_wp fun prog w A R s h => by
    obtain ⟨hp, g, d, tk, os⟩ := s
    obtain ⟨hl, h⟩ := h
    have hsub := sub_enumerate
    have hL : Heap.IsTuple (Shared.heap ⟨hp, g, d, tk, os⟩) l its := ⟨_, hl, rfl, n, rfl⟩
    wp_walk using wpAny_loadPart' hl
    refine wpAny_stack_any fun st => wpAny_pure ?_
    split
    · rename_i c _ _ _ _ _
      cases (c == Value.type "enumerate") <;>
        (wp_walk using wpAny_loadPart' hl, wpAny_pyIter_tuple hL
         exact ⟨_, rfl, h⟩)
    · wp_walk using wpAny_loadPart' hl, wpAny_pyIter_tuple hL
      exact ⟨_, rfl, h⟩
end KpR

namespace KpR
open PySem PySem.Spec PyProof.Rows L2
open AutoSeq1 (wpAny_loadPart')
def rCatR (K : PySem.W.Frag) : R2 := fun x y H Q => ∃ l b xs zs, x = .ref l ∧ y = .ref b ∧ SqL K H l xs ∧ SqL K H b zs ∧ xs.length + zs.length ≤ sizeLine ∧ ∀ q, H q = none → Q (.ref q) (upd H q (.lst (xs ++ zs)))
section
variable {X : Cx}
theorem op_catR : OpR X (binaryOp .Add) (rCatR X.K) := by
  intro pins s σ H x y v u Q I rx ry h
  obtain ⟨l, b, xs, zs, rfl, rfl, h1, h2, hz, q⟩ := h
  cases rx
  cases ry
  obtain ⟨its, r1, p1, _⟩ := I.list h1
  obtain ⟨jts, r2, p2, _⟩ := I.list h2
  obtain ⟨⟨c1, d1, t1, s1⟩, n1, g1, k1, k2, k3⟩ := p1
  obtain ⟨⟨c2, d2, t2, s2⟩, n2, g2, k4, k5, k6⟩ := p2
  cases k1; cases k2; cases k3; cases k4; cases k5; cases k6
  have e1 := r1.length
  have e2 := r2.length
  refine concat_meets ⟨_, g1, rfl⟩ ⟨_, g2, rfl⟩ noFill_list_add seq_list_add F.slot_list_add F.entry_list_add (F.args_list_add_2 _ _)
    (addMeets l b its.toArray jts.toArray n1 n2 s1 s2 (by rw [List.size_toArray, List.size_toArray]; omega)) ⟨g1, g2, ?_⟩
  have ea : its.toArray ++ jts.toArray = (its ++ jts).toArray := by simp
  rw [ea]
  exact ⟨.ref _, _, I.lnew (t' := s.toks) (r1.append r2) (by rw [List.length_append]; omega), rfl, q _ I.fresh⟩
end
/-! ### enumerate(tuple) -/
theorem drawsT {prog : Program} {w : World} {A : Around} (hh : A.handled = none) (it l : Addr) (hne : l ≠ it) (its : Array Value) :
    Draws prog w A it [it, l] its.size (fun i v => its[i]? = some v) (fun i h => h.IsTupleIter it l i ∧ h.IsTuple l its) where
  live := fun _ _ st => by
    obtain ⟨⟨o, ho, _⟩, _⟩ := st
    exact ⟨o, ho⟩
  frame := fun _ _ _ st kp => ⟨st.1.at fun o e => kp it (by simp) o e, st.2.at fun o e => kp l (by simp) o e⟩
  item := fun i s Q E hi st hQ => by
    refine RZ.nextOf_tuple_item st.1 st.2 (x := its[i]) (by simp [hi]) fun h1 hit1 hs1 => ?_
    exact hQ _ h1 s.toks (by simp [hi]) ⟨hit1, st.2.extBut hs1.extBut hne⟩ hs1
  done := fun s Q E st hE => RZ.nextOf_tuple_end hh st.1 st.2 (by simp) hE
section
variable {prog : Program} {w : World} {A : Around} {E : Value → Shared → Prop} {s : Shared}
theorem callEnumT {l : Addr} {its : Array Value} {Q : Value → Shared → Prop} (hL : s.heap.IsTuple l its)
    (h : ∀ h', IsEnum h' (s.heap.objs.size + 1) s.heap.objs.size 0 .none → h'.IsTupleIter s.heap.objs.size l 0 → h'.IsTuple l its →
      (∀ b o, s.heap.get? b = some o → h'.get? b = some o) → Q (.ref (s.heap.objs.size + 1)) { s with heap := h' }) :
    wpAny (model prog w) A (call (.type "enumerate") [.ref l]) Q E s := by
  obtain ⟨⟨c, dct, dt, sl⟩, hl, hc, n, hd⟩ := id hL
  cases hc
  cases hd
  refine callType_new F.called_enumerate (by decide) (F.typeCall_enumerate_1 _) (F.newCall_enumerate_1 _) (fun obj => F.args_object_init_2 obj _) F.entry_enumerate_new
    (enumNewT l its n dct sl) ⟨hl, ?_⟩
  have hz : (s.heap.push { cls := .type "tuple_iterator", data := .fields #[.ref l, .int 0 0] }).objs.size = s.heap.objs.size + 1 := Heap.size_push ..
  show _ ∧ _
  rw [hz]
  have he : IsEnum ((s.heap.push { cls := .type "tuple_iterator", data := .fields #[.ref l, .int 0 0] }).push
      { cls := .type "enumerate", data := .fields #[.none, .bool false, .ref s.heap.objs.size, rawInt 0, .none, .none] }) (s.heap.objs.size + 1) s.heap.objs.size 0 .none := by
    have q := Heap.get?_push_size (s.heap.push { cls := .type "tuple_iterator", data := .fields #[.ref l, .int 0 0] })
      (o := { cls := .type "enumerate", data := .fields #[.none, .bool false, .ref s.heap.objs.size, rawInt 0, .none, .none] }) rfl
    rw [hz] at q
    exact q
  exact ⟨⟨_, he, rfl⟩, h _ he ⟨_, Heap.get?_push_of_some _ (Heap.get?_push_size _ (by rfl)), by rfl, by rfl⟩ ((hL.push _).push _) fun b o x => Heap.get?_push_of_some _ (Heap.get?_push_of_some _ x)⟩
end
/-- the tuple at a: each item in a new pair -/
def IteT (K : PySem.W.Frag) (a : Addr) : It where
  go := fun i H => ∃ (xs : List V) (x : V), SqT K H a xs ∧ xs[i]? = some x
  yld := fun i H v H' => ∃ T x, v = .ref T ∧ H T = none ∧ H' = upd H T (.tup [.int (i : Nat), x]) ∧ ∀ xs, SqT K H a xs → xs[i]? = some x
  stop := fun i H => ∃ xs : List V, SqT K H a xs ∧ xs.length = i
theorem turnEnumT {P : Program} {w : World} {K : PySem.W.Frag} {elts : List Expr} {kk : Nat} {tpos : Pos} (a e it : Addr) :
    Turn P w K (.Tuple elts kk tpos) (IteT K a) [e, it] e (fun i h => (∃ old, IsEnum h e it ((i : Nat) : Int) old) ∧ h.IsTupleIter it a i ∧ e ≠ it ∧ a ≠ it ∧ e ≠ a) where
  mem := by simp
  obj := fun i h st b hb => by
    obtain ⟨⟨old, he⟩, ⟨o, ho, hc, hd⟩, _⟩ := st
    rcases (show b = e ∨ b = it by simpa using hb) with z | z
    · subst z
      exact ⟨_, he, fun v q => nomatch q⟩
    · subst z
      exact ⟨o, ho, fun v q => by rw [hd] at q; cases q⟩
  keep := fun i h h' st k => by
    obtain ⟨⟨old, he⟩, hi, r⟩ := st
    exact ⟨⟨old, k e (by simp) _ he⟩, hi.at fun o q => k it (by simp) o q, r⟩
  item := by
    intro X hP hw hK hc i pins s σ H E I hf st hg
    subst hP hw hK
    obtain ⟨⟨old, he⟩, hit, hne, hai, hea⟩ := st
    obtain ⟨xs, x, hq, hx⟩ := hg
    obtain ⟨its, rv, p, hz⟩ := I.tuple hq
    obtain ⟨u, hu, ru⟩ := rv.get hx
    have el : e < s.heap.objs.size := Heap.lt_size he
    have il : it < s.heap.objs.size := by
      obtain ⟨_, q, _⟩ := hit
      exact Heap.lt_size q
    have hlt : i < its.toArray.size := by
      have := (List.getElem?_eq_some_iff.mp hu).1
      simpa using this
    refine wpAny_pyNext_enum_itemD (drawsT (A := X.A.in1) (I.ok.hd hc) it a hai its.toArray) he ⟨hit, p⟩ hlt hne (by simp; exact ⟨hne, hea⟩) fun y h' tk hy ho st' hT hsz hk => ?_
    obtain rfl : y = u := by
      have q : its.toArray[i]? = some u := by simpa using hu
      rw [q] at hy
      exact (Option.some.inj hy).symm
    refine ⟨_, rfl, wpAny_letOwnedTupleGo_enum (s := { s with heap := h', toks := tk + 1 }) ho fun h2 he2 sb => ?_⟩
    have hT2 : h2.get? s.heap.objs.size = some { cls := .type "tuple", data := .seq #[.int i tk, y] } := (sb.2 _ (Nat.ne_of_gt el)).trans hT
    have new : ObjOk X.prog X.w (upd H s.heap.objs.size (.tup [.int (i : Nat), x])) h2 s.heap.objs.size (.tup [.int (i : Nat), x]) :=
      ⟨by show 2 ≤ sizeLine; decide, [.int i tk, y], .cons ⟨_, rfl⟩ (.cons ru .nil), ⟨_, hT2, rfl, _, rfl⟩⟩
    have I1 : Inv X pins σ (upd H s.heap.objs.size (.tup [.int (i : Nat), x])) { s with heap := h2, toks := tk + 1 } :=
      I.turnedNew (ch := [e, it]) (fun b ob hb q => (sb.2 b (fun z => hb (by simp [z]))).trans (hk b ob (fun z => hb (by simp [z])) (fun z => hb (by simp [z])) q)) hf (Nat.le_refl _) new
    refine ⟨.ref s.heap.objs.size, _, I1, rfl, ⟨_, x, rfl, I.hok.fresh (Nat.le_refl _), rfl, fun ys hy2 => by rw [I.tuple_inj hy2 hq]; exact hx⟩, ⟨⟨y, ?_⟩, st'.1.at fun o q => (sb.2 it (Ne.symm hne)).trans q, hne, hai, hea⟩, fun b hb => ?_⟩
    · have e1 : ((i + 1 : Nat) : Int) = (i : Int) + 1 := by omega
      rw [e1]
      exact he2
    · have hb2 : b < s.heap.objs.size := by
        rcases (show b = e ∨ b = it by simpa using hb) with z | z
        · rw [z]; exact el
        · rw [z]; exact il
      rw [upd_ne (Nat.ne_of_lt hb2)]
      exact (hf b hb).1
  done := by
    intro X hP hw hK hc i pins s σ H E I hf st hg
    subst hP hw hK
    obtain ⟨⟨old, he⟩, hit, hne, hai, hea⟩ := st
    obtain ⟨xs, hq, hx⟩ := hg
    obtain ⟨its, rv, p, hz⟩ := I.tuple hq
    obtain ⟨f0, f1, f2, f3, f4, f5⟩ := hf it (by simp)
    have hl := rv.length
    have hiEq : i = its.toArray.size := by
      rw [List.size_toArray]
      omega
    subst hiEq
    exact wpAny_pyNext_enum_endD (drawsT (A := X.A.in1) (I.ok.hd hc) it a hai its.toArray) he ⟨hit, p⟩ fun h' eb => ⟨rfl, I.turned (t' := s.toks) (fun b o hb q => eb b o hb q) f0 f1 f3 f4 f5⟩
  self := fun A i s Q E st h => by
    obtain ⟨⟨_, he⟩, _⟩ := st
    exact wpAny_pyIter_enum he h
def iEnumT (K : PySem.W.Frag) (ta : TA) : TI := fun σ H R => ta σ H fun vs H1 => ∃ a xs, vs = [.ref a] ∧ SqT K H1 a xs ∧ R (IteT K a) H1
theorem pi_enumT {X : Cx} {e : Expr} {ta : TA} {p pos tpos : Pos} {elts : List Expr} {kk : Nat} (hg : Gl X "enumerate") (hm : X.mg "enumerate" = none) (ha : PA X [e] ta) (hs : starEach [e] X.env = [(false, eval e X.env)] := by rfl) :
    PI X (.Tuple elts kk tpos) (.Call (.Name "enumerate" p) [e] [] pos) (iEnumT X.K ta) := by
  refine ⟨fun pins s σ H R I h => ?_⟩
  refine Call_ (ld_blt I hg hm boot_enumerate (PyProof.Rows.callWith_type1 (thn (ha.run pos pins s σ H _ I h) fun us s1 ⟨vs, H1, I1, r1, a, xs, ex, hq, q⟩ => ?_) hs rfl))
  subst ex
  cases r1 with
  | cons r rr =>
    cases rr
    cases r
    obtain ⟨its, rv, p1, hz⟩ := I1.tuple hq
    refine callEnumT p1 fun h1 he hit hT hk => wpAny_pyIter_enum he ?_
    have al : a < s1.heap.objs.size := by
      obtain ⟨o, ho, _⟩ := p1
      exact Heap.lt_size ho
    have I2 : Inv X pins σ H1 { s1 with heap := h1 } := I1.kept (t' := s1.toks) hk
    refine ⟨s1.heap.objs.size + 1, [s1.heap.objs.size + 1, s1.heap.objs.size], _, _, H1, rfl, I2, turnEnumT a (s1.heap.objs.size + 1) s1.heap.objs.size, ⟨⟨.none, he⟩, hit, Nat.succ_ne_self _, Nat.ne_of_lt al, Nat.ne_of_gt (Nat.lt_succ_of_lt al)⟩, fun b hb => ?_, q⟩
    have le : s1.heap.objs.size ≤ b := by
      rcases (show b = s1.heap.objs.size + 1 ∨ b = s1.heap.objs.size by simpa using hb) with z | z
      · rw [z]
        exact Nat.le_succ _
      · rw [z]
        exact Nat.le_refl _
    exact I1.fpOk le (I1.hok.fresh le)
/-- the loop's bookkeeping: the pair is a new tuple at T -/
theorem for_enumT {K : PySem.W.Frag} {a : Addr} {xs : List V} {g : TG} {tb : TS} {D : Ends} {σ : L2.St} {H : Hp} (Pv : Nat → L2.St → Hp → Prop) (h0 : Pv 0 σ H) (hl : ∀ i σ H, i ≤ xs.length → Pv i σ H → SqT K H a xs)
    (hs : ∀ i x T σ H, xs[i]? = some x → Pv i σ H → H T = none → g (.ref T) σ (upd H T (.tup [.int (i : Nat), x])) fun σ2 H2 => tb { D with nx := Pv (i + 1), ct := Pv (i + 1), bk := D.nx } σ2 H2) (hd : ∀ σ H, Pv xs.length σ H → D.nx σ H) :
    ∃ W : Nat → Nat → L2.St → Hp → Prop, (∃ m, W 0 m σ H) ∧ ∀ i m σ H, W i m σ H →
      ((IteT K a).stop i H ∧ D.nx σ H) ∨ ((IteT K a).go i H ∧ ∃ N : L2.St → Hp → Prop, (∀ σ' H', N σ' H' → ∃ m', m' < m ∧ W (i + 1) m' σ' H') ∧ ∀ x H', (IteT K a).yld i H x H' → g x σ H' fun σ2 H2 => tb { D with nx := N, ct := N, bk := D.nx } σ2 H2) := by
  refine ⟨fun i m σ H => m = xs.length - i ∧ i ≤ xs.length ∧ Pv i σ H, ⟨xs.length, by simp, Nat.zero_le _, h0⟩, ?_⟩
  rintro i m σ1 H1 ⟨rfl, hi, p⟩
  by_cases e : i = xs.length
  · subst e
    exact .inl ⟨⟨xs, hl _ _ _ hi p, rfl⟩, hd _ _ p⟩
  · have lt : i < xs.length := by omega
    have ge : xs[i]? = some xs[i] := List.getElem?_eq_getElem lt
    refine .inr ⟨⟨xs, xs[i], hl _ _ _ hi p, ge⟩, Pv (i + 1), fun σ2 H2 q => ⟨xs.length - (i + 1), by omega, rfl, by omega, q⟩, ?_⟩
    rintro x H2 ⟨T, y, rfl, hT, rfl, hy⟩
    have q := hy xs (hl _ _ _ hi p)
    exact hs i y T σ1 H1 q p hT
/-! ### f(k = v, ..): keywords alone -/
theorem pe_callN0 {X : Cx} {CX : CXT} {k : Nat} {f : Addr} {fd : FuncData} {ps ks : List Str} {sp : Sp} {E : XK} {x : Str} {p pos : Pos} {kws : List Keyword} {tk : TA} {g : List Value → List Value → List Value} {gV : List V → List V → List V}
    (F : FnOk X.prog X.w X.K X.mg X.base CX k f fd ps sp) (hr : Room k X.A) (hg : Gl X x) (hm : X.mg x = some (.ref f)) (hk : PySem.W.keepIn X.K (.ref f) = true) (hb : KBn X.K fd ps 0 ks g gV) (hx : Passes CX X E) (hkw : PK X kws tk)
    (hall : (backToKw pos (keywordEach kws X.env)).all (·.1.isSome) = true := by rfl) (hks : (backToKw pos (keywordEach kws X.env)).filterMap (·.1) = ks := by rfl) (hdb : (x == ("__debug__" : Str)) = false := by decide)
    (hpl : ((backTo pos (starEach [] X.env)).any (·.1) || (backToKw pos (keywordEach kws X.env)).any (·.1.isNone)) = false := by rfl) :
    PE X (.Call (.Name x p) [] kws pos) (tCallN 0 ks.length sp gV E tNil tk) := by
  refine ⟨fun pins s σ H Q I h => ?_⟩
  refine wpAny_Call_Name_kw (ld_glob I hg hm ?_ hdb)
  refine PySem.W.callWith_KW0 (h₀ := X.base) I.ok.mod.kin hk hall (thn (hkw.run pos pins s σ H _ I h) fun ws s2 ⟨zs, H2, I2, rz, l1, l2, q2⟩ => ⟨I2.kIn, ?_⟩) hpl
  rw [hks]
  exact run_fnN (us := []) (vs := []) F hr hb hx I2 .nil rz rfl l2 q2
/-! ### isinstance's answers -/
theorem kit_self {K : PySem.W.Frag} {t : Value} (h : (t == t) = true) : PySem.W.kitOne K t t = some true := by
  unfold PySem.W.kitOne
  rw [if_pos h]
theorem kit_cls {K : PySem.W.Frag} {A C : Addr} {b : Bool} (h1 : PySem.W.isClsIn K C = true) (h2 : PySem.W.typeIn K (.ref C) = some (.type "type")) (h3 : PySem.W.subIn K (.ref A) (.ref C) = some b) (ne : (Value.ref A == Value.ref C) = false) :
    PySem.W.kitOne K (.ref A) (.ref C) = some b := by
  unfold PySem.W.kitOne
  rw [if_neg (by rw [ne]; exact Bool.false_ne_true)]
  show (if ((PySem.W.clsIn K C).isSome && PySem.W.typeIn K (.ref C) == some (.type "type")) = true then PySem.W.subIn K (.ref A) (.ref C) else none) = some b
  have h1' : (PySem.W.clsIn K C).isSome = true := h1
  rw [h1', h2, if_pos (by rfl)]
  exact h3
/-! ### lists of things that stand in the heap -/
def A2 {α : Type} (R : V → α → Prop) : List V → List α → Prop
  | [], [] => True
  | v :: vs, d :: ds => R v d ∧ A2 R vs ds
  | _, _ => False
section
variable {α : Type} {R S : V → α → Prop}
theorem A2.len : ∀ {vs : List V} {ds : List α}, A2 R vs ds → vs.length = ds.length
  | [], [], _ => rfl
  | _ :: _, _ :: _, h => congrArg (· + 1) (A2.len h.2)
  | [], _ :: _, h => h.elim
  | _ :: _, [], h => h.elim
theorem A2.mono (f : ∀ v d, R v d → S v d) : ∀ {vs : List V} {ds : List α}, A2 R vs ds → A2 S vs ds
  | [], [], _ => trivial
  | _ :: _, _ :: _, h => ⟨f _ _ h.1, A2.mono f h.2⟩
  | [], _ :: _, h => h.elim
  | _ :: _, [], h => h.elim
theorem A2.get : ∀ {vs : List V} {ds : List α} {i : Nat} {v : V}, A2 R vs ds → vs[i]? = some v → ∃ d, ds[i]? = some d ∧ R v d
  | [], [], i, v, _, e => by simp at e
  | w :: _, d :: _, 0, v, h, e => by
    have : w = v := by simpa using e
    exact ⟨d, rfl, this ▸ h.1⟩
  | _ :: _, _ :: _, i + 1, v, h, e => by
    obtain ⟨d, e1, r⟩ := A2.get (i := i) h.2 (by simpa using e)
    exact ⟨d, by simpa using e1, r⟩
  | [], _ :: _, _, _, h, _ => h.elim
  | _ :: _, [], _, _, h, _ => h.elim
theorem A2.app : ∀ {vs ws : List V} {ds es : List α}, A2 R vs ds → A2 R ws es → A2 R (vs ++ ws) (ds ++ es)
  | [], _, [], _, _, k => k
  | _ :: _, _, _ :: _, _, h, k => ⟨h.1, A2.app h.2 k⟩
  | [], _, _ :: _, _, h, _ => h.elim
  | _ :: _, _, [], _, h, _ => h.elim
theorem A2.take : ∀ {vs : List V} {ds : List α} (n : Nat), A2 R vs ds → A2 R (vs.take n) (ds.take n)
  | vs, ds, 0, _ => by simp [A2]
  | [], [], n + 1, _ => trivial
  | _ :: _, _ :: _, n + 1, h => ⟨h.1, A2.take n h.2⟩
  | [], _ :: _, _ + 1, h => h.elim
  | _ :: _, [], _ + 1, h => h.elim
theorem A2.drop : ∀ {vs : List V} {ds : List α} (n : Nat), A2 R vs ds → A2 R (vs.drop n) (ds.drop n)
  | vs, ds, 0, h => by simpa using h
  | [], [], n + 1, _ => trivial
  | _ :: _, _ :: _, n + 1, h => A2.drop n h.2
  | [], _ :: _, _ + 1, h => h.elim
  | _ :: _, [], _ + 1, h => h.elim
end
/-! ### heaps -/
/-- all that was tracked, but what stands at w, is as it was -/
def Fr (w : Addr) (H H' : Hp) : Prop := ∀ b o, b ≠ w → H b = some o → H' b = some o
theorem Fr.refl (w : Addr) (H : Hp) : Fr w H H := fun _ _ _ h => h
theorem Fr.trans {w : Addr} {H H1 H2 : Hp} (a : Fr w H H1) (b : Fr w H1 H2) : Fr w H H2 := fun c o n h => b c o n (a c o n h)
theorem Fr.of {w : Addr} {H H1 : Hp} (a : Same H H1) : Fr w H H1 := fun b o _ h => a b o h
theorem Fr.sqL {K : PySem.W.Frag} {w : Addr} {H H' : Hp} {a : Addr} {xs : List V} (e : Fr w H H') (n : a ≠ w) (h : SqL K H a xs) : SqL K H' a xs := by
  rcases h with h | h
  · refine Or.inl ?_
    rcases h with h | ⟨o, h⟩
    · exact Or.inl (e a _ n h)
    · exact Or.inr ⟨o, e a _ n h⟩
  · exact Or.inr h
theorem Fr.sqT {K : PySem.W.Frag} {w : Addr} {H H' : Hp} {a : Addr} {xs : List V} (e : Fr w H H') (n : a ≠ w) (h : SqT K H a xs) : SqT K H' a xs := by
  rcases h with h | h
  · refine Or.inl ?_
    rcases h with h | ⟨o, h⟩
    · exact Or.inl (e a _ n h)
    · exact Or.inr ⟨o, e a _ n h⟩
  · exact Or.inr h
theorem sameT {K : PySem.W.Frag} {H H' : Hp} {a : Addr} {xs : List V} (e : Same H H') (h : SqT K H a xs) : SqT K H' a xs := by
  rcases h with h | h
  · refine Or.inl ?_
    rcases h with h | ⟨o, h⟩
    · exact Or.inl (e a _ h)
    · exact Or.inr ⟨o, e a _ h⟩
  · exact Or.inr h
theorem same_new {H : Hp} {p : Addr} {o : HO} (h : H p = none) : Same H (upd H p o) := fun b u e => by
  rw [upd_ne (ne_of_none e h)]
  exact e
theorem same_mut {H H' : Hp} {p : Addr} {o : HO} (e : Same H H') (h : H p = none) : Same H (upd H' p o) := fun b u ha => by
  rw [upd_ne (ne_of_none ha h)]
  exact e b u ha
theorem fr_mut {w : Addr} {H H' : Hp} {o : HO} (e : Fr w H H') : Fr w H (upd H' w o) := fun b u n h => by
  rw [upd_ne n]
  exact e b u n h
theorem fr_new {w : Addr} {H H' : Hp} {p : Addr} {o : HO} (e : Fr w H H') (h : H p = none) : Fr w H (upd H' p o) := fun b u n ha => by
  rw [upd_ne (ne_of_none ha h)]
  exact e b u n ha
theorem fr_free {w : Addr} {H H' : Hp} {p : Addr} (e : Fr w H H') (n : p ≠ w) (h : H' p = none) : H p = none := by
  cases z : H p with
  | none => rfl
  | some o =>
    rw [e p o n z] at h
    cases h
/-- ints as values -/
abbrev vi (l : List Int) : List V := l.map V.int
theorem vi_get {l : List Int} {i : Nat} {y : V} (h : (vi l)[i]? = some y) : ∃ z, l[i]? = some z ∧ y = .int z := by
  rw [List.getElem?_map] at h
  cases e : l[i]? with
  | none =>
    rw [e] at h
    cases h
  | some z =>
    rw [e] at h
    exact ⟨z, rfl, (Option.some.inj h).symm⟩
theorem vi_at {l : List Int} {i : Nat} (h : i < l.length) : atI (vi l) (i : Int) = some (.int (l.getD i 0)) := by
  refine atI_nat ?_
  rw [List.getElem?_map, List.getElem?_eq_getElem h, List.getD_eq_getElem?_getD, List.getElem?_eq_getElem h]
  rfl
end KpR

namespace KpR
open PySem PySem.Spec PyProof.Rows L2
def strB (es : Array DictEntry) : Bool := es.toList.all fun e => match e.key with
  | .str _ _ => true
  | _ => false
theorem strB_keys {es : Array DictEntry} (h : strB es = true) : StrKeys es := fun e he => by
  have q := List.all_eq_true.mp h e (by simpa using he)
  cases k : e.key <;> rw [k] at q <;> first | exact ⟨_, _, rfl⟩ | cases q
theorem ns_at {K : PySem.W.Frag} {h : Heap} {N : Addr} {c : Value} {d : Option Addr} {es : Array DictEntry} {m : Nat} {sl : Array (Option Value)} (X : K.In h) (l : K.lookup N = some ⟨c, d, .dict es m, sl⟩) (ok : strB es = true) :
    h.Ns N fun x => nsFind es x := ⟨_, es, m, X _ _ l, rfl, strB_keys ok, fun _ => rfl⟩
theorem find_some {K : PySem.W.Frag} {N : Addr} {c : Value} {d : Option Addr} {es : Array DictEntry} {m : Nat} {sl : Array (Option Value)} {x : Str} {v : Value} (l : K.lookup N = some ⟨c, d, .dict es m, sl⟩)
    (e : PySem.W.nsIn K N x = some (some v)) : nsFind es x = some v := by
  unfold PySem.W.nsIn at e
  rw [l] at e
  dsimp only at e
  unfold nsFind findBy
  rw [← Array.find?_toList]
  cases q : es.toList.find? (fun en => en.key.isStr x) with
  | none =>
    rw [q] at e
    dsimp only at e
    split at e <;> cases e
  | some en =>
    rw [q] at e
    cases e
    rfl
theorem find_none {K : PySem.W.Frag} {N : Addr} {c : Value} {d : Option Addr} {es : Array DictEntry} {m : Nat} {sl : Array (Option Value)} {x : Str} (l : K.lookup N = some ⟨c, d, .dict es m, sl⟩)
    (e : PySem.W.nsIn K N x = some none) : nsFind es x = none := by
  unfold PySem.W.nsIn at e
  rw [l] at e
  dsimp only at e
  unfold nsFind findBy
  rw [← Array.find?_toList]
  cases q : es.toList.find? (fun en => en.key.isStr x) with
  | none => rfl
  | some en =>
    rw [q] at e
    cases e
/-- what the written part says of such a class -/
structure NeCls (K : PySem.W.Frag) (C f : Addr) : Prop where
  ob : ∃ (nm q : Str) (N : Addr) (bs : List Value) (hd : Bool) (sn : List Str) (sub : List Value) (ab : Bool) (col : Option Bool) (dd : Option Addr) (k0 k1 k2 k3 k5 : Option Value) (nid : String),
    K.lookup C = some (excClassObj nm q C N bs [.type "object"] hd sn sub ab col dd k0 k1 k2 k3 k5 nid) ∧
    ∃ (c : Value) (d : Option Addr) (es : Array DictEntry) (m : Nat) (sl : Array (Option Value)), K.lookup N = some ⟨c, d, .dict es m, sl⟩ ∧ strB es = true ∧ PySem.W.nsIn K N "__eq__" = some (some (.ref f)) ∧ PySem.W.nsIn K N "__ne__" = some none
  fn : ∃ of : Obj, K.lookup f = some of ∧ of.cls = .type "function"
def rNeG (D : Eqv) : R2 := fun x y H Q => D x y H ∧ ∀ H', Ext H H' → Q (.bl false) H'
section
variable {X : Cx} {CX : CXT} {n : Nat} {C f : Addr} {fd : FuncData} {ps : List Str} {R : Addr → Addr → Hp → Prop} {E : XK}
theorem op_neOwn (G : FnOk X.prog X.w X.K X.mg X.base CX n f fd ps (spEq R)) (hc : NeCls X.K C f) (hb : Binds X.K fd ps []) (hx : Passes CX X E) (hr : Room (n + 1) X.A) :
    OpR X (compareOp .NotEq) (rNeG (DIns C R)) := by
  intro pins s σ H x y v u Q I rx ry hq
  obtain ⟨⟨a, b, dx, dy, fs, gs, rfl, rfl, ha, hb1, hR⟩, q⟩ := hq
  cases rx
  cases ry
  obtain ⟨mA, J, _⟩ := ins_get I.hok ha
  obtain ⟨mB, J1, _⟩ := ins_get I.hok hb1
  obtain ⟨od, J, _⟩ := J.look
  obtain ⟨od1, J1, _⟩ := J1.look
  obtain ⟨nm, qn, N, bs, hd, sn, sub, ab, col, dd, k0, k1, k2, k3, k5, nid, lC, c1, d1, es, m, sl, lN, sb, lE, lNe⟩ := hc.ob
  obtain ⟨of, lf, cf⟩ := hc.fn
  have KI := I.kIn
  obtain ⟨mN, hn, e1, e2⟩ : ∃ mN : Str → Option Value, s.heap.Ns N mN ∧ mN "__eq__" = some (.ref f) ∧ mN "__ne__" = none := ⟨_, ns_at KI lN sb, find_some lN lE, find_none lN lNe⟩
  have XX : s.heap.OwnEqNoNe a C f "object" [.type "object"] :=
    ⟨_, of, nm, qn, N, bs, hd, sn, sub, ab, col, dd, k0, k1, k2, k3, k5, nid, mN, _, J.at_, J.cls, KI _ _ lC, hn, e1, KI _ _ lf, cf, rfl, rfl, e2⟩
  have e0 := I.env0
  have sp1 : spEq R [.ref a, .ref b] H (fun v H' => v = .bl true ∧ Ext H H') E := ⟨a, b, rfl, hR, fun H' e => ⟨rfl, e⟩⟩
  have ln := G.len _ _ _ _ sp1
  have vals : Vals [V.ref a, V.ref b] [Value.ref a, Value.ref b] := .cons rfl (.cons rfl .nil)
  have hr1 : Room n X.A.in1 := hr.in1
  have f0 : Env0 X.prog X.w X.K X.mg X.base X.A.in1 X.stack s H := ⟨e0.frames, e0.mod, e0.bs, e0.bsz, e0.funs, e0.frf, e0.hok, e0.bare⟩
  have bd := hb s [.ref a, .ref b] KI (by simpa using ln)
  obtain ⟨hp, g, dr, tk, os⟩ := s
  refine compareOp_ne_ownEq F.cmp_object XX J1.at_ J1.cls (hu_of hr) ?_
  refine wpAny_call (codeAny_mono (G.run X.A.in1 X.stack _ H ⟨[.ref a, .ref b], []⟩ [.ref a, .ref b] [.ref a, .ref b] _ E hr1 f0 (by simpa using bd) vals sp1) fun r s1 hq1 => ?_)
  cases r with
  | error e => exact hx pins σ H _ e s1 I hq1
  | ok fl =>
    cases fl with
    | ret w1 =>
      obtain ⟨z, H1, I1, rz, ez, ex⟩ := I.after hq1
      subst ez
      cases rz
      exact ⟨true, rfl, .bl false, H1, I1, rfl, q H1 ex⟩
    | next => exact False.elim hq1
    | brk => exact False.elim hq1
    | cont => exact False.elim hq1
end
end KpR

namespace KpR
open PySem PySem.Spec PyProof.Rows L2
section
variable {prog : Program} {w : World} {A : Around} {E : Value → Shared → Prop} {s : Shared} {K : PySem.W.Frag} {x C f : Addr} {ox : Obj} {od : Option Obj}
theorem dec_tup {l : Addr} {its : Array Value} {n : Nat} {dd : Option Addr} {sl : Array (Option Value)} {Q : Value → Shared → Prop} (hl : s.heap.get? l = some { cls := .type "tuple", dict := dd, data := .seq its n, slots := sl })
    (hx : s.heap.get? x = some ox) (hc : ox.cls = .ref C) (hs : PySem.W.Looks (model prog w) s.heap (isSubtype (.ref C) (.type "tuple")) false) (q : Q .notImplemented s) :
    wpAny (model prog w) A (call (.builtin "tuple.__eq__") [.ref l, .ref x]) Q E s := by
  refine GQ.call_here F.slot_tuple_eq ⟨_, hl, rfl⟩ F.entry_tuple_eq (F.args_tuple_eq_2 _ _) ?_
  obtain ⟨hp, g, d, tk, os⟩ := s
  wp_walk using PySem.AutoSeq1.wpAny_loadPart' hx
  rw [hc]
  refine hs.at ?_
  wp_walk
  exact q
theorem dec_int {i : Int} {t : Tok} {Q : Value → Shared → Prop}
    (hx : s.heap.get? x = some ox) (hd : ∀ p, ox.data ≠ .prim p) (q : Q .notImplemented s) :
    wpAny (model prog w) A (call (.builtin "int.__eq__") [.int i t, .ref x]) Q E s := by
  refine GQ.call_here F.slot_int_eq (typeIs_int s i t) F.entry_int_eq (F.args_int_eq_2 _ _) ?_
  obtain ⟨hp, g, d, tk, os⟩ := s
  wp_walk using PySem.AutoSeq1.wpAny_loadPart' hx, wpAny_load hx
  split
  · rename_i i' t' e
    exact absurd e (hd _)
  · wp_walk
    exact q
theorem dec_non {Q : Value → Shared → Prop} (q : Q .notImplemented s) :
    wpAny (model prog w) A (call (.builtin "NoneType.__eq__") [.none, .ref x]) Q E s :=
  call_gives F.slot_NoneType_eq rfl F.entry_NoneType_eq (F.args_NoneType_eq_2 _ _) (SeqAt.NoneType___eq___none_ref_0 x) q
/-- a value that declines, then the own == of the other side -/
theorem rc_behind {v : Value} {T id : String} {Q : Value → Shared → Prop} (tv : s.TypeIs v T) (X : K.In s.heap) (I : PySem.W.InstAt s.heap x ox C od) (hsub : PySem.W.subIn K (.ref C) (.type T) = some false)
    (h1 : Slot T "__eq__" id) (dec : ∀ Q' : Value → Shared → Prop, Q' .notImplemented s → wpAny (model prog w) A (call (.builtin id) [v, .ref x]) Q' E s) (hs : PySem.W.findIn K (.ref C) "__eq__" = some (some (.ref f))) (hf : PySem.W.isFn K (.ref f) = true)
    (hu : A.units < cLine) (h : wpAny (model prog w) A (call (.ref f) [.ref x, v]) (PySem.W.CmpBack Q) E s) : wpAny (model prog w) A (richCompare .Eq v (.ref x)) Q E s := by
  have one : wpAny (model prog w) A (tryCompare (.ref x) "__eq__" v) (fun r s' => ∃ z, r = some z ∧ Q z s') E s := by
    unfold tryCompare
    refine wpAny_bind (PySem.W.ifBound_K X I hs hf (wpAny_mono h (fun z s' hz => ?_) fun _ _ e => e))
    cases z with
    | notImplemented => exact False.elim hz
    | _ => exact wpAny_pure ⟨_, rfl, hz⟩
  have nz : (Value.type T != Value.ref C) = true := rfl
  simp only [richCompare, cmpInfo_Eq, tv.oneThing_none]
  refine wpAny_holding (wpAny_bind (wpAny_cRoomFor hu ?_))
  refine wpAny_bind (wpAny_typeOf tv (wpAny_bind (I.type.here ?_)))
  rw [if_pos nz]
  refine wpAny_bind ((PySem.W.looks_subIn X hsub).here ?_)
  rw [if_neg Bool.false_ne_true]
  refine wpAny_bind (m := tryCompare v _ (.ref x)) (wpAny_tryCompare_declines tv h1 (dec _ ⟨rfl, ?_⟩))
  rw [if_pos (show (!false) = true from rfl)]
  refine wpAny_bind (m := tryCompare (.ref x) _ v) (wpAny_mono one (fun r s' z => ?_) fun _ _ e => e)
  obtain ⟨z, rfl, hq⟩ := z
  exact wpAny_pure hq
end
/-- an own == that answers b where R says so, and only makes objects -/
def spEqB (R : Addr → V → Bool → Hp → Prop) : Sp := fun vs H Q _ => ∃ a y b, vs = [.ref a, y] ∧ R a y b H ∧ ∀ H', Ext H H' → Q (.bl b) H'
/-- either answer, by the abstract heap -/
abbrev EqvB := V → V → Bool → Hp → Prop
def EqB (X : Cx) (n : Nat) (D : EqvB) : Prop :=
  ∀ (B : Around) (pins : List (Addr × Obj)) (s : Shared) (σ : L2.St) (H : Hp) (x y : V) (b : Bool) (u v : Value), Sub X n B → Inv X pins σ H s → RelV x u → RelV y v → D x y b H →
    wpAny (model X.prog X.w) B (eqBool u v) (fun r s' => r = b ∧ LoopI X pins σ H s') X.xe s
def RcB (X : Cx) (n : Nat) (D : EqvB) : Prop :=
  ∀ (B : Around) (pins : List (Addr × Obj)) (s : Shared) (σ : L2.St) (H : Hp) (x y : V) (b : Bool) (u v : Value), Sub X n B → Inv X pins σ H s → RelV x u → RelV y v → D x y b H →
    wpAny (model X.prog X.w) B (richCompare .Eq u v) (fun r s' => r = .bool b ∧ LoopI X pins σ H s') X.xe s
/-- what the written part says of a class with an own == -/
structure EqCls (K : PySem.W.Frag) (C f : Addr) : Prop where
  hs : PySem.W.findIn K (.ref C) "__eq__" = some (some (.ref f))
  hf : PySem.W.isFn K (.ref f) = true
/-- both are instances, the second of no class below the first one's -/
def DInsB (K : PySem.W.Frag) (C : Addr) (R : Addr → V → Bool → Hp → Prop) : EqvB := fun x y b H => ∃ a c C' dx dy fs gs, x = .ref a ∧ y = .ref c ∧ H a = some (.ins C dx fs) ∧ H c = some (.ins C' dy gs) ∧ PySem.W.notFirst K C (.ref C') = true ∧ R a (.ref c) b H
/-- the first one is none of the class -/
inductive Alien (K : PySem.W.Frag) (C : Addr) (H : Hp) : V → Prop
  | non (h : PySem.W.subIn K (.ref C) (.type "NoneType") = some false) : Alien K C H .non
  | int {i : Int} (h : PySem.W.subIn K (.ref C) (.type "int") = some false) : Alien K C H (.int i)
  | tup {a : Addr} {xs : List V} (h : PySem.W.subIn K (.ref C) (.type "tuple") = some false) (e : H a = some (.tup xs)) : Alien K C H (.ref a)
  | lst {a : Addr} {xs : List V} (h : PySem.W.subIn K (.ref C) (.type "list") = some false) (e : H a = some (.lst xs)) : Alien K C H (.ref a)
def DBehB (K : PySem.W.Frag) (C : Addr) (R : Addr → V → Bool → Hp → Prop) : EqvB := fun x y b H => ∃ a dx fs, y = .ref a ∧ H a = some (.ins C dx fs) ∧ Alien K C H x ∧ R a x b H
section
variable {prog : Program} {w : World} {A : Around} {E : Value → Shared → Prop} {s : Shared} {x C : Addr} {ox : Obj}
theorem dec_lst {l : Addr} {its : Array Value} {n : Nat} {dd : Option Addr} {sl : Array (Option Value)} {Q : Value → Shared → Prop} (hl : s.heap.get? l = some { cls := .type "list", dict := dd, data := .seq its n, slots := sl })
    (hx : s.heap.get? x = some ox) (hc : ox.cls = .ref C) (hs : PySem.W.Looks (model prog w) s.heap (isSubtype (.ref C) (.type "list")) false) (q : Q .notImplemented s) :
    wpAny (model prog w) A (call (.builtin "list.__eq__") [.ref l, .ref x]) Q E s := by
  refine GQ.call_here F.slot_list_eq ⟨_, hl, rfl⟩ F.entry_list_eq (F.args_list_eq_2 _ _) ?_
  obtain ⟨hp, g, d, tk, os⟩ := s
  wp_walk using PySem.AutoSeq1.wpAny_loadPart' hx
  rw [hc]
  refine hs.at ?_
  wp_walk
  exact q
end
section
variable {X : Cx} {CX : CXT} {n : Nat} {C f : Addr} {fd : FuncData} {ps : List Str} {R : Addr → V → Bool → Hp → Prop} {E : XK} {pins : List (Addr × Obj)} {σ : L2.St} {H : Hp} {s : Shared} {B : Around}
theorem own_runB (G : FnOk X.prog X.w X.K X.mg X.base CX n f fd ps (spEqB R)) (hb : Binds X.K fd ps []) (hx : Passes CX X E) (sb : Sub X n B) (I : Inv X pins σ H s) {a : Addr} {y : V} {v : Value} {b : Bool} (ry : RelV y v) (hr : R a y b H) :
    wpAny (model X.prog X.w) B (call (.ref f) [.ref a, v]) (PySem.W.CmpBack fun r s' => r = .bool b ∧ LoopI X pins σ H s') X.xe s := by
  have sp1 : spEqB R [.ref a, y] H (fun z H' => z = .bl b ∧ Ext H H') E := ⟨a, y, b, rfl, hr, fun H' e => ⟨rfl, e⟩⟩
  have e0 := I.env0
  have ln := G.len _ _ _ _ sp1
  have vals : Vals [V.ref a, y] [Value.ref a, v] := .cons rfl (.cons ry .nil)
  have f0 : Env0 X.prog X.w X.K X.mg X.base B X.stack s H := ⟨by rw [sb.fr]; exact e0.frames, e0.mod, e0.bs, e0.bsz, e0.funs, e0.frf, e0.hok, e0.bare⟩
  have bd := hb s [.ref a, v] I.kIn (by simpa using ln)
  refine wpAny_call (codeAny_mono (G.run B X.stack s H ⟨[.ref a, v], []⟩ [.ref a, v] [.ref a, y] _ E sb.room f0 (by simpa using bd) vals sp1) fun r s1 hq1 => ?_)
  cases r with
  | error e => exact hx pins σ H s e s1 I hq1
  | ok fl =>
    cases fl with
    | ret w1 =>
      obtain ⟨z, H1, I1, rz, ez, ex⟩ := I.after hq1
      subst ez
      cases rz
      exact ⟨rfl, H1, I1, ex⟩
    | next => exact False.elim hq1
    | brk => exact False.elim hq1
    | cont => exact False.elim hq1
theorem rcB_ins (hc : EqCls X.K C f) (G : FnOk X.prog X.w X.K X.mg X.base CX n f fd ps (spEqB R)) (hb : Binds X.K fd ps []) (hx : Passes CX X E) : RcB X n (DInsB X.K C R) := by
  intro B pins s σ H x y b u v sb I rx ry hd
  obtain ⟨a, c, C', dx, dy, fs, gs, rfl, rfl, ha, hc1, nf, hr⟩ := hd
  cases rx
  cases ry
  obtain ⟨mA, J, _⟩ := ins_get I.hok ha
  obtain ⟨mC, J1, _⟩ := ins_get I.hok hc1
  obtain ⟨od, J, _⟩ := J.look
  obtain ⟨od1, J1, _⟩ := J1.look
  obtain ⟨m, hF⟩ := I.fr
  exact PySem.W.cmp_K (op := .Eq) (tb := .ref C') sb.room.units0 hF I.ok.mod.kin J J1.type nf hc.hs hc.hf (own_runB (y := .ref c) (v := .ref c) G hb hx sb I rfl hr)
theorem rcB_beh (hc : EqCls X.K C f) (G : FnOk X.prog X.w X.K X.mg X.base CX n f fd ps (spEqB R)) (hb : Binds X.K fd ps []) (hx : Passes CX X E) : RcB X n (DBehB X.K C R) := by
  intro B pins s σ H x y b u v sb I rx ry hd
  obtain ⟨a, dx, fs, rfl, ha, al, hr⟩ := hd
  cases ry
  obtain ⟨mA, J, _⟩ := ins_get I.hok ha
  obtain ⟨od, J, _⟩ := J.look
  have go := fun {v : Value} (rv : RelV x v) => own_runB G hb hx sb I rv hr
  cases al with
  | non h =>
    cases (show u = Value.none from rx)
    exact rc_behind rfl I.kIn J h F.slot_NoneType_eq (fun _ q => dec_non q) hc.hs hc.hf sb.room.units0 (go rfl)
  | int h =>
    obtain ⟨t, e⟩ := (show ∃ t, u = Value.int _ t from rx)
    cases e
    exact rc_behind (typeIs_int s _ t) I.kIn J h F.slot_int_eq (fun _ q => dec_int J.at_ (fun _ z => nomatch z) q) hc.hs hc.hf sb.room.units0 (go ⟨t, rfl⟩)
  | tup h e =>
    cases (show u = Value.ref _ from rx)
    obtain ⟨its, r, ⟨⟨cl, dd, dt, sl⟩, e1, e2, k, e3⟩, _⟩ := I.tuple (SqT.of e)
    simp only at e2 e3
    subst e2 e3
    exact rc_behind ⟨_, e1, rfl⟩ I.kIn J h F.slot_tuple_eq (fun _ q => dec_tup e1 J.at_ rfl (PySem.W.looks_subIn I.kIn h) q) hc.hs hc.hf sb.room.units0 (go rfl)
  | lst h e =>
    cases (show u = Value.ref _ from rx)
    obtain ⟨z, its, k, r, e1⟩ := I.hok _ _ e
    exact rc_behind ⟨_, e1, rfl⟩ I.kIn J h F.slot_list_eq (fun _ q => dec_lst e1 J.at_ rfl (PySem.W.looks_subIn I.kIn h) q) hc.hs hc.hf sb.room.units0 (go rfl)
end
section
variable {X : Cx} {n m : Nat} {D D' : EqvB}
theorem RcB.or (h : RcB X n D) (h' : RcB X n D') : RcB X n (fun x y b H => D x y b H ∨ D' x y b H) := fun B pins s σ H x y b u v sb I rx ry d =>
  d.elim (h B pins s σ H x y b u v sb I rx ry) (h' B pins s σ H x y b u v sb I rx ry)
theorem EqB.or (h : EqB X n D) (h' : EqB X n D') : EqB X n (fun x y b H => D x y b H ∨ D' x y b H) := fun B pins s σ H x y b u v sb I rx ry d =>
  d.elim (h B pins s σ H x y b u v sb I rx ry) (h' B pins s σ H x y b u v sb I rx ry)
theorem RcB.mono (h : RcB X n D) (k : n ≤ m) : RcB X m D := fun B pins s σ H x y b u v sb => h B pins s σ H x y b u v (sb.mono k)
/-- inside a list or a tuple: the same object is itself -/
theorem RcB.eqB (h : RcB X n D) (hr : ∀ x y b H, D x y b H → (∃ c, x = .ref c ∧ ∃ a, y = .ref a ∧ (c = a → b = true)) ∨ ((x = .non ∨ ∃ i, x = .int i) ∧ ∃ a, y = .ref a)) : EqB X n D := by
  intro B pins s σ H x y b u v sb I rx ry d
  have go : u ≠ v → (∀ p q, ¬ (u = .float p q)) → wpAny (model X.prog X.w) B (eqBool u v) (fun r s' => r = b ∧ LoopI X pins σ H s') X.xe s := by
    intro ne nf
    unfold eqBool
    refine wpAny_holding ?_
    refine wpAny_ite_split (fun e => absurd (eq_of_beq e) ne) (fun _ => ?_)
    have k := h B pins s σ H x y b u v sb I rx ry d
    have k2 : wpAny (model X.prog X.w) B (do truthOfDropped (← richCompare .Eq u v)) (fun r s' => r = b ∧ LoopI X pins σ H s') X.xe s := by
      refine wpAny_bind (wpAny_mono k (fun z s' q => ?_) fun _ _ e => e)
      obtain ⟨rfl, q⟩ := q
      exact wpAny_truthy_bool ⟨rfl, q⟩
    cases u with
    | float p q => exact absurd rfl (nf p q)
    | _ => exact k2
  rcases hr x y b H d with ⟨c, rfl, a, rfl, q⟩ | ⟨hx, a, rfl⟩
  · cases (show u = Value.ref c from rx)
    cases (show v = Value.ref a from ry)
    by_cases e : c = a
    · have eb := q e
      subst e
      subst eb
      exact SeqAt.EqAt.same (A := B) (s := s) (.ref c) X.prog X.w X.xe _ ⟨rfl, H, I, Ext.rfl'⟩
    · exact go (fun z => e (Value.ref.inj z)) (fun _ _ z => nomatch z)
  · cases (show v = Value.ref a from ry)
    rcases hx with rfl | ⟨i, rfl⟩
    · cases (show u = Value.none from rx)
      exact go (fun z => nomatch z) (fun _ _ z => nomatch z)
    · obtain ⟨t, e⟩ := (show ∃ t, u = Value.int i t from rx)
      cases e
      exact go (fun z => nomatch z) (fun _ _ z => nomatch z)
/-- x == y -/
def rEqB (D : EqvB) : R2 := fun x y H Q => ∃ b, D x y b H ∧ ∀ H', Ext H H' → Q (.bl b) H'
theorem op_eqB (h : RcB X n D) (hr : Room n X.A) : OpR X (compareOp .Eq) (rEqB D) := by
  intro pins s σ H x y v u Q I rx ry hq
  obtain ⟨b, d, q⟩ := hq
  show wpAny (model X.prog X.w) X.A (richCompare .Eq v u) (EP X pins σ Q) X.xe s
  refine wpAny_mono (h X.A pins s σ H x y b v u ⟨hr, rfl⟩ I rx ry d) (fun r s1 z => ?_) fun _ _ e => e
  obtain ⟨rfl, H1, I1, e⟩ := z
  exact ⟨.bl b, H1, I1, rfl, q H1 e⟩
/-- x in a list none of whose items is equal to it -/
def rOutB (D : EqvB) : R2 := fun x y H Q => ∃ l ys, y = .ref l ∧ (∀ H', Ext H H' → H' l = some (.lst ys)) ∧ (∀ z, z ∈ ys → ∀ H', Ext H H' → D z x false H') ∧ ∀ H', Ext H H' → Q (.bl false) H'
theorem has_none (h : EqB X n D) {B : Around} (sb : Sub X (n + 1) B) {pins : List (Addr × Obj)} {σ : L2.St} {H : Hp} {x : V} {v : Value} {l : Addr} {ys : List V} (rx : RelV x v) (hl : ∀ H', Ext H H' → H' l = some (.lst ys)) (hd : ∀ z, z ∈ ys → ∀ H', Ext H H' → D z x false H')
    {Q : Value → Shared → Prop} (fin : ∀ s', LoopI X pins σ H s' → Q (.bool false) s') (k : Nat) : ∀ i : Nat, ys.length - i = k → ∀ s, LoopI X pins σ H s →
      wpAny (model X.prog X.w) B.in1 (Builtin.«list.__contains__.loop» ⟨[.ref l, v, rawInt i], []⟩) (GQ.FinOf X.prog X.w B (wants Q X.xe)) (fun e s' => wants Q X.xe (.error e) s') s := by
  induction k with
  | zero =>
    intro i hi s hs
    obtain ⟨H1, I1, e1⟩ := id hs
    obtain ⟨z, its, kk, r, eo⟩ := I1.hok _ _ (hl H1 e1)
    have out := fin s hs
    have no : its.toArray[((i : Nat) : Int).toNat]? = none := by
      have q := r.length
      simp
      omega
    obtain ⟨hp, g, d, tk, os⟩ := s
    wp_walk using PySem.AutoSeq1.wpAny_loadPart' eo
    rw [no]
    wp_walk
    exact out
  | succ k ih =>
    intro i hi s hs
    obtain ⟨H1, I1, e1⟩ := id hs
    obtain ⟨z, its, kk, r, eo⟩ := I1.hok _ _ (hl H1 e1)
    have lt : i < ys.length := by omega
    have lt2 : i < its.length := by rw [← r.length] <;> exact lt
    have so : its.toArray[((i : Nat) : Int).toNat]? = some its[i] := by simp [lt2]
    obtain ⟨u, hu, ru⟩ := r.get (List.getElem?_eq_getElem lt)
    have eu : its[i] = u := by
      rw [List.getElem?_eq_getElem lt2] at hu
      exact Option.some.inj hu
    have turn := h B.in1 pins s σ H1 _ x false u v sb.in1 I1 ru rx (hd _ (List.getElem_mem lt) H1 e1)
    obtain ⟨hp, g, d, tk, os⟩ := s
    wp_walk using PySem.AutoSeq1.wpAny_loadPart' eo
    rw [so, eu]
    refine wpAny_bind (wpAny_mono turn (fun rr s2 q => ?_) fun _ _ e => e)
    obtain ⟨rfl, H2, I2, e2⟩ := q
    have next := ih (i + 1) (by omega) s2 ⟨H2, I2, e1.trans e2⟩
    have up : ((i : Int) + 1) = ((i + 1 : Nat) : Int) := by omega
    obtain ⟨hp2, g2, d2, tk2, os2⟩ := s2
    wp_walk
    rw [up]
    exact ⟨plainId_quiet MeetsSeq.plain_contains_loop _, codeAny_builtin MeetsSeq.entry_contains_loop (by
      rw [Around.under_plainId MeetsSeq.plain_contains_loop _]
      exact next)⟩
theorem op_outB (h : EqB X n D) (hr : Room (n + 1) X.A) : OpR X (compareOp .In) (rOutB D) := by
  intro pins s σ H x y v u Q I rx ry hq
  obtain ⟨l, ys, rfl, hl, hd, q⟩ := hq
  cases (show u = Value.ref l from ry)
  obtain ⟨z, its, kk, r, eo⟩ := I.hok _ _ (hl H Ext.rfl')
  show wpAny (model X.prog X.w) X.A (do return .bool (← contains (.ref l) v)) (EP X pins σ Q) X.xe s
  have end_ : ∀ s', LoopI X pins σ H s' → EP X pins σ Q (.bool false) s' := fun s' ⟨H1, I1, e1⟩ => ⟨.bl false, H1, I1, rfl, q H1 e1⟩
  have run := has_none (B := X.A) h ⟨hr, rfl⟩ rx hl hd (Q := fun r s' => r = .bool false ∧ LoopI X pins σ H s') (fun s' z => ⟨rfl, z⟩) _ 0 rfl s ⟨H, I, Ext.rfl'⟩
  refine wpAny_bind (wpAny_contains_slot (id := "list.__contains__") ⟨_, eo, rfl⟩ F.slot_list_contains (wpAny_mono (GQ.call_here (Q := fun r s' => r = .bool false ∧ LoopI X pins σ H s') F.slot_list_contains ⟨_, eo, rfl⟩ F.entry_list_contains (F.args_list_contains_2 _ _) ?_) (fun r s' z => ?_) fun _ _ e => e))
  · obtain ⟨hp, g, d, tk, os⟩ := s
    wp_walk
    exact ⟨plainId_quiet MeetsSeq.plain_contains_loop _, codeAny_builtin MeetsSeq.entry_contains_loop (by
      rw [Around.under_plainId MeetsSeq.plain_contains_loop _]
      exact run)⟩
  · obtain ⟨rfl, z⟩ := z
    exact wpAny_truthy_bool (wpAny_pure (end_ s' z))
end
end KpR

namespace KpR
open PySem PySem.Spec PyProof.Rows L2
/-- a callee of which nothing comes -/
theorem passF {X : Cx} : Passes (L2.CX X.prog X.w) X (fun _ _ _ => False) := fun _ _ _ _ _ _ _ ⟨_, _, _, _, _, _, _, _, _, _, _, _, z⟩ => z.elim
/-- what a callee in a try's body may raise: whatever the locals are -/
def anyL (n : Nat) (W : WX) : XK := fun cls d H => ∀ σ : L2.St, σ.length = n → W cls d σ H
theorem passL {X : Cx} {W : WX} {n : Nat} (tk : Takes X W) (hn : X.N.length = n) : Passes (L2.CX X.prog X.w) X (anyL n W) := fun _ σ _ _ e s' I c => tk e s' (XE.of_call I (fun _ _ _ h => h σ (by rw [← hn] <;> exact I.len)) c)
/-- a call by keywords of a def without defaults -/
theorem kbOf {K : PySem.W.Frag} {fd : FuncData} {ps ks : List Str} {n : Nat} {g : List Value → List Value → List Value} {gV : List V → List V → List V}
    (h : ∀ us ws : List Value, us.length = n → ws.length = ks.length → bindArgs fd ⟨us, ks.zip ws⟩ = pure (ps.zip (g us ws))) (r : ∀ {vs : List V} {us : List Value} {zs : List V} {ws : List Value}, Vals vs us → Vals zs ws → Vals (gV vs zs) (g us ws)) : KBn K fd ps n ks g gV :=
  ⟨fun s us ws _ l1 l2 => .of_eq (h us ws l1 l2), r⟩
/-- a builtin's type against an own class -/
theorem kit_tc {K : PySem.W.Frag} {T : String} {C : Addr} {b : Bool} (h1 : PySem.W.isClsIn K C = true) (h2 : PySem.W.typeIn K (.ref C) = some (.type "type")) (h3 : PySem.W.subIn K (.type T) (.ref C) = some b) : PySem.W.kitOne K (.type T) (.ref C) = some b := by
  have ne : ¬ (Value.type T == Value.ref C) = true := fun z => nomatch eq_of_beq z
  unfold PySem.W.kitOne
  rw [if_neg ne]
  show (if ((PySem.W.clsIn K C).isSome && PySem.W.typeIn K (.ref C) == some (.type "type")) = true then PySem.W.subIn K (.type T) (.ref C) else none) = some b
  rw [show (PySem.W.clsIn K C).isSome = true from h1, h2, if_pos (by rfl)]
  exact h3
/-- the first clause takes it -/
def wFst (K : PySem.W.Frag) (c : Value) (i : Nat) (tz : Addr → Value → Option Addr → TS) (D : Ends) : WX := fun cls d σ H =>
  PySem.W.exmOne K cls c = some true ∧ ∀ a, H a = none → tz a cls d ⟨fun τ G => D.nx (τ.set i none) G, D.rt, fun τ G => D.bk (τ.set i none) G, fun τ G => D.ct (τ.set i none) G⟩ (σ.set i (some (.ref a))) H
section
variable {X : Cx} {x n : Str} {c : Value} {i : Nat} {body rest : List Stmt} {z₀ : Stmt} {more : List ExceptHandler} {pn pt pw : Pos} {tb : WX → TS} {tz : Addr → Value → Option Addr → TS}
theorem ps_try_fst (st : X.stack = X.env :: X.outer) (fr : X.env.frame = some X.env.locals) (nd : X.N.Nodup) (at_ : X.N[i]? = some n) (lo : X.env.kindOf n = some .local) (nm : Names X x c)
    (bd : ∀ (W : WX) (qn : List (Addr × Obj)) (xe : Value → Shared → Prop), Takes (X.tr qn xe) W → PassesOwn (model X.prog X.w) X.A X.env xe → PSs (X.tr qn xe) body (tb W))
    (su : ∀ (e : Addr) (oe : Obj) (cls : Value) (d : Option Addr) (qn : List (Addr × Obj)), Zc cls d oe → (∃ fs, oe.data = .fields fs) → PSs (X.suite e ((e, oe) :: qn)) (z₀ :: rest) (tz e cls d)) :
    PS X (.Try body (.ExceptHandler (some (.Name x pn)) (some n) (z₀ :: rest) pw :: more) [] [] pt) (fun D σ H => tb (wFst X.K c i tz D) D σ H) := by
  refine ⟨fun pins s σ H D I hyp => ?_⟩
  have okX := I.ok
  have afr : X.A.frames = some (X.env :: X.outer) := by rw [okX.frames, st]
  have lcl : Loc X.env.scope n := .inl lo
  let hs := ExceptHandler.ExceptHandler (some (.Name x pn)) (some n) (z₀ :: rest) pw :: more
  refine wpAny_Try_except ?_
  refine wpAny_mono ((bd (wFst X.K c i tz D) (X.pn ++ pins) (fun e t1 => wpAny (model X.prog X.w) X.A (noteFrame e X.env) (fun _ t2 => wpAny (model X.prog X.w) X.A (setFlight e none) (fun _ t3 =>
    wpAny (model X.prog X.w) X.A (handleBy e X.env hs) (SP X pins D) X.xe t3) X.xe t2) X.xe t1) (fun u t air => ?_) PassesOwn.looking).run [] s σ H D (I.toTry _) hyp) (fun f t done => ?_) (fun _ _ air => air)
  · obtain ⟨e, G, sI, pq, τ, H1, cls, d, rfl, J0, near, upS, sky0, free, osE, bare, hit, go⟩ := air
    have J : Inv X pins τ H1 sI := J0.ofTry okX
    have sky : Sky G (X.env :: X.outer) e (Zc cls d) X.env.locals t.heap := by rw [← st] <;> exact sky0
    show wpAny (model X.prog X.w) X.A (noteFrame (.ref e) X.env) _ _ _
    refine Sky.land Zc.steady afr fr sky fun hp1 fly1 up1 => ?_
    have J1 : Inv X pins τ H1 { t with heap := hp1 } := J.landed near fly1.1 (upS.trans up1) osE bare
    obtain ⟨o1, fs1, at1, z1, dat1⟩ := fly1.there
    have off : e ∉ frs (X.env :: X.outer) := fun mem => by
      obtain ⟨_, o2, at2, no2⟩ := fly1.2.2.1.mem mem
      have q : o1 = o2 := Option.some.inj (at1.symm.trans at2)
      subst q
      exact no2 _ dat1
    have offL : e ≠ X.env.locals := fun q => off (List.mem_filterMap.mpr ⟨X.env, List.mem_cons_self, by rw [fr, q]⟩)
    have offF : e ∉ X.fs := fun mem => by
      obtain ⟨y, hy, q⟩ := List.mem_filterMap.mp mem
      exact off (List.mem_filterMap.mpr ⟨y, List.mem_cons_of_mem _ hy, q⟩)
    have S1 := J1.suite at1 dat1 free offL offF
    refine wpAny_handleBy_cons (codeAny_handlers_test ?_) (fun q => nomatch q)
    have ty : PySem.W.Looks (model X.prog X.w) hp1 (typeOf (.ref e)) cls := fun A Q E s k q => wpAny_typeOf_ref (k _ _ at1) (by rw [z1.1] <;> exact q)
    have mt := PySem.W.exm_one (M := model X.prog X.w) (J1.kIn) ty hit
    have look : ∀ {Q : Value → Shared → Prop} {E : Value → Shared → Prop}, Q c { t with heap := hp1 } → wpAny (model X.prog X.w) (X.A.mark (some (.ref e))) (eval (.Name x pn) X.env) Q E { t with heap := hp1 } := fun {Q E} q => by
      obtain ⟨gl, nd2, own | ⟨none_, boot, nn⟩⟩ := nm
      · exact ld_glob (X := X.suite e ((e, o1) :: (X.pn ++ pins))) S1 gl own q nd2
      · exact ld_blt (X := X.suite e ((e, o1) :: (X.pn ++ pins))) S1 gl none_ boot q nn nd2
    refine look (mt.here ?_)
    refine codeAny_handlers_suite_as ?_
    refine HandSPX.lands_againZ fly1 fun hp2 fly2 up2 => ?_
    have J2 : Inv X pins τ H1 { t with heap := hp2 } := J.landed near fly2.1 ((upS.trans up1).trans up2) osE bare
    obtain ⟨o2, fs2, at2, z2, dat2⟩ := fly2.there
    have S2 := J2.suite at2 dat2 free offL offF
    refine store_ok (X := X.suite e ((e, o2) :: (X.pn ++ pins))) (v := .ref e) S2 nd at_ lcl rfl (fun t2 S3 => ?_) (.inr lo)
    refine wpAny_mono ((su e o2 cls d (X.pn ++ pins) z2 ⟨_, dat2⟩).run [] t2 _ H1 _ S3 (go e free)) (fun f t3 out => ?_) (fun _ _ q => False.elim q)
    have fin : ∀ {τ1 : L2.St} {H2 : Hp} {R : Shared → Prop}, Inv (X.suite e ((e, o2) :: (X.pn ++ pins))) [] τ1 H2 t3 → (∀ t4, Inv X pins (τ1.set i none) H2 t4 → R t4) →
        wpAny (model X.prog X.w) X.A (do bindName X.env n .none; unbindBehindTheSuite X.env n pw) (fun _ t4 => R t4) X.xe t3 := fun {τ1 H2 R} S4 q => gone_ok (S4.unsuite okX) nd at_ lo q
    match f, out with
    | .next, ⟨_, _, S4, q⟩ => exact fin S4 fun _ J4 => ⟨_, _, J4, q⟩
    | .brk, ⟨_, _, S4, q⟩ => exact fin S4 fun _ J4 => ⟨_, _, J4, q⟩
    | .cont, ⟨_, _, S4, q⟩ => exact fin S4 fun _ J4 => ⟨_, _, J4, q⟩
    | .ret u, ⟨_, _, _, S4, ru, q⟩ => exact fin S4 fun _ J4 => ⟨_, _, _, J4, ru, q⟩
  · match f, done with
    | .next, ⟨_, _, J4, q⟩ => exact wpAny_execs_nil ⟨_, _, J4.ofTry okX, q⟩
    | .brk, ⟨_, _, J4, q⟩ => exact ⟨_, _, J4.ofTry okX, q⟩
    | .cont, ⟨_, _, J4, q⟩ => exact ⟨_, _, J4.ofTry okX, q⟩
    | .ret u, ⟨_, _, _, J4, ru, q⟩ => exact ⟨_, _, _, J4.ofTry okX, ru, q⟩
end
/-- what the written part says of a class with an own == and the != of object, anywhere below object -/
structure NeK (K : PySem.W.Frag) (C f : Addr) : Prop where
  hn : PySem.W.findIn K (.ref C) "__ne__" = some (some (.builtin "object.__ne__"))
  hm : PySem.W.mroIn K C (.type "object") = some true
  hs : PySem.W.findIn K (.ref C) "__eq__" = some (some (.ref f))
  hf : PySem.W.isFn K (.ref f) = true
section
variable {prog : Program} {w : World} {A : Around} {E : Value → Shared → Prop} {s : Shared} {K : PySem.W.Frag} {x y C f : Addr} {ox oy : Obj} {od : Option Obj}
theorem objNe_own {Q : Fin → Shared → Prop} (X : K.In s.heap) (I : PySem.W.InstAt s.heap x ox C od) (c : NeK K C f) (hu : A.units < cLine)
    (h : wpAny (model prog w) A (call (.ref f) [.ref x, .ref y]) (fun v s1 => ∃ b, v = .bool b ∧ Q (.done (.ret (.bool (!b)))) s1) E s) : wpAny (model prog w) A (Builtin.«object.__ne__» ⟨[.ref x, .ref y], []⟩) Q E s := by
  have one : wpAny (model prog w) A (callSpecialIfBound? (.ref x) "__eq__" [.ref y]) (fun r s1 => ∃ b, r = some (.bool b) ∧ Q (.done (.ret (.bool (!b)))) s1) E s :=
    PySem.W.ifBound_K X I c.hs c.hf (wpAny_mono h (fun v s1 ⟨b, e, q⟩ => ⟨b, congrArg some e, q⟩) fun _ _ e => e)
  obtain ⟨hp, g, d, tk, os⟩ := s
  unfold Builtin.«object.__ne__»
  repeat (first
    | with_reducible refine wpAny_cRoomFor hu ?_
    | (refine wpAny_bind (m := callSpecialIfBound? (.ref x) (Str.ofString "__eq__") [.ref y]) (wpAny_mono one (fun r s1 hr => by
          obtain ⟨b, rfl, hq⟩ := hr
          repeat (first | exact hq | exact wpAny_pure hq | exact wpAny_truthy_bool hq | (refine wpAny_bind (m := truthy (.bool _)) (wpAny_truthy_bool ?_)) | wp_step)) fun _ _ e => e))
    | wp_step)
theorem call_objNe {Q : Value → Shared → Prop} (X : K.In s.heap) (I : PySem.W.InstAt s.heap x ox C od) (c : NeK K C f) (hu : A.in1.units < cLine)
    (h : wpAny (model prog w) A.in1 (call (.ref f) [.ref x, .ref y]) (fun v s1 => ∃ b, v = .bool b ∧ Q (.bool (!b)) s1) E s) : wpAny (model prog w) A (call (.builtin "object.__ne__") [.ref x, .ref y]) Q E s :=
  wpAny_call (codeAny_call_builtin F.cmp_object.ne.plain F.cmpEntry_ne (PySem.W.check_slot F.cmpKind_ne F.cmpSplit_ne (I.type.andThen (PySem.W.looks_mroIn X c.hm)) (F.cmpArgs_ne _ _) (objNe_own X I c hu h)))
theorem rc_neK {Q : Value → Shared → Prop} (X : K.In s.heap) (I : PySem.W.InstAt s.heap x ox C od) (c : NeK K C f) (hy : s.heap.get? y = some oy) (cy : oy.cls = .ref C) (hu : A.units + 1 < cLine)
    (h : wpAny (model prog w) A.in1 (call (.ref f) [.ref x, .ref y]) (fun v s1 => ∃ b, v = .bool b ∧ Q (.bool (!b)) s1) E s) : wpAny (model prog w) A (richCompare .NotEq (.ref x) (.ref y)) Q E s := by
  have hu0 : A.units < cLine := Nat.lt_of_succ_lt hu
  have run : wpAny (model prog w) A (callSpecialIfBound? (.ref x) "__ne__" [.ref y]) (fun r s1 => ∃ b, r = some (.bool b) ∧ Q (.bool b) s1) E s := by
    simp only [callSpecialIfBound?, bindSpecialIfBound?]
    refine wpAny_holding (wpAny_bind (wpAny_bind (wpAny_bind (I.type.here ((PySem.W.looks_findIn X c.hn).here ?_)))))
    refine wpAny_bind (wpAny_askSetting (wpAny_ite ?_))
    have fin : wpAny (model prog w) A (call (.builtin "object.__ne__") ([.ref x] ++ [.ref y]) >>= fun v => pure (some v)) (fun r s1 => ∃ b, r = some (.bool b) ∧ Q (.bool b) s1) E s :=
      wpAny_bind (wpAny_mono (call_objNe (Q := fun v s1 => ∃ b, v = .bool b ∧ Q (.bool b) s1) X I c hu (wpAny_mono h (fun v s1 ⟨b, e, q⟩ => ⟨b, e, _, rfl, q⟩) fun _ _ e => e)) (fun v s1 ⟨b, e, q⟩ => wpAny_pure ⟨b, congrArg some e, q⟩) fun _ _ e => e)
    split
    · exact wpAny_bind (wpAny_of_eq (F.cmp_object.ne.bind _) (wpAny_pure (by exact fin)))
    · exact wpAny_tryCatch (wpAny_bind (wpAny_of_eq (F.cmp_object.ne.bind _) (wpAny_pure (by exact fin))))
  have one : wpAny (model prog w) A (tryCompare (.ref x) "__ne__" (.ref y)) (fun r s1 => ∃ b, r = some (.bool b) ∧ Q (.bool b) s1) E s := by
    unfold tryCompare
    refine wpAny_bind (wpAny_mono run (fun r s1 z => ?_) fun _ _ e => e)
    obtain ⟨b, rfl, q⟩ := z
    exact wpAny_pure ⟨b, rfl, q⟩
  unfold richCompare
  simp only [oneThing_ref]
  refine wpAny_holding (wpAny_bind (wpAny_cRoomFor hu0 ?_))
  rw [cmpInfo_NotEq]
  dsimp only
  refine wpAny_bind (I.type.here (wpAny_bind (wpAny_typeOf_ref hy ?_)))
  rw [cy, show (Value.ref C != Value.ref C) = false from by simp]
  simp only [Bool.false_eq_true, if_false]
  refine wpAny_bind (wpAny_pure ?_)
  simp only [Bool.false_eq_true, if_false]
  refine wpAny_bind (wpAny_mono one (fun r s1 z => ?_) fun _ _ e => e)
  obtain ⟨b, rfl, q⟩ := z
  exact wpAny_pure q
end
section
variable {X : Cx} {CX : CXT} {n : Nat} {C f : Addr} {fd : FuncData} {ps : List Str} {R : Addr → V → Bool → Hp → Prop} {E : XK}
/-- x != y of two instances of one such class -/
def rNeK (C : Addr) (R : Addr → V → Bool → Hp → Prop) : R2 := fun x y H Q => ∃ a c b dx dy fs gs, x = .ref a ∧ y = .ref c ∧ H a = some (.ins C dx fs) ∧ H c = some (.ins C dy gs) ∧ R a (.ref c) b H ∧ ∀ H', Ext H H' → Q (.bl (!b)) H'
theorem op_neK (G : FnOk X.prog X.w X.K X.mg X.base CX n f fd ps (spEqB R)) (hc : NeK X.K C f) (hb : Binds X.K fd ps []) (hx : Passes CX X E) (hr : Room (n + 1) X.A) : OpR X (compareOp .NotEq) (rNeK C R) := by
  intro pins s σ H x y v u Q I rx ry hq
  obtain ⟨a, c, b, dx, dy, fs, gs, rfl, rfl, ha, hc1, hR, q⟩ := hq
  cases rx
  cases ry
  obtain ⟨mA, J, _⟩ := ins_get I.hok ha
  obtain ⟨mC, J1, _⟩ := ins_get I.hok hc1
  obtain ⟨od, J, _⟩ := J.look
  obtain ⟨od1, J1, _⟩ := J1.look
  have r1 : Room n X.A.in1 := hr.in1
  have go := own_runB (B := X.A.in1) (y := .ref c) (v := .ref c) G hb hx ⟨r1, rfl⟩ I rfl hR
  show wpAny (model X.prog X.w) X.A (richCompare .NotEq (.ref a) (.ref c)) (EP X pins σ Q) X.xe s
  refine rc_neK I.kIn J hc J1.at_ J1.cls (hu_of hr) (wpAny_mono go (fun r s1 z => ?_) fun _ _ e => e)
  cases r with
  | notImplemented => exact False.elim z
  | bool b' =>
    obtain ⟨e, H1, I1, ex⟩ := z
    cases e
    exact ⟨_, rfl, .bl _, H1, I1, rfl, q H1 ex⟩
  | _ => exact (nomatch z.1)
end
end KpR

namespace KpR
open PySem PySem.Spec PyProof.Rows L2
/-- clause by clause: class, the name's slot, the suite's reading; at the end: what is asked where none takes it -/
def wNam (K : PySem.W.Frag) (Wend : WX) (D : Ends) : List (Value × Nat × (Addr → Value → Option Addr → TS)) → WX
  | [] => Wend
  | (c, i, tz) :: r => fun cls d σ H => ∃ b, PySem.W.exmOne K cls c = some b ∧
    (b = true → ∀ a, H a = none → tz a cls d ⟨fun τ G => D.nx (τ.set i none) G, D.rt, fun τ G => D.bk (τ.set i none) G, fun τ G => D.ct (τ.set i none) G⟩ (σ.set i (some (.ref a))) H) ∧ (b = false → wNam K Wend D r cls d σ H)
/-- the clauses that are looked at; more: those behind them, that are never looked at (Wend is then False) -/
inductive NamOk (X : Cx) (more : List ExceptHandler) : List ExceptHandler → List (Value × Nat × (Addr → Value → Option Addr → TS)) → Prop
  | nil : NamOk X more more []
  | cons {x n : Str} {c : Value} {i : Nat} {tz : Addr → Value → Option Addr → TS} {z₀ : Stmt} {rest : List Stmt} {pn pw : Pos} {hs : List ExceptHandler} {l : List (Value × Nat × (Addr → Value → Option Addr → TS))}
      (at_ : X.N[i]? = some n) (lo : X.env.kindOf n = some .local) (nm : Names X x c)
      (su : ∀ (e : Addr) (oe : Obj) (cls : Value) (d : Option Addr) (qn : List (Addr × Obj)), Zc cls d oe → (∃ fs, oe.data = .fields fs) → PSs (X.suite e ((e, oe) :: qn)) (z₀ :: rest) (tz e cls d)) (r : NamOk X more hs l) :
      NamOk X more (.ExceptHandler (some (.Name x pn)) (some n) (z₀ :: rest) pw :: hs) ((c, i, tz) :: l)
section
variable {X : Cx} {body : List Stmt} {more : List ExceptHandler} {h₀ : ExceptHandler} {hds : List ExceptHandler} {l : List (Value × Nat × (Addr → Value → Option Addr → TS))} {pt : Pos} {tb : WX → TS}
theorem ps_try_nam (st : X.stack = X.env :: X.outer) (fr : X.env.frame = some X.env.locals) (nd : X.N.Nodup)
    (bd : ∀ (W : WX) (qn : List (Addr × Obj)) (xe : Value → Shared → Prop), Takes (X.tr qn xe) W → PassesOwn (model X.prog X.w) X.A X.env xe → PSs (X.tr qn xe) body (tb W))
    (hk : NamOk X more (h₀ :: hds) l) : PS X (.Try body (h₀ :: hds) [] [] pt) (fun D σ H => tb (wNam X.K (fun _ _ _ _ => False) D l) D σ H) := by
  refine ⟨fun pins s σ H D I hyp => ?_⟩
  have okX := I.ok
  have afr : X.A.frames = some (X.env :: X.outer) := by rw [okX.frames, st]
  refine wpAny_Try_except ?_
  refine wpAny_mono ((bd (wNam X.K (fun _ _ _ _ => False) D l) (X.pn ++ pins) (fun e t1 => wpAny (model X.prog X.w) X.A (noteFrame e X.env) (fun _ t2 => wpAny (model X.prog X.w) X.A (setFlight e none) (fun _ t3 =>
    wpAny (model X.prog X.w) X.A (handleBy e X.env (h₀ :: hds)) (SP X pins D) X.xe t3) X.xe t2) X.xe t1) (fun u t air => ?_) PassesOwn.looking).run [] s σ H D (I.toTry _) hyp) (fun f t done => ?_) (fun _ _ air => air)
  · obtain ⟨e, G, sI, pq, τ, H1, cls, d, rfl, J0, near, upS, sky0, free, osE, bare, want⟩ := air
    have J : Inv X pins τ H1 sI := J0.ofTry okX
    have sky : Sky G (X.env :: X.outer) e (Zc cls d) X.env.locals t.heap := by rw [← st] <;> exact sky0
    show wpAny (model X.prog X.w) X.A (noteFrame (.ref e) X.env) _ _ _
    refine Sky.land Zc.steady afr fr sky fun hp1 fly1 up1 => ?_
    have J1 : Inv X pins τ H1 { t with heap := hp1 } := J.landed near fly1.1 (upS.trans up1) osE bare
    obtain ⟨o1, fs1, at1, z1, dat1⟩ := fly1.there
    have off : e ∉ frs (X.env :: X.outer) := fun mem => by
      obtain ⟨_, o2, at2, no2⟩ := fly1.2.2.1.mem mem
      have q : o1 = o2 := Option.some.inj (at1.symm.trans at2)
      subst q
      exact no2 _ dat1
    have offL : e ≠ X.env.locals := fun q => off (List.mem_filterMap.mpr ⟨X.env, List.mem_cons_self, by rw [fr, q]⟩)
    have offF : e ∉ X.fs := fun mem => by
      obtain ⟨y, hy, q⟩ := List.mem_filterMap.mp mem
      exact off (List.mem_filterMap.mpr ⟨y, List.mem_cons_of_mem _ hy, q⟩)
    have S1 := J1.suite at1 dat1 free offL offF
    have ty : PySem.W.Looks (model X.prog X.w) hp1 (typeOf (.ref e)) cls := fun A Q E s k q => wpAny_typeOf_ref (k _ _ at1) (by rw [z1.1] <;> exact q)
    have each : ∀ {hs : List ExceptHandler} {l' : List (Value × Nat × (Addr → Value → Option Addr → TS))}, NamOk X more hs l' → wNam X.K (fun _ _ _ _ => False) D l' cls d τ H1 →
        wpAny (model X.prog X.w) X.A (handleBy (.ref e) X.env hs) (SP X pins D) X.xe { t with heap := hp1 } := by
      intro hs l' ok
      induction ok with
      | nil => exact fun w => w.elim
      | @cons x n c i tz z₀ rest pn pw hs2 l2 at_ lo nm su r ih =>
        rintro ⟨b, hit, go, on⟩
        have lcl : Loc X.env.scope n := .inl lo
        refine wpAny_handleBy_cons (codeAny_handlers_test ?_) (fun q => nomatch q)
        have mt := PySem.W.exm_one (M := model X.prog X.w) (J1.kIn) ty hit
        have look : ∀ {Q : Value → Shared → Prop} {E : Value → Shared → Prop}, Q c { t with heap := hp1 } → wpAny (model X.prog X.w) (X.A.mark (some (.ref e))) (eval (.Name x pn) X.env) Q E { t with heap := hp1 } := fun {Q E} q => by
          obtain ⟨gl, nd2, own | ⟨none_, boot, nn⟩⟩ := nm
          · exact ld_glob (X := X.suite e ((e, o1) :: (X.pn ++ pins))) S1 gl own q nd2
          · exact ld_blt (X := X.suite e ((e, o1) :: (X.pn ++ pins))) S1 gl none_ boot q nn nd2
        refine look (mt.here ?_)
        cases b with
        | false =>
          show wpAny _ X.A (handleBy (.ref e) X.env hs2) _ _ _
          exact ih (on rfl)
        | true =>
          refine codeAny_handlers_suite_as ?_
          refine HandSPX.lands_againZ fly1 fun hp2 fly2 up2 => ?_
          have J2 : Inv X pins τ H1 { t with heap := hp2 } := J.landed near fly2.1 ((upS.trans up1).trans up2) osE bare
          obtain ⟨o2, fs2, at2, z2, dat2⟩ := fly2.there
          have S2 := J2.suite at2 dat2 free offL offF
          refine store_ok (X := X.suite e ((e, o2) :: (X.pn ++ pins))) (v := .ref e) S2 nd at_ lcl rfl (fun t2 S3 => ?_) (.inr lo)
          refine wpAny_mono ((su e o2 cls d (X.pn ++ pins) z2 ⟨_, dat2⟩).run [] t2 _ H1 _ S3 (go rfl e free)) (fun f t3 out => ?_) (fun _ _ q => False.elim q)
          have fin : ∀ {τ1 : L2.St} {H2 : Hp} {R : Shared → Prop}, Inv (X.suite e ((e, o2) :: (X.pn ++ pins))) [] τ1 H2 t3 → (∀ t4, Inv X pins (τ1.set i none) H2 t4 → R t4) →
              wpAny (model X.prog X.w) X.A (do bindName X.env n .none; unbindBehindTheSuite X.env n pw) (fun _ t4 => R t4) X.xe t3 := fun {τ1 H2 R} S4 q => gone_ok (S4.unsuite okX) nd at_ lo q
          match f, out with
          | .next, ⟨_, _, S4, q⟩ => exact fin S4 fun _ J4 => ⟨_, _, J4, q⟩
          | .brk, ⟨_, _, S4, q⟩ => exact fin S4 fun _ J4 => ⟨_, _, J4, q⟩
          | .cont, ⟨_, _, S4, q⟩ => exact fin S4 fun _ J4 => ⟨_, _, J4, q⟩
          | .ret u, ⟨_, _, _, S4, ru, q⟩ => exact fin S4 fun _ J4 => ⟨_, _, _, J4, ru, q⟩
    exact each hk want
  · match f, done with
    | .next, ⟨_, _, J4, q⟩ => exact wpAny_execs_nil ⟨_, _, J4.ofTry okX, q⟩
    | .brk, ⟨_, _, J4, q⟩ => exact ⟨_, _, J4.ofTry okX, q⟩
    | .cont, ⟨_, _, J4, q⟩ => exact ⟨_, _, J4.ofTry okX, q⟩
    | .ret u, ⟨_, _, _, J4, ru, q⟩ => exact ⟨_, _, _, J4.ofTry okX, ru, q⟩
end
end KpR

namespace KpR
open PySem PySem.Spec PyProof.Rows L2
open PySem.AutoSeq1 (wpAny_loadPart')
section
variable {prog : Program} {w : World} {A : Around} {R : Result → Shared → Prop}
/-- up to the first pair that is unlike -/
theorem tup_either (l b : Addr) (us vs : Array Value) (n n2 : Nat) (dd dd2 : Option Addr) (sl sl2 : Array (Option Value)) (ans : Nat → Bool) (J : Shared → Prop)
    (turn : ∀ i (h1 : i < us.size) (h2 : i < vs.size) s, J s → wpAny (model prog w) A.in1 (eqBool us[i] vs[i]) (fun r s' => r = ans i ∧ J s') (fun e s' => R (.error e) s') s)
    (no : ∀ i, i < us.size → i < vs.size → ans i = false → ∀ s, J s → R (.ok (.ret (.bool false))) s)
    (fin : (∀ i, i < us.size → i < vs.size → ans i = true) → ∀ s, J s → R (.ok (.ret (.bool (us.size == vs.size)))) s) {s : Shared}
    (hl : s.heap.get? l = some { cls := .type "tuple", dict := dd, data := .seq us n, slots := sl }) (hb : s.heap.get? b = some { cls := .type "tuple", dict := dd2, data := .seq vs n2, slots := sl2 }) (h : J s) :
    wpAny (model prog w) A.in1 (Builtin.«tuple.__eq__» ⟨[.ref l, .ref b], []⟩) (GQ.FinOf prog w A R) (fun e s' => R (.error e) s') s := by
  have f2 := AutoSeq1.sub_tuple_tuple
  have zl : (us.toList.zip vs.toList).length = min us.size vs.size := by simp
  have h0 := h
  obtain ⟨hp, g, d, tk, os⟩ := s
  wp_walk using wpAny_loadPart' hl, wpAny_loadPart' hb, wpAny_forIn_list _ (fun rest q s' => q.1 = none ∧ J s' ∧ ∃ i, rest = (us.toList.zip vs.toList).drop i ∧ i ≤ min us.size vs.size ∧ ∀ j, j < i → ans j = true) _
  case turn =>
    rintro ⟨y, x⟩ rest q s' ⟨hq, hJ, i, hz, hi, before⟩
    have lt : i < (us.toList.zip vs.toList).length := by
      rcases Nat.lt_or_ge i (us.toList.zip vs.toList).length with c | c
      · exact c
      · rw [List.drop_of_length_le c] at hz
        cases hz
    have lm := Nat.lt_min.mp (zl ▸ lt)
    rw [List.drop_eq_getElem_cons lt] at hz
    injection hz with hp1 hrest
    have ey : y = us[i]'lm.1 := by simpa using congrArg Prod.fst hp1
    have ex : x = vs[i]'lm.2 := by simpa using congrArg Prod.snd hp1
    subst ey ex
    refine wpAny_bind (wpAny_mono (turn i lm.1 lm.2 s' hJ) (fun r s2 z => ?_) fun _ _ e => e)
    obtain ⟨rfl, J2⟩ := z
    cases c : ans i with
    | true =>
      wp_walk
      refine ⟨rfl, J2, i + 1, hrest, Nat.lt_min.mpr lm, fun j hj => ?_⟩
      by_cases e : j = i
      · rw [e]
        exact c
      · exact before j (by omega)
    | false =>
      have out := no i lm.1 lm.2 c s2 J2
      wp_walk
      exact out
  case fin =>
    rintro ⟨q1, q2⟩ s' ⟨hq, hJ, i, hz, hi, before⟩
    simp only at hq
    subst hq
    have ge : min us.size vs.size ≤ i := by
      rcases Nat.lt_or_ge i (us.toList.zip vs.toList).length with c | c
      · rw [List.drop_eq_getElem_cons c] at hz
        cases hz
      · exact zl ▸ c
    have out := fin (fun j h1 h2 => before j (Nat.lt_of_lt_of_le (Nat.lt_min.mpr ⟨h1, h2⟩) ge)) s' hJ
    wp_walk
    simpa [Builtin.Tuple.tupleCompareSizes] using out
  case h =>
    exact ⟨rfl, h0, 0, rfl, Nat.zero_le _, fun j hj => absurd hj (Nat.not_lt_zero _)⟩
end
/-- pair by pair; the answer is that of all of them, and of the lengths -/
def DTupB (K : PySem.W.Frag) (D : EqvB) : EqvB := fun x y b H => ∃ a c xs ys, ∃ an : Nat → Bool, x = .ref a ∧ y = .ref c ∧ SqT K H a xs ∧ SqT K H c ys ∧
  (∀ i u v, xs[i]? = some u → ys[i]? = some v → ∀ H', Ext H H' → D u v (an i) H') ∧ (b = true ↔ xs.length = ys.length ∧ ∀ i, i < xs.length → an i = true)
section
variable {X : Cx} {n : Nat} {D : EqvB}
theorem rcB_tup (h : EqB X n D) : RcB X (n + 1) (DTupB X.K D) := by
  intro B pins s σ H x y b u v sb I rx ry hd
  obtain ⟨a, c, xs, ys, an, rfl, rfl, ha, hc, hp, hb⟩ := hd
  cases rx
  cases ry
  obtain ⟨us, r1, ⟨⟨cl, dd, dt, sl⟩, e1, e2, k, e3⟩, _⟩ := I.tuple ha
  obtain ⟨vs, r2, ⟨⟨cl2, dd2, dt2, sl2⟩, g1, g2, k2, g3⟩, _⟩ := I.tuple hc
  simp only at e2 e3 g2 g3
  subst e2 e3 g2 g3
  have l1 : us.toArray.size = xs.length := by rw [List.size_toArray, r1.length]
  have l2 : vs.toArray.size = ys.length := by rw [List.size_toArray, r2.length]
  refine wpAny_richCompare_same_room (op := .Eq) ⟨_, e1, rfl⟩ ⟨_, g1, rfl⟩ F.slot_tuple_eq (GQ.call_here F.slot_tuple_eq ⟨_, e1, rfl⟩ F.entry_tuple_eq (F.args_tuple_eq_2 _ _) ?_) sb.room.units0
  refine tup_either (R := wants (fun r s' => r ≠ .notImplemented ∧ (r = .bool b ∧ LoopI X pins σ H s')) X.xe) a c us.toArray vs.toArray k k2 dd dd2 sl sl2 an (LoopI X pins σ H) (fun i h1 h2 s1 hJ => ?_) (fun i h1 h2 no s1 hJ => ?_) (fun all s1 hJ => ?_) e1 g1 ⟨H, I, Ext.rfl'⟩
  · obtain ⟨H1, I1, x1⟩ := hJ
    have i1 : i < xs.length := by omega
    have i2 : i < ys.length := by omega
    obtain ⟨p, hp1, rp⟩ := r1.get (List.getElem?_eq_getElem i1)
    obtain ⟨q, hq1, rq⟩ := r2.get (List.getElem?_eq_getElem i2)
    have ep : us.toArray[i] = p := by
      obtain ⟨_, z⟩ := List.getElem?_eq_some_iff.mp hp1
      simpa using z
    have eq : vs.toArray[i] = q := by
      obtain ⟨_, z⟩ := List.getElem?_eq_some_iff.mp hq1
      simpa using z
    rw [ep, eq]
    refine wpAny_mono (h B.in1 pins s1 σ H1 _ _ (an i) p q sb.in1 I1 rp rq (hp i _ _ (List.getElem?_eq_getElem i1) (List.getElem?_eq_getElem i2) H1 x1)) (fun r s2 z => ?_) fun _ _ e => e
    obtain ⟨er, H2, I2, x2⟩ := z
    exact ⟨er, H2, I2, x1.trans x2⟩
  · have eb : b = false := by
      cases b with
      | false => rfl
      | true =>
        have z := (hb.mp rfl).2 i (by omega)
        rw [no] at z
        cases z
    subst eb
    exact ⟨(fun z => nomatch z), rfl, hJ⟩
  · have eb : (us.toArray.size == vs.toArray.size) = b := by
      rw [l1, l2]
      cases b with
      | true => exact beq_iff_eq.mpr (hb.mp rfl).1
      | false =>
        refine beq_eq_false_iff_ne.mpr fun e => ?_
        have z := hb.mpr ⟨e, fun i hi => all i (by omega) (by omega)⟩
        cases z
    rw [eb]
    exact ⟨(fun z => nomatch z), rfl, hJ⟩
end
end KpR

namespace KpR
open PySem PySem.Spec PyProof.Rows L2
open PySem.AutoSeq1 (wpAny_loadPart')
section
variable {prog : Program} {w : World} {A : Around} {R : Result → Shared → Prop}
theorem tup_ne_like (l b : Addr) (us vs : Array Value) (n n2 : Nat) (dd dd2 : Option Addr) (sl sl2 : Array (Option Value)) (sz : us.size = vs.size) (J : Shared → Prop)
    (turn : ∀ i (h1 : i < us.size) (h2 : i < vs.size) s, J s → wpAny (model prog w) A.in1 (eqBool us[i] vs[i]) (fun r s' => r = true ∧ J s') (fun e s' => R (.error e) s') s)
    (fin : ∀ s, J s → R (.ok (.ret (.bool false))) s) {s : Shared}
    (hl : s.heap.get? l = some { cls := .type "tuple", dict := dd, data := .seq us n, slots := sl }) (hb : s.heap.get? b = some { cls := .type "tuple", dict := dd2, data := .seq vs n2, slots := sl2 }) (h : J s) :
    wpAny (model prog w) A.in1 (Builtin.«tuple.__ne__» ⟨[.ref l, .ref b], []⟩) (GQ.FinOf prog w A R) (fun e s' => R (.error e) s') s := by
  have f2 := AutoSeq1.sub_tuple_tuple
  have zl : (us.toList.zip vs.toList).length = us.size := by simp [sz]
  have h0 := h
  obtain ⟨hp, g, d, tk, os⟩ := s
  wp_walk using wpAny_loadPart' hl, wpAny_loadPart' hb, wpAny_forIn_list _ (fun rest q s' => q.1 = none ∧ J s' ∧ ∃ i, rest = (us.toList.zip vs.toList).drop i ∧ i ≤ us.size) _
  case turn =>
    rintro ⟨y, x⟩ rest q s' ⟨hq, hJ, i, hz, hi⟩
    have lt : i < (us.toList.zip vs.toList).length := by
      rcases Nat.lt_or_ge i (us.toList.zip vs.toList).length with c | c
      · exact c
      · rw [List.drop_of_length_le c] at hz
        cases hz
    have l1 : i < us.size := zl ▸ lt
    have l2 : i < vs.size := sz ▸ l1
    rw [List.drop_eq_getElem_cons lt] at hz
    injection hz with hp1 hrest
    have ey : y = us[i] := by simpa using congrArg Prod.fst hp1
    have ex : x = vs[i] := by simpa using congrArg Prod.snd hp1
    subst ey ex
    refine wpAny_bind (wpAny_mono (turn i l1 l2 s' hJ) (fun r s2 z => ?_) fun _ _ e => e)
    obtain ⟨rfl, J2⟩ := z
    wp_walk
    exact ⟨rfl, J2, i + 1, hrest, l1⟩
  case fin =>
    rintro ⟨q1, q2⟩ s' ⟨hq, hJ, i, hz, hi⟩
    simp only at hq
    subst hq
    have out := fin s' hJ
    wp_walk
    simpa [Builtin.Tuple.tupleCompareSizes, sz] using out
  case h =>
    exact ⟨rfl, h0, 0, rfl, Nat.zero_le _⟩
end
section
variable {X : Cx} {n : Nat} {D : EqvB}
/-- x != y, two tuples that are equal pair by pair -/
def rNeTup (K : PySem.W.Frag) (D : EqvB) : R2 := fun x y H Q => ∃ (a c : Addr) (xs ys : List V), x = .ref a ∧ y = .ref c ∧ SqT K H a xs ∧ SqT K H c ys ∧ xs.length = ys.length ∧
  (∀ (i : Nat) (u v : V), xs[i]? = some u → ys[i]? = some v → ∀ H' : Hp, Ext H H' → D u v true H') ∧ ∀ H' : Hp, Ext H H' → Q (.bl false) H'
theorem op_neTup (h : EqB X n D) (hr : Room (n + 1) X.A) : OpR X (compareOp .NotEq) (rNeTup X.K D) := by
  intro pins s σ H x y u v Q I rx ry hd
  obtain ⟨a, c, xs, ys, rfl, rfl, ha, hc, hlen, hp, q⟩ := hd
  cases rx
  cases ry
  obtain ⟨us, r1, ⟨⟨cl, dd, dt, sl⟩, e1, e2, k, e3⟩, _⟩ := I.tuple ha
  obtain ⟨vs, r2, ⟨⟨cl2, dd2, dt2, sl2⟩, g1, g2, k2, g3⟩, _⟩ := I.tuple hc
  simp only at e2 e3 g2 g3
  subst e2 e3 g2 g3
  have l1 : us.toArray.size = xs.length := by rw [List.size_toArray, r1.length]
  have l2 : vs.toArray.size = ys.length := by rw [List.size_toArray, r2.length]
  have sb : Sub X (n + 1) X.A := ⟨hr, rfl⟩
  show wpAny (model X.prog X.w) X.A (richCompare .NotEq (.ref a) (.ref c)) (EP X pins σ Q) X.xe s
  refine wpAny_richCompare_same_room (op := .NotEq) ⟨_, e1, rfl⟩ ⟨_, g1, rfl⟩ F.slot_tuple_ne (GQ.call_here F.slot_tuple_ne ⟨_, e1, rfl⟩ F.entry_tuple_ne (F.args_tuple_ne_2 _ _) ?_) hr.units0
  refine tup_ne_like (R := wants (fun r s' => r ≠ .notImplemented ∧ EP X pins σ Q r s') X.xe) a c us.toArray vs.toArray k k2 dd dd2 sl sl2 (by omega) (LoopI X pins σ H) (fun i h1 h2 s1 hJ => ?_) (fun s1 hJ => ?_) e1 g1 ⟨H, I, Ext.rfl'⟩
  · obtain ⟨H1, I1, x1⟩ := hJ
    have i1 : i < xs.length := by omega
    have i2 : i < ys.length := by omega
    obtain ⟨p, hp1, rp⟩ := r1.get (List.getElem?_eq_getElem i1)
    obtain ⟨q1, hq1, rq⟩ := r2.get (List.getElem?_eq_getElem i2)
    have ep : us.toArray[i] = p := by
      obtain ⟨_, z⟩ := List.getElem?_eq_some_iff.mp hp1
      simpa using z
    have eq : vs.toArray[i] = q1 := by
      obtain ⟨_, z⟩ := List.getElem?_eq_some_iff.mp hq1
      simpa using z
    rw [ep, eq]
    refine wpAny_mono (h X.A.in1 pins s1 σ H1 _ _ true p q1 sb.in1 I1 rp rq (hp i _ _ (List.getElem?_eq_getElem i1) (List.getElem?_eq_getElem i2) H1 x1)) (fun r s2 z => ?_) fun _ _ e => e
    obtain ⟨er, H2, I2, x2⟩ := z
    exact ⟨er, H2, I2, x1.trans x2⟩
  · obtain ⟨H1, I1, x1⟩ := hJ
    exact ⟨(fun z => nomatch z), .bl false, H1, I1, rfl, q H1 x1⟩
end
end KpR

namespace KpR
open PySem PySem.Spec PyProof.Rows L2
section
variable {α : Type} {K : PySem.W.Frag} {H : Hp} {f : α → PyData}
theorem dp_map {R : V → α → Prop} (h : ∀ t x, R t x → Dp K H t (f x)) : ∀ {ts : List V} {l : List α}, A2 R ts l → DpAll K H ts (l.map f)
  | [], [], _ => .nil
  | _ :: _, _ :: _, k => .cons (h _ _ k.1) (dp_map h k.2)
  | [], _ :: _, k => k.elim
  | _ :: _, [], k => k.elim
theorem lay_map : ∀ {l : List α}, (∀ x ∈ l, (f x).canLay0 = true) → PyData.canLayAll0 (l.map f) = true
  | [], _ => by simp [PyData.canLayAll0]
  | x :: l, h => by
    simp only [List.map_cons, PyData.canLayAll0, h x (List.mem_cons_self ..), Bool.true_and]
    exact lay_map fun y hy => h y (List.mem_cons_of_mem _ hy)
theorem dep_map {n : Nat} : ∀ {l : List α}, (∀ x ∈ l, (f x).depth ≤ n) → PyData.depthAll (l.map f) ≤ n
  | [], _ => by simp [PyData.depthAll]
  | x :: l, h => by
    simp only [List.map_cons, PyData.depthAll]
    exact Nat.max_le.mpr ⟨h x (List.mem_cons_self ..), dep_map fun y hy => h y (List.mem_cons_of_mem _ hy)⟩
theorem eqv_map [DecidableEq α] (h : ∀ x y, (f x).eqv (f y) = decide (x = y)) : ∀ {l m : List α}, PyData.eqvAll (l.map f) (m.map f) = decide (l = m)
  | [], [] => by simp [PyData.eqvAll]
  | [], _ :: _ => by simp [PyData.eqvAll]
  | _ :: _, [] => by simp [PyData.eqvAll]
  | x :: l, y :: m => by
    simp only [List.map_cons, PyData.eqvAll, h, eqv_map h (l := l) (m := m)]
    by_cases h1 : x = y
    · by_cases h2 : l = m <;> simp [h1, h2]
    · simp [h1]
/-- what can be compared: of no great depth -/
structure Flat (n : Nat) (d : PyData) : Prop where
  lay : d.canLay0 = true
  dep : d.depth ≤ n
theorem Flat.sh {n : Nat} {d : PyData} (h : Flat n d) (hn : n ≤ 64) : SeqAt.shaped d = true := by
  unfold SeqAt.shaped
  rw [h.lay, decide_eq_true (Nat.le_trans h.dep hn)]
  rfl
theorem Flat.list {n : Nat} {l : List α} (h : ∀ x ∈ l, Flat n (f x)) : Flat (n + 1) (.list (l.map f)) :=
  ⟨by simp only [PyData.canLay0]; exact lay_map fun x hx => (h x hx).lay, by simp only [PyData.depth]; exact Nat.succ_le_succ (dep_map fun x hx => (h x hx).dep)⟩
theorem Flat.tup {n : Nat} {l : List α} (h : ∀ x ∈ l, Flat n (f x)) : Flat (n + 1) (.tuple (l.map f)) :=
  ⟨by simp only [PyData.canLay0]; exact lay_map fun x hx => (h x hx).lay, by simp only [PyData.depth]; exact Nat.succ_le_succ (dep_map fun x hx => (h x hx).dep)⟩
theorem Flat.int {n : Nat} {i : Int} : Flat n (.int i) := ⟨rfl, Nat.zero_le _⟩
theorem Flat.bl {n : Nat} {b : Bool} : Flat n (.bool b) := ⟨rfl, Nat.zero_le _⟩
theorem Flat.non {n : Nat} : Flat n .none := ⟨rfl, Nat.zero_le _⟩
theorem Flat.str {n : Nat} {x : Str} (h : (PyData.str x).canLay0 = true) : Flat n (.str x) := ⟨h, Nat.zero_le _⟩
theorem Flat.mono {n m : Nat} {d : PyData} (h : Flat n d) (k : n ≤ m) : Flat m d := ⟨h.lay, Nat.le_trans h.dep k⟩
theorem eqv_int {i j : Int} : PyData.eqv (.int i) (.int j) = decide (i = j) := by
  simp only [PyData.eqv]
  by_cases h : i = j <;> simp [h]
/-- != and == of data -/
theorem neD {x y : V} {d e : PyData} {Q : VK} (h1 : Dp K H x d) (h2 : Dp K H y e) (f1 : Flat 60 d) (f2 : Flat 60 e) (q : Q (.bl (!PyData.eqv d e)) H) : rNeD K x y H Q := ⟨d, e, h1, h2, f1.sh (by decide), f2.sh (by decide), q⟩
theorem eqD {x y : V} {d e : PyData} {Q : VK} (h1 : Dp K H x d) (h2 : Dp K H y e) (f1 : Flat 60 d) (f2 : Flat 60 e) (q : Q (.bl (PyData.eqv d e)) H) : rEqD K x y H Q := ⟨d, e, h1, h2, f1.sh (by decide), f2.sh (by decide), q⟩
end
end KpR

namespace KpR
open PySem PySem.Spec PySem.Calls PyProof.Rows L2
section
variable {prog : Program} {w : World} {K : PySem.W.Frag} {x D : Addr}
/-- what a class says of itself on its instances, whatever fields they have -/
theorem fo_class {od : Option Obj} (hc : (PySem.W.clsIn K D).isSome = true) (ha : PySem.W.findIn K (.ref D) "__class__" = some (some (.builtin "object.__class__"))) (hg : PySem.W.specialIn K (.builtin "object.__class__") "__get__" = some (some (.builtin "getset_descriptor.__get__"))) (ht : PySem.W.takesIn K (.builtin "object.__class__") = some true) :
    PySem.W.findObj K D od "__class__" = some (.bind (.builtin "getset_descriptor.__get__") (.builtin "object.__class__")) := by
  obtain ⟨cd, q⟩ := Option.isSome_iff_exists.mp hc
  unfold PySem.W.findObj
  rw [q, Option.bind_some, ha, Option.bind_some]
  simp [hg, ht]
theorem exc_class (C : ExcC K D) {A : Around} {E : Value → Shared → Prop} {Q : Option Value → Shared → Prop} {s : Shared} {ox : Obj} {od : Option Obj} (X : K.In s.heap) (J : PySem.W.InstAt s.heap x ox D od) (q : Q (some (.ref D)) { s with toks := s.toks + 1 }) :
    wpAny (model prog w) A (getAttr? (.ref x) "__class__") Q E s := by
  have fo : PySem.W.findObj K D od "__class__" = _ := fo_class (by obtain ⟨cd, hc, _⟩ := PySem.W.any_some C.hd; rw [hc]; rfl) C.ha C.hn C.ht
  obtain ⟨hp, sg, sd, st, so⟩ := s
  have ty := J.type (M := model prog w)
  have l1 := PySem.W.looks_findIn (M := model prog w) X C.hg
  have l2 := PySem.W.looks_findIn (M := model prog w) X C.hk
  have l3 := PySem.W.looks_find (M := model prog w) X J fo
  have isx : PySem.W.Looks (model prog w) hp (isInstance (.ref x) (.type "BaseException")) true := ty.andThen (PySem.W.looks_subIn X C.hs)
  have n1 : (Value.builtin "BaseException.__getattribute__" == Value.builtin "object.__getattribute__") = false := by decide +kernel
  have n2 : (onTheHeap (Value.ref D) && Value.builtin "BaseException.__getattribute__" == Value.builtin "object.__getattribute__") = false := by rw [n1]; rfl
  have n3 : (false && onTheHeap (Value.builtin "BaseException.__getattribute__")) = false := rfl
  unfold getAttr? getAttrBy? getAttrBy
  refine wpAny_bind (wpAny_mkText (wpAny_bind (wpAny_attempt (wpAny_holding (wpAny_bind (ty.at (wpAny_bind (l1.at ?_))))))))
  refine (congrArg (fun c : Bool => wpAny (model prog w) A (if c = true then _ else _) _ _ _) n2).mpr ?_
  rw [if_neg Bool.false_ne_true]
  unfold getAttrByItsOwn hookBefore
  refine wpAny_bind ?_
  rw [if_pos (show onTheHeap (Value.ref D) = true from rfl)]
  refine l2.at (wpAny_bind (wpAny_attempt (wpAny_holding ?_)))
  unfold callGetattribute
  rw [n3, if_neg Bool.false_ne_true]
  unfold boundAndCalled
  rw [PySem.F.excAttr_ValueError.ga.bind (.ref x)]
  refine wpAny_bind (wpAny_pure (show wpAny _ _ (call (.builtin "BaseException.__getattribute__") [.ref x, .str "__class__" st]) _ _ _ from ?_))
  refine wpAny_call (codeAny_call_builtin PySem.F.excAttr_ValueError.ga.plain PySem.F.entry_bexc_ga ?_)
  refine @PySem.W.check_slot (model prog w) _ _ ⟨hp, sg, sd, st + 1, so⟩ "BaseException.__getattribute__" "BaseException" "__getattribute__" (.ref x) [.str "__class__" st] [] _ (by decide +kernel) (by decide +kernel) isx (PySem.F.args_bexc_ga (.ref x) (.str "__class__" st)) ?_
  unfold Builtin.«object.__getattribute__»
  refine wpAny_bind (wpAny_of_eq (a := ((Value.ref x : Value), [Value.str "__class__" st])) (by first | rfl | (simp only [slotArgs]; rfl)) (wpAny_bind (wpAny_pure (wpAny_bind (ty.at (wpAny_bind (l3.at ?_)))))))
  show wpAny _ _ (holding [Value.builtin "object.__class__"] (call (.builtin "getset_descriptor.__get__") [.builtin "object.__class__", .ref x, .ref D]) >>= ret) _ _ _
  refine wpAny_bind (wpAny_holding (wpAny_call (PySem.W.class_get (s := ⟨hp, sg, sd, st + 1, so⟩) (ox := ox) (od := od) X J C.hm (wpAny_pure ?_))))
  show wpAny _ _ (handedOut (.ref D)) _ _ _
  rw [PySem.W.handedOut_of (v := .ref D) rfl]
  first
    | exact wpAny_pure (wpAny_pure q)
    | exact wpAny_pure q
    | exact wpAny_pure (wpAny_bind (wpAny_pure (wpAny_pure q)))
theorem kit_exd (C : ExcC K D) : PySem.W.KitX K (.ref x) (.ref D) (fun h => ∃ ox od, PySem.W.InstAt h x ox D od) := by
  obtain ⟨cdD, hcD, _⟩ := PySem.W.any_some C.hd
  have at_ : ∃ (o : Obj) (cd : ClassData), K.lookup D = some o ∧ o.data = .cls cd := by
    unfold PySem.W.clsIn at hcD
    split at hcD
    · rename_i ho
      exact ⟨_, _, ho, rfl⟩
    · cases hcD
  obtain ⟨o, cd, ho, hd⟩ := at_
  refine ⟨fun _ _ _ ⟨_, _, J⟩ => J.type, fun _ _ X _ => ?_, fun h tp dd its n sl X e => ?_, fun X ⟨_, _, J⟩ q => exc_class C X J q⟩
  · intro A' Q' E' s' k q
    unfold isType loadHead
    obtain ⟨oc, od, oda, osl⟩ := o
    cases hd
    exact wpAny_bind (wpAny_loadPart (k _ _ (X _ _ ho)) (wpAny_pure q))
  · refine Bool.eq_false_iff.mpr fun z => ?_
    obtain rfl := Value.ref.inj (beq_iff_eq.mp z)
    have z := (X _ _ ho).symm.trans e
    cases z
    cases hd
end
/-- isinstance(e, c), e the exception that the suite holds, of whatever fields -/
def rIsX (K : PySem.W.Frag) (a D : Addr) (cls : Value) (d : Option Addr) : List V → Hp → VK → Prop := fun xs H Q => ∃ (c : V) (cv : Value) (b : Bool) (dd : Addr) (fs : List (Str × V)), xs = [.ref a, c] ∧ (∀ u, RelV c u → u = cv) ∧ PySem.W.kitOne K (.ref D) cv = some b ∧ cls = .ref D ∧ d = some dd ∧ H dd = some (.xd fs) ∧ Q (.bl b) H
theorem call_isX {X : Cx} {a D : Addr} {oe : Obj} {d : Option Addr} {pn : List (Addr × Obj)} {cls : Value} (C : ExcC X.K D) (hz : Zc cls d oe) (hf : ∃ vs, oe.data = .fields vs) :
    CallR (X.suite a ((a, oe) :: pn)) (.builtin "isinstance") (rIsX X.K a D cls d) := by
  intro pins s σ H xs us Q I r h
  obtain ⟨c, cv, b, dd, fs, rfl, hcv, e, rfl, rfl, hdd, q⟩ := h
  cases r with
  | cons rx rr =>
    cases rr with
    | cons rt rr =>
      cases rr
      cases rx
      obtain rfl := hcv _ rt
      obtain ⟨hget, _⟩ := I.pin (a, oe) (List.mem_append_left _ List.mem_cons_self)
      obtain ⟨vs, hv⟩ := hf
      obtain ⟨mA, hns, _⟩ : ObjOk X.prog X.w H s.heap dd (.xd fs) := I.hok dd _ hdd
      obtain ⟨od, ho, _⟩ := lookIn_ns hns
      have J : PySem.W.InstAt s.heap a oe D (some od) := ⟨hget, hz.1, by unfold PySem.W.notCls; rw [hv] <;> rfl, by rw [hz.2]; exact ho⟩
      exact PySem.W.kia_one (kit_exd C) I.kIn ⟨_, _, J⟩ e (fun z => nomatch z) fun tk => ⟨.bl b, H, I.kept (t' := tk) fun _ _ z => z, rfl, q⟩
end KpR

namespace KpR
open PySem PySem.Spec PyProof.Rows L2
section
variable {prog : Program} {w : World} {A : Around} {E : Value → Shared → Prop} {s : Shared} {K : PySem.W.Frag} {x y C C' f : Addr} {ox oy : Obj} {od : Option Obj}
theorem rc_neX {Q : Value → Shared → Prop} (X : K.In s.heap) (I : PySem.W.InstAt s.heap x ox C od) (c : NeK K C f) (hy : s.heap.get? y = some oy) (cy : oy.cls = .ref C') (nf : PySem.W.notFirst K C (.ref C') = true) (hu : A.units + 1 < cLine)
    (h : wpAny (model prog w) A.in1 (call (.ref f) [.ref x, .ref y]) (fun v s1 => ∃ b, v = .bool b ∧ Q (.bool (!b)) s1) E s) : wpAny (model prog w) A (richCompare .NotEq (.ref x) (.ref y)) Q E s := by
  by_cases ne : C' = C
  · exact rc_neK X I c hy (by rw [cy, ne]) hu h
  have hsub : PySem.W.subIn K (.ref C') (.ref C) = some false := by
    unfold PySem.W.notFirst at nf
    rcases Bool.or_eq_true_iff.mp nf with k | k
    · exact absurd (Value.ref.inj (eq_of_beq k)) ne
    · exact eq_of_beq k
  have hu0 : A.units < cLine := Nat.lt_of_succ_lt hu
  have run : wpAny (model prog w) A (callSpecialIfBound? (.ref x) "__ne__" [.ref y]) (fun r s1 => ∃ b, r = some (.bool b) ∧ Q (.bool b) s1) E s := by
    simp only [callSpecialIfBound?, bindSpecialIfBound?]
    refine wpAny_holding (wpAny_bind (wpAny_bind (wpAny_bind (I.type.here ((PySem.W.looks_findIn X c.hn).here ?_)))))
    refine wpAny_bind (wpAny_askSetting (wpAny_ite ?_))
    have fin : wpAny (model prog w) A (call (.builtin "object.__ne__") ([.ref x] ++ [.ref y]) >>= fun v => pure (some v)) (fun r s1 => ∃ b, r = some (.bool b) ∧ Q (.bool b) s1) E s :=
      wpAny_bind (wpAny_mono (call_objNe (Q := fun v s1 => ∃ b, v = .bool b ∧ Q (.bool b) s1) X I c hu (wpAny_mono h (fun v s1 ⟨b, e, q⟩ => ⟨b, e, _, rfl, q⟩) fun _ _ e => e)) (fun v s1 ⟨b, e, q⟩ => wpAny_pure ⟨b, congrArg some e, q⟩) fun _ _ e => e)
    split
    · exact wpAny_bind (wpAny_of_eq (F.cmp_object.ne.bind _) (wpAny_pure (by exact fin)))
    · exact wpAny_tryCatch (wpAny_bind (wpAny_of_eq (F.cmp_object.ne.bind _) (wpAny_pure (by exact fin))))
  have one : wpAny (model prog w) A (tryCompare (.ref x) "__ne__" (.ref y)) (fun r s1 => ∃ b, r = some (.bool b) ∧ Q (.bool b) s1) E s := by
    unfold tryCompare
    refine wpAny_bind (wpAny_mono run (fun r s1 z => ?_) fun _ _ e => e)
    obtain ⟨b, rfl, q⟩ := z
    exact wpAny_pure ⟨b, rfl, q⟩
  unfold richCompare
  simp only [oneThing_ref]
  refine wpAny_holding (wpAny_bind (wpAny_cRoomFor hu0 ?_))
  rw [cmpInfo_NotEq]
  dsimp only
  refine wpAny_bind (I.type.here (wpAny_bind (wpAny_typeOf_ref hy ?_)))
  have nb : (Value.ref C != Value.ref C') = true := by
    rw [bne_iff_ne]
    exact fun z => ne (Value.ref.inj z).symm
  rw [cy, nb]
  simp only [if_true]
  refine wpAny_bind ((PySem.W.looks_subIn X hsub).here ?_)
  simp only [Bool.false_eq_true, if_false]
  refine wpAny_bind (wpAny_mono one (fun r s1 z => ?_) fun _ _ e => e)
  obtain ⟨b, rfl, q⟩ := z
  exact wpAny_pure q
end
section
variable {X : Cx} {CX : CXT} {n : Nat} {C f : Addr} {fd : FuncData} {ps : List Str} {R : Addr → V → Bool → Hp → Prop} {E : XK}
/-- x != y of two instances, the second of no class below the first one's -/
def rNeX (K : PySem.W.Frag) (C : Addr) (R : Addr → V → Bool → Hp → Prop) : R2 := fun x y H Q => ∃ b, DInsB K C R x y b H ∧ ∀ H', Ext H H' → Q (.bl (!b)) H'
theorem op_neX (G : FnOk X.prog X.w X.K X.mg X.base CX n f fd ps (spEqB R)) (hc : NeK X.K C f) (hb : Binds X.K fd ps []) (hx : Passes CX X E) (hr : Room (n + 1) X.A) : OpR X (compareOp .NotEq) (rNeX X.K C R) := by
  intro pins s σ H x y v u Q I rx ry hq
  obtain ⟨b, ⟨a, c, C', dx, dy, fs, gs, rfl, rfl, ha, hc1, nf, hR⟩, q⟩ := hq
  cases rx
  cases ry
  obtain ⟨mA, J, _⟩ := ins_get I.hok ha
  obtain ⟨mC, J1, _⟩ := ins_get I.hok hc1
  obtain ⟨od, J, _⟩ := J.look
  obtain ⟨od1, J1, _⟩ := J1.look
  have r1 : Room n X.A.in1 := hr.in1
  have go := own_runB (B := X.A.in1) (y := .ref c) (v := .ref c) G hb hx ⟨r1, rfl⟩ I rfl hR
  show wpAny (model X.prog X.w) X.A (richCompare .NotEq (.ref a) (.ref c)) (EP X pins σ Q) X.xe s
  refine rc_neX I.kIn J hc J1.at_ J1.cls nf (hu_of hr) (wpAny_mono go (fun r s1 z => ?_) fun _ _ e => e)
  cases r with
  | notImplemented => exact False.elim z
  | bool b' =>
    obtain ⟨e, H1, I1, ex⟩ := z
    cases e
    exact ⟨_, rfl, .bl _, H1, I1, rfl, q H1 ex⟩
  | _ => cases z.1
/-- x == y, two lists equal pair by pair -/
def DAll (D : EqvB) : Eqv := fun x y H => ∀ H', Ext H H' → D x y true H'
theorem mon_all (D : EqvB) : Mon (DAll D) := fun _ _ _ _ e d H' e' => d H' (e.trans e')
theorem eqG_all {D : EqvB} (h : EqB X n D) : EqG X n (DAll D) := fun B pins s σ H x y u v sb I rx ry d => h B pins s σ H x y true u v sb I rx ry (d H Ext.rfl')
/-- x != y, two lists of just the same objects -/
def rNeSame (K : PySem.W.Frag) : R2 := fun x y H Q => ∃ a c xs, x = .ref a ∧ y = .ref c ∧ H a = some (.lst xs) ∧ H c = some (.lst xs) ∧ (∀ z ∈ xs, ∃ p, z = V.ref p) ∧ Q (.bl false) H
theorem refs_same : ∀ {xs : List V} {us vs : List Value}, (∀ z ∈ xs, ∃ p, z = V.ref p) → Vals xs us → Vals xs vs → us = vs
  | [], _, _, _, .nil, .nil => rfl
  | x :: xs, _, _, h, .cons r1 k1, .cons r2 k2 => by
    obtain ⟨p, rfl⟩ := h x (List.mem_cons_self ..)
    cases r1
    cases r2
    rw [refs_same (fun z hz => h z (List.mem_cons_of_mem _ hz)) k1 k2]
theorem op_neSame (hu : X.A.units < cLine) : OpR X (compareOp .NotEq) (rNeSame X.K) := by
  intro pins s σ H x y v u Q I rx ry hq
  obtain ⟨a, c, xs, rfl, rfl, ha, hc, hr, q⟩ := hq
  cases rx
  cases ry
  obtain ⟨z, its, k, r, e⟩ := I.hok a _ ha
  obtain ⟨z2, its2, k2, r2, e2⟩ := I.hok c _ hc
  obtain rfl := refs_same hr r r2
  show wpAny (model X.prog X.w) X.A (richCompare .NotEq (.ref a) (.ref c)) (EP X pins σ Q) X.xe s
  refine wpAny_richCompare_same_room (op := .NotEq) ⟨_, e, rfl⟩ ⟨_, e2, rfl⟩ F.slot_list_ne (GQ.call_here F.slot_list_ne ⟨_, e, rfl⟩ F.entry_list_ne (F.args_list_ne_2 _ _) ?_) hu
  refine SeqAt.list_neAt a c its.toArray its.toArray k k2 none none #[] #[] rfl (fun _ => true) X.prog X.w X.A (wants (fun v s' => v ≠ .notImplemented ∧ EP X pins σ Q v s') X.xe) s ⟨e, e2, fun j h1 h2 => SeqAt.EqAt.same _, ?_⟩
  have al : (List.range its.toArray.size).all (fun _ => true) = true := by simp
  rw [al]
  exact ⟨(fun z => nomatch z), .bl false, H, I, rfl, q⟩
end
section
variable {prog : Program} {w : World} {A : Around} {E : Value → Shared → Prop} {s : Shared}
/-- a tuple's items, taken over into a list of their own -/
theorem collect_tup {l : Addr} {o : Obj} {n : Nat} {vs : List Value} {Q : List Value → Shared → Prop} (ho : s.heap.get? l = some o) (hc : o.cls = .type "tuple") (hd : o.data = .seq vs.toArray n)
    (h : Q vs { s with heap := (s.heap.push (seqObj "list" #[] 0)).update s.heap.objs.size (Obj.mapSeq (· ++ vs.toArray)) }) (hsz : vs.length ≤ sizeLine) : wpAny (model prog w) A (collect (.ref l)) Q E s := by
  have new : (s.heap.push (seqObj "list" #[] 0)).get? s.heap.objs.size = some (seqObj "list" #[] 0) := Heap.get?_push_size _ rfl
  have old : (s.heap.push (seqObj "list" #[] 0)).get? l = some o := Heap.get?_push_of_some _ ho
  unfold collect
  refine wpAny_bind (wpAny_runValue (codeAny_builtin entry_proto_collect' (show wpAny _ _ (do again (.builtin "list.__iadd__" ⟨[← newList [], .ref l], []⟩)) _ _ s from wpAny_bind (wpAny_newList (wpAny_pure ⟨Code.quiet_builtin _ (by decide +kernel), codeAny_builtin entry_list_iadd' ?_⟩)))))
  show wpAny _ _ (Builtin.List.listExtendWith (.ref s.heap.objs.size) (.ref l) (.ref s.heap.objs.size)) _ _ { s with heap := s.heap.push (seqObj "list" #[] 0) }
  unfold Builtin.List.listExtendWith
  have tt : (Value.type "tuple" == Value.type "tuple") = true := rfl
  refine wpAny_bind (wpAny_typeOf (T := "tuple") ⟨o, old, hc⟩ ?_)
  rw [if_pos (by rw [tt]; simp)]
  refine wpAny_bind (listItems_at old hd (wpAny_bind (listItems_at (xs := #[]) (n := 0) new rfl ?_)))
  rw [if_neg (by simp)]
  refine wpAny_bind (listUpdate_at (xs := #[]) (n := 0) new rfl (wpAny_pure ?_) (Nat.zero_le _) (by show (#[] ++ vs.toArray).size ≤ sizeLine + 1; simp only [Array.size_append, List.size_toArray, List.length_nil]; omega))
  refine (show wpAny (model prog w) A (load s.heap.objs.size >>= fun o => match o.data with | .seq xs _ => pure xs.toList | _ => unsupported "internal:collect") Q E _ from wpAny_bind (wpAny_load (get?_update_seq new _) ?_))
  show wpAny _ _ (pure ((#[] : Array Value) ++ vs.toArray).toList) Q E _
  rw [show ((#[] : Array Value) ++ vs.toArray).toList = vs by simp]
  exact wpAny_pure h
theorem sorted_tup {l : Addr} {o : Obj} {n : Nat} {vs : List Value} {ns : List Int} {Q : Value → Shared → Prop} (ho : s.heap.get? l = some o) (hc : o.cls = .type "tuple") (hd : o.data = .seq vs.toArray n) (hI : IntsAre vs ns) (h64 : vs.length < 64)
    (h : ∀ (out : Array Value) (ns' : List Int), IntsAre out.toList ns' → ns'.Perm ns → ns'.Pairwise (· ≤ ·) → Q (.ref (s.heap.objs.size + 1)) { s with heap := sortedAll s.heap vs out }) :
    wpAny (model prog w) A (call (.builtin "sorted") [.ref l]) Q E s := by
  refine Calls.call_function_entry kind_sorted plain_sorted entry_sorted (args_sorted1 _) ?_
  unfold Builtin.«sorted»
  refine wpAny_bind (m := checkCount "sorted" 1 1 _) (wpAny_pure (wpAny_bind (collect_tup ho hc hd (wpAny_bind (wpAny_newList ?_)) (small64 h64))))
  have sz : ((s.heap.push (seqObj "list" #[] 0)).update s.heap.objs.size (Obj.mapSeq (· ++ vs.toArray))).objs.size = s.heap.objs.size + 1 := by rw [Heap.size_update, size_push']
  have at2 : (((s.heap.push (seqObj "list" #[] 0)).update s.heap.objs.size (Obj.mapSeq (· ++ vs.toArray))).push (seqObj "list" vs.toArray 0)).get? (s.heap.objs.size + 1) = some (seqObj "list" vs.toArray 0) := sz ▸ Heap.get?_push_size _ rfl
  show wpAny _ _ _ _ _ { s with heap := ((s.heap.push (seqObj "list" #[] 0)).update s.heap.objs.size (Obj.mapSeq (· ++ vs.toArray))).push (seqObj "list" vs.toArray 0) }
  rw [sz]
  exact wpAny_bind (wpAny_holding (wpAny_call_entry slot_list_sort ⟨_, at2, rfl⟩ entry_list_sort (list_sort_tree at2 hI h64 fun out ns' a1 a2 a3 => ⟨_, rfl, wpAny_pure ⟨_, rfl, h out ns' a1 a2 a3⟩⟩) (args_list_sort _)))
end
section
variable {X : Cx}
/-- sorted(t), t a tuple or a list of ints -/
def rSrt (K : PySem.W.Frag) : List V → Hp → VK → Prop := fun vs H Q => ∃ (a : Addr) (ns : List Int), vs = [V.ref a] ∧ (SqL K H a (ns.map V.int) ∨ SqT K H a (ns.map V.int)) ∧ ns.length < 64 ∧
  ∀ (ns' : List Int) (p : Addr), ns'.Perm ns → ns'.Pairwise (· ≤ ·) → H p = none → Q (.ref p) (upd H p (.lst (ns'.map V.int)))
theorem cr_srt : CallR X (.builtin "sorted") (rSrt X.K) := by
  intro pins s σ H vs us Q I r h
  obtain ⟨a, ns, rfl, hs, h64, q⟩ := h
  rcases hs with hs | hs
  · exact cr_sorted pins s σ H _ us Q I r ⟨a, ns, rfl, hs, h64, q⟩
  obtain ⟨its, rv, ⟨o, ho, hc, n, hd⟩, _⟩ := I.tuple hs
  rw [Vals.ref1 r]
  have hi := rv.ints
  refine sorted_tup ho hc hd hi (by rw [hi.length]; exact h64) fun out ns' h1 h2 h3 => ?_
  obtain ⟨ep, he'⟩ := PyProof.Rows.sortedAll_at s.heap its out
  have hlen : (ns'.map V.int).length ≤ sizeLine := by rw [List.length_map, h2.length_eq]; exact small64 h64
  exact ⟨.ref _, upd H (s.heap.objs.size + 1) (.lst (ns'.map V.int)), I.laid (t' := s.toks) (fun _ _ => PyProof.Rows.sortedAll_old) (Nat.le_succ _) ⟨hlen, out.toList, ep, vals_of_ints h1, he'⟩, rfl, q ns' _ h2 h3 (I.hok.fresh (Nat.le_succ _))⟩
end
end KpR

/-! Kp: a written dict of one pair whose key is a tuple. -/
namespace KpR
open PySem PySem.Spec PyProof.Rows L2
/-- {k: v}, k a tuple of ints and texts; the new dict stands empty while the pair is made -/
def tDispT (tk tv : TE) : TE := fun σ H Q => ∀ p, H p = none → tk σ (upd H p (.dT [])) fun x H1 => tv σ H1 fun v H2 => H2 p = some (.dT []) ∧ ∃ (b : Addr) (k : List L2.Key), x = .ref b ∧ H2 b = some (.tup (k.map kV)) ∧ Q (.ref p) (upd H2 p (.dT [(k, v)]))
def oneP (Q : VK) (p : Addr) : List (V × V) → Hp → Prop
  | [(x, y)], H2 => H2 p = some (.dT []) ∧ ∃ (b : Addr) (kk : List L2.Key), x = .ref b ∧ H2 b = some (.tup (kk.map kV)) ∧ Q (.ref p) (upd H2 p (.dT [(kk, y)]))
  | _, _ => False
theorem oneP_of {tk tv : TE} {σ : L2.St} {H : Hp} {Q : VK} {p : Addr} (h : tk σ H fun x H1 => tv σ H1 fun v H2 => H2 p = some (.dT []) ∧ ∃ (b : Addr) (k : List L2.Key), x = .ref b ∧ H2 b = some (.tup (k.map kV)) ∧ Q (.ref p) (upd H2 p (.dT [(k, v)]))) :
    tPairs [(tk, tv)] σ H (oneP Q p) := h
theorem pe_dispT {X : Cx} {pos : Pos} {k v : Expr} {tk tv : TE} (hu : X.A.units + 1 < cLine) (hk : PE X k tk) (hv : PE X v tv) : PE X (.Dict [some k] [v] pos) (tDispT tk tv) := by
  refine ⟨fun pins s σ H Q I q => ?_⟩
  have hn := I.hok.fresh (Nat.le_refl s.heap.objs.size)
  have I1 := I.laid (a := s.heap.objs.size) (o := .dT []) (h' := s.heap.push { cls := .type "dict", data := .dict #[] }) (t' := s.toks) (fun _ _ q => Heap.get?_push_of_some _ q) (Nat.le_refl _) (dt_empty s.heap I.big)
  have hp := pps_cons (pos := pos) hk hv pps_nil
  have ln : (pairTrees [some k] [v] X.env pos).length = 1 := pairTrees_length [some k] [v] X.env pos rfl rfl
  have ne : pairTrees [some k] [v] X.env pos ≠ [] := fun z => by
    rw [z] at ln
    cases ln
  have room : (tupleKind (mixKind X.prog X.w)).room X.A := by
    show X.A.units < cLine
    omega
  rw [arm_eval_Dict, zip_pairTrees [some k] [v] X.env pos rfl rfl, dictDisplay_pairs _ ne (by omega)]
  refine wpAny_bind (wpAny_standAt (wpAny_bind (wpAny_subDictH (knd := tupleKind (mixKind X.prog X.w)) room (by omega) ?_)))
  refine thn (hp.run pins _ σ _ (oneP Q s.heap.objs.size) I1 (oneP_of (q _ hn))) ?_
  rintro ws s2 ⟨ps, H2, I2, rel, g⟩
  match ps, g, rel with
  | [(x, y)], ⟨e, b, kk, ex, eb, q2⟩, rel =>
    subst ex
    match ws, rel with
    | [(u1, u2)], .cons ⟨ra, rb⟩ .nil =>
      cases (show u1 = Value.ref b from ra)
      obtain ⟨z, hd, xs, r0, dd⟩ := dt_of I2.hok e
      cases r0
      refine ⟨[(kk, b, u2)], ⟨rfl, rfl, key_of I2.hok eb, trivial⟩, dd, fun h' tk dd' hs => wpAny_pure ⟨.ref s.heap.objs.size, _, ?_, rfl, q2⟩⟩
      obtain ⟨q, es, ep, hq, h2, h3, h4, _, h5⟩ := dd'
      refine d_write I2 (by rw [e]; exact True.intro) hs ⟨q, hq⟩ ⟨by show 1 ≤ sizeLine; decide, hd, [(kk, b, u2)], .cons ⟨rfl, ?_, rb⟩ .nil, q, es, ep, hq, h2, h3, h4, h5⟩
      rw [upd_ne (ne_of eb e (fun z => nomatch z))]
      exact eb
end KpR

/-! Kp: sum of a tuple of ints. -/
namespace KpR
open PySem PySem.Spec PyProof.Rows L2
section
variable {prog : Program} {w : World} {A : Around} {E : Value → Shared → Prop} {s : Shared} {l : Addr} {xs : Array (Int × Tok)}
theorem sum_tupG {Q : Value → Shared → Prop} (hh : A.handled = none) (hl : s.heap.IsTuple l (intItems xs))
    (h : ∀ h' tk t', (∀ b o, s.heap.get? b = some o → h'.get? b = some o) → Q (.int (preSum (numAt xs) xs.size) t') { s with heap := h', toks := tk }) :
    wpAny (model prog w) A (call (.builtin "sum") [.ref l]) Q E s := by
  have lt : l < s.heap.objs.size := by
    obtain ⟨o, e, _⟩ := hl
    exact Heap.lt_size e
  refine call_sum_walkG (wpAny_pyIter_tuple hl ?_)
  refine ⟨_, _, [s.heap.objs.size], _, _, _, numAt xs, rfl, Walks.tuple (A := A.in1) hh _ l (Nat.ne_of_lt lt) (intItems xs), ⟨⟨_, Heap.get?_push_size _ rfl, rfl, rfl⟩, hl.push _⟩, fun b hb => ?_, (fun _ _ => intItems_at), fun h' tk t' hk => ?_⟩
  · show b < (s.heap.push _).objs.size
    rw [Heap.size_push]
    rcases List.mem_cons.mp hb with rfl | hb
    · exact Nat.lt_succ_self _
    · rcases List.mem_cons.mp hb with rfl | hb
      · exact Nat.lt_succ_of_lt lt
      · cases hb
  · have := h h' tk t' fun b o e => by
      refine hk b o (fun hm => ?_) (Heap.get?_push_of_some _ e)
      rcases List.mem_cons.mp hm with e1 | hm
      · exact absurd (e1 ▸ Heap.lt_size e) (Nat.lt_irrefl _)
      · cases hm
    simpa [intItems] using this
end
/-- sum(t) of a tuple of ints -/
def rSumT (K : PySem.W.Frag) : List V → Hp → VK → Prop := fun vs H Q => ∃ (a : Addr) (ns : List Int), vs = [V.ref a] ∧ SqT K H a (ns.map V.int) ∧ Q (.int ns.sum) H
theorem cr_sumT {X : Cx} (hc : X.calm = true) : CallR X (.builtin "sum") (rSumT X.K) := by
  intro pins s σ H vs us Q I r h
  obtain ⟨a, ns, rfl, hs, q⟩ := h
  obtain ⟨its, rv, hl, _⟩ := I.tuple hs
  rw [Vals.ref1 r]
  have hi := rv.ints
  obtain ⟨xs, e⟩ := hi.allInts.items
  have hn : numsOf (intItems xs).toList = ns := by rw [← e]; exact hi.numsOf
  rw [nums_intItems] at hn
  rw [e] at hl
  refine sum_tupG (I.ok.hd hc) (let ⟨o, h1, h2, n, h3⟩ := hl; ⟨o, h1, h2, n, h3⟩) fun h' tk t' hk => ⟨.int _, H, I.kept hk, ⟨_, rfl⟩, ?_⟩
  rw [preSum_eq, List.take_of_length_le (by simp), hn]
  exact q
end KpR







namespace Kp
open PySem PySem.Spec PyProof.Rows L2 KpR
def topS (i : Nat) : Stmt := PySem.Challenge.pw_wholedrops_k04_what_is_no_start.main.body.getD i (.Pass ⟨0, 0, 0, 0⟩)
abbrev scheckmuch : Stmt := topS 19
abbrev scheckjar : Stmt := topS 20
abbrev scheckdeed : Stmt := topS 21
abbrev sBadCountInit : Stmt := inClass (topS 2) 0
abbrev sBadStartInit : Stmt := inClass (topS 6) 0
abbrev sJarsInit : Stmt := inClass (topS 12) 0
abbrev sPourInit : Stmt := inClass (topS 14) 0
abbrev sPutInit : Stmt := inClass (topS 15) 0
abbrev sDrawInit : Stmt := inClass (topS 16) 0
abbrev sChangeInit : Stmt := inClass (topS 17) 0
abbrev sRowInit : Stmt := inClass (topS 18) 0
abbrev scheckstart : Stmt := topS 24
abbrev sbehinddeed : Stmt := topS 25
abbrev sbehindround : Stmt := topS 26
abbrev sbehind : Stmt := topS 27
abbrev sfate : Stmt := topS 30
abbrev sLwell : Stmt := topS 32
abbrev sLdraw : Stmt := topS 33
abbrev sLcaps : Stmt := topS 34
abbrev sLfacts : Stmt := topS 35
abbrev sLdeed : Stmt := topS 36
abbrev sLrow : Stmt := topS 37
abbrev sLamounts : Stmt := topS 38
abbrev sLsaid : Stmt := topS 39
abbrev sLspoilt : Stmt := topS 40
abbrev sLdue : Stmt := topS 41
abbrev slaw : Stmt := topS 42
theorem sccheckmuch : FnScope ["what", "much"] ["what", "much"] (defScope scheckmuch) := ⟨rfl, rfl, rfl, by decide +kernel, rfl, by decide +kernel, by decide +kernel⟩
theorem sccheckjar : FnScope ["jars", "jar"] ["jars", "jar"] (defScope scheckjar) := ⟨rfl, rfl, rfl, by decide +kernel, rfl, by decide +kernel, by decide +kernel⟩
theorem sccheckdeed : FnScope ["jars", "deed"] ["jars", "deed"] (defScope scheckdeed) := ⟨rfl, rfl, rfl, by decide +kernel, rfl, by decide +kernel, by decide +kernel⟩
theorem scBadCountInit : FnScope ["self", "what", "count"] ["self", "what", "count"] (defScope sBadCountInit) := ⟨rfl, rfl, rfl, by decide +kernel, rfl, by decide +kernel, by decide +kernel⟩
theorem scBadStartInit : FnScope ["self", "jar"] ["self", "jar"] (defScope sBadStartInit) := ⟨rfl, rfl, rfl, by decide +kernel, rfl, by decide +kernel, by decide +kernel⟩
theorem scJarsInit : FnScope ["self", "sizes", "size"] ["self", "sizes"] (defScope sJarsInit) := ⟨rfl, rfl, rfl, by decide +kernel, rfl, by decide +kernel, by decide +kernel⟩
theorem scPourInit : FnScope ["self", "a", "b"] ["self", "a", "b"] (defScope sPourInit) := ⟨rfl, rfl, rfl, by decide +kernel, rfl, by decide +kernel, by decide +kernel⟩
theorem scPutInit : FnScope ["self", "a", "k"] ["self", "a", "k"] (defScope sPutInit) := ⟨rfl, rfl, rfl, by decide +kernel, rfl, by decide +kernel, by decide +kernel⟩
theorem scDrawInit : FnScope ["self", "a", "k"] ["self", "a", "k"] (defScope sDrawInit) := ⟨rfl, rfl, rfl, by decide +kernel, rfl, by decide +kernel, by decide +kernel⟩
theorem scChangeInit : FnScope ["self", "a", "b"] ["self", "a", "b"] (defScope sChangeInit) := ⟨rfl, rfl, rfl, by decide +kernel, rfl, by decide +kernel, by decide +kernel⟩
theorem scRowInit : FnScope ["self", "jars", "deeds", "deed"] ["self", "jars", "deeds"] (defScope sRowInit) := ⟨rfl, rfl, rfl, by decide +kernel, rfl, by decide +kernel, by decide +kernel⟩
theorem sccheckstart : FnScope ["jars", "start", "parts", "jar", "size"] ["jars", "start", "parts"] (defScope scheckstart) := ⟨rfl, rfl, rfl, by decide +kernel, rfl, by decide +kernel, by decide +kernel⟩
theorem scbehinddeed : FnScope ["jars", "deed", "stand", "parts", "after", "a", "b", "moved"] ["jars", "deed", "stand", "parts"] (defScope sbehinddeed) := ⟨rfl, rfl, rfl, by decide +kernel, rfl, by decide +kernel, by decide +kernel⟩
theorem scbehindround : FnScope ["row", "stand", "parts", "after", "deed"] ["row", "stand", "parts"] (defScope sbehindround) := ⟨rfl, rfl, rfl, by decide +kernel, rfl, by decide +kernel, by decide +kernel⟩
theorem scbehind : FnScope ["row", "start", "parts", "times", "stand", "_"] ["row", "start", "parts", "times"] (defScope sbehind) := ⟨rfl, rfl, rfl, by decide +kernel, rfl, by decide +kernel, by decide +kernel⟩
theorem scfate : FnScope ["row", "start", "parts", "stand", "seen", "rounds"] ["row", "start", "parts"] (defScope sfate) := ⟨rfl, rfl, rfl, by decide +kernel, rfl, by decide +kernel, by decide +kernel⟩
theorem scLwell : FnScope ["_law_cell"] ["_law_cell"] (defScope sLwell) := ⟨rfl, rfl, rfl, by decide +kernel, rfl, by decide +kernel, by decide +kernel⟩
theorem scLdraw : FnScope ["_law_well_here", "_law_many", "_law_found", "_law_number"] ["_law_well_here", "_law_many"] (defScope sLdraw) := ⟨rfl, rfl, rfl, by decide +kernel, rfl, by decide +kernel, by decide +kernel⟩
theorem scLcaps : FnScope ["_law_well_here", "_law_most", "_law_unit", "_law_found", "_law_turn"] ["_law_well_here", "_law_most"] (defScope sLcaps) := ⟨rfl, rfl, rfl, by decide +kernel, rfl, by decide +kernel, by decide +kernel⟩
theorem scLfacts : FnScope ["_law_well_here", "_law_caps_here", "_law_many", "_law_found", "_law_turn", "_law_here", "_law_there", "_law_much", "_law_word"] ["_law_well_here", "_law_caps_here", "_law_many"] (defScope sLfacts) := ⟨rfl, rfl, rfl, by decide +kernel, rfl, by decide +kernel, by decide +kernel⟩
theorem scLdeed : FnScope ["_law_fact", "_law_word", "_law_here", "_law_last"] ["_law_fact"] (defScope sLdeed) := ⟨rfl, rfl, rfl, by decide +kernel, rfl, by decide +kernel, by decide +kernel⟩
theorem scLrow : FnScope ["_law_caps_here", "_law_facts_here", "_law_fact"] ["_law_caps_here", "_law_facts_here"] (defScope sLrow) := ⟨rfl, rfl, rfl, by decide +kernel, rfl, by decide +kernel, by decide +kernel⟩
theorem scLamounts : FnScope ["_law_well_here", "_law_caps_here", "_law_portions", "_law_found", "_law_cap", "_law_top", "_law_some"] ["_law_well_here", "_law_caps_here", "_law_portions"] (defScope sLamounts) := ⟨rfl, rfl, rfl, by decide +kernel, rfl, by decide +kernel, by decide +kernel⟩
theorem scLsaid : FnScope ["_law_ask", "e"] ["_law_ask"] (defScope sLsaid) := ⟨rfl, rfl, rfl, by decide +kernel, rfl, by decide +kernel, by decide +kernel⟩
theorem scLspoilt : FnScope ["_law_well_here", "_law_caps_here", "_law_amounts_here", "_law_portions", "_law_found", "_law_way", "_law_turn", "_law_at"] ["_law_well_here", "_law_caps_here", "_law_amounts_here", "_law_portions"] (defScope sLspoilt) := ⟨rfl, rfl, rfl, by decide +kernel, rfl, by decide +kernel, by decide +kernel⟩
theorem scLdue : FnScope ["_law_caps_here", "_law_amounts_here", "_law_portions", "_law_many", "_law_bad", "_law_at"] ["_law_caps_here", "_law_amounts_here", "_law_portions", "_law_many"] (defScope sLdue) := ⟨rfl, rfl, rfl, by decide +kernel, rfl, by decide +kernel, by decide +kernel⟩
theorem sclaw : FnScope ["_law_script", "_law_cell", "_law_well_here", "_law_caps_here", "_law_first", "_law_good", "_law_kept", "_law_turn", "_law_portions", "_law_amounts_here", "_law_many", "_law_due_here"] ["_law_script"] (defScope slaw) := ⟨rfl, rfl, rfl, by decide +kernel, rfl, by decide +kernel, by decide +kernel⟩
structure TyIns (K : PySem.W.Frag) (C : Addr) : Prop where
  ha : PySem.W.findIn K (.ref C) "__class__" = some (some (.builtin "object.__class__"))
  hn : PySem.W.specialIn K (.builtin "object.__class__") "__get__" = some (some (.builtin "getset_descriptor.__get__"))
  ht : PySem.W.takesIn K (.builtin "object.__class__") = some true
  hm : PySem.W.mroIn K C (.type "object") = some true
structure Tx (K : PySem.W.Frag) (mg : Str → Option Value) : Type where
  cNoJar : Addr
  cJars : Addr
  cPour : Addr
  cPut : Addr
  cDraw : Addr
  cChange : Addr
  cRow : Addr
  acheckmuch : Addr
  dcheckmuch : FuncData
  acheckjar : Addr
  dcheckjar : FuncData
  acheckdeed : Addr
  dcheckdeed : FuncData
  aBadCountInit : Addr
  dBadCountInit : FuncData
  aBadStartInit : Addr
  dBadStartInit : FuncData
  aJarsInit : Addr
  dJarsInit : FuncData
  aPourInit : Addr
  dPourInit : FuncData
  aPutInit : Addr
  dPutInit : FuncData
  aDrawInit : Addr
  dDrawInit : FuncData
  aChangeInit : Addr
  dChangeInit : FuncData
  aRowInit : Addr
  dRowInit : FuncData
  acheckstart : Addr
  dcheckstart : FuncData
  abehinddeed : Addr
  dbehinddeed : FuncData
  abehindround : Addr
  dbehindround : FuncData
  abehind : Addr
  dbehind : FuncData
  afate : Addr
  dfate : FuncData
  aLwell : Addr
  dLwell : FuncData
  aLdraw : Addr
  dLdraw : FuncData
  aLcaps : Addr
  dLcaps : FuncData
  aLfacts : Addr
  dLfacts : FuncData
  aLdeed : Addr
  dLdeed : FuncData
  aLrow : Addr
  dLrow : FuncData
  aLamounts : Addr
  dLamounts : FuncData
  aLsaid : Addr
  dLsaid : FuncData
  aLspoilt : Addr
  dLspoilt : FuncData
  aLdue : Addr
  dLdue : FuncData
  alaw : Addr
  dlaw : FuncData
  tMOSTJARS : Tok
  tMOSTDEEDS : Tok
  tMOSTMUCH : Tok
  tMOSTTIMES : Tok
  tMOSTROUNDS : Tok
  cBadCount : Addr
  cBadStart : Addr
  fcheckmuch : Fun K "check_much" "check_much" scheckmuch acheckmuch dcheckmuch
  bcheckmuch : Binds K dcheckmuch ["what", "much"] []
  gcheckmuch : mg "check_much" = some (.ref acheckmuch)
  fcheckjar : Fun K "check_jar" "check_jar" scheckjar acheckjar dcheckjar
  bcheckjar : Binds K dcheckjar ["jars", "jar"] []
  gcheckjar : mg "check_jar" = some (.ref acheckjar)
  fcheckdeed : Fun K "check_deed" "check_deed" scheckdeed acheckdeed dcheckdeed
  bcheckdeed : Binds K dcheckdeed ["jars", "deed"] []
  gcheckdeed : mg "check_deed" = some (.ref acheckdeed)
  fBadCountInit : Fun K "__init__" "BadCount.__init__" sBadCountInit aBadCountInit dBadCountInit
  bBadCountInit : Binds K dBadCountInit ["self", "what", "count"] []
  iBadCount : PySem.W.findIn K (.ref cBadCount) "__init__" = some (some (.ref aBadCountInit))
  tBadCount : PySem.W.typeIn K (.ref aBadCountInit) = some (.type "function")
  fBadStartInit : Fun K "__init__" "BadStart.__init__" sBadStartInit aBadStartInit dBadStartInit
  bBadStartInit : Binds K dBadStartInit ["self", "jar"] []
  iBadStart : PySem.W.findIn K (.ref cBadStart) "__init__" = some (some (.ref aBadStartInit))
  tBadStart : PySem.W.typeIn K (.ref aBadStartInit) = some (.type "function")
  fJarsInit : Fun K "__init__" "Jars.__init__" sJarsInit aJarsInit dJarsInit
  bJarsInit : Binds K dJarsInit ["self", "sizes"] []
  fPourInit : Fun K "__init__" "Pour.__init__" sPourInit aPourInit dPourInit
  bPourInit : Binds K dPourInit ["self", "a", "b"] []
  fPutInit : Fun K "__init__" "Put.__init__" sPutInit aPutInit dPutInit
  bPutInit : Binds K dPutInit ["self", "a", "k"] []
  fDrawInit : Fun K "__init__" "Draw.__init__" sDrawInit aDrawInit dDrawInit
  bDrawInit : Binds K dDrawInit ["self", "a", "k"] []
  fChangeInit : Fun K "__init__" "Change.__init__" sChangeInit aChangeInit dChangeInit
  bChangeInit : Binds K dChangeInit ["self", "a", "b"] []
  fRowInit : Fun K "__init__" "Row.__init__" sRowInit aRowInit dRowInit
  bRowInit : Binds K dRowInit ["self", "jars", "deeds"] []
  fcheckstart : Fun K "check_start" "check_start" scheckstart acheckstart dcheckstart
  bcheckstart : Binds K dcheckstart ["jars", "start", "parts"] []
  gcheckstart : mg "check_start" = some (.ref acheckstart)
  fbehinddeed : Fun K "behind_deed" "behind_deed" sbehinddeed abehinddeed dbehinddeed
  bbehinddeed : Binds K dbehinddeed ["jars", "deed", "stand", "parts"] []
  gbehinddeed : mg "behind_deed" = some (.ref abehinddeed)
  fbehindround : Fun K "behind_round" "behind_round" sbehindround abehindround dbehindround
  bbehindround : Binds K dbehindround ["row", "stand", "parts"] []
  gbehindround : mg "behind_round" = some (.ref abehindround)
  fbehind : FunD K "behind" "behind" (defArgs sbehind) (defBody sbehind) (defScope sbehind) [] [("parts", .int 1), ("times", .int 1)] abehind dbehind
  gbehind : mg "behind" = some (.ref abehind)
  ffate : FunD K "fate" "fate" (defArgs sfate) (defBody sfate) (defScope sfate) [] [("parts", .int 1)] afate dfate
  gfate : mg "fate" = some (.ref afate)
  fLwell : Fun K "_law_well" "_law_well" sLwell aLwell dLwell
  bLwell : Binds K dLwell ["_law_cell"] []
  gLwell : mg "_law_well" = some (.ref aLwell)
  fLdraw : Fun K "_law_draw" "_law_draw" sLdraw aLdraw dLdraw
  bLdraw : Binds K dLdraw ["_law_well_here", "_law_many"] []
  gLdraw : mg "_law_draw" = some (.ref aLdraw)
  fLcaps : Fun K "_law_caps" "_law_caps" sLcaps aLcaps dLcaps
  bLcaps : Binds K dLcaps ["_law_well_here", "_law_most"] []
  gLcaps : mg "_law_caps" = some (.ref aLcaps)
  fLfacts : Fun K "_law_facts" "_law_facts" sLfacts aLfacts dLfacts
  bLfacts : Binds K dLfacts ["_law_well_here", "_law_caps_here", "_law_many"] []
  gLfacts : mg "_law_facts" = some (.ref aLfacts)
  fLdeed : Fun K "_law_deed" "_law_deed" sLdeed aLdeed dLdeed
  bLdeed : Binds K dLdeed ["_law_fact"] []
  gLdeed : mg "_law_deed" = some (.ref aLdeed)
  fLrow : Fun K "_law_row" "_law_row" sLrow aLrow dLrow
  bLrow : Binds K dLrow ["_law_caps_here", "_law_facts_here"] []
  gLrow : mg "_law_row" = some (.ref aLrow)
  fLamounts : Fun K "_law_amounts" "_law_amounts" sLamounts aLamounts dLamounts
  bLamounts : Binds K dLamounts ["_law_well_here", "_law_caps_here", "_law_portions"] []
  gLamounts : mg "_law_amounts" = some (.ref aLamounts)
  fLsaid : Fun K "_law_said" "_law_said" sLsaid aLsaid dLsaid
  bLsaid : Binds K dLsaid ["_law_ask"] []
  gLsaid : mg "_law_said" = some (.ref aLsaid)
  fLspoilt : Fun K "_law_spoilt" "_law_spoilt" sLspoilt aLspoilt dLspoilt
  bLspoilt : Binds K dLspoilt ["_law_well_here", "_law_caps_here", "_law_amounts_here", "_law_portions"] []
  gLspoilt : mg "_law_spoilt" = some (.ref aLspoilt)
  fLdue : Fun K "_law_due" "_law_due" sLdue aLdue dLdue
  bLdue : Binds K dLdue ["_law_caps_here", "_law_amounts_here", "_law_portions", "_law_many"] []
  gLdue : mg "_law_due" = some (.ref aLdue)
  flaw : Fun K "law" "law" slaw alaw dlaw
  blaw : Binds K dlaw ["_law_script"] []
  glaw : mg "law" = some (.ref alaw)
  mJars : mg "Jars" = some (.ref cJars)
  lJars : Cls K cJars
  kJars : Mk K cJars aJarsInit
  nJars_sizes : NoAttr K cJars "sizes"
  mPour : mg "Pour" = some (.ref cPour)
  lPour : Cls K cPour
  kPour : Mk K cPour aPourInit
  nPour_a : NoAttr K cPour "a"
  nPour_b : NoAttr K cPour "b"
  mPut : mg "Put" = some (.ref cPut)
  lPut : Cls K cPut
  kPut : Mk K cPut aPutInit
  nPut_a : NoAttr K cPut "a"
  nPut_k : NoAttr K cPut "k"
  mDraw : mg "Draw" = some (.ref cDraw)
  lDraw : Cls K cDraw
  kDraw : Mk K cDraw aDrawInit
  nDraw_a : NoAttr K cDraw "a"
  nDraw_k : NoAttr K cDraw "k"
  mChange : mg "Change" = some (.ref cChange)
  lChange : Cls K cChange
  kChange : Mk K cChange aChangeInit
  nChange_a : NoAttr K cChange "a"
  nChange_b : NoAttr K cChange "b"
  mRow : mg "Row" = some (.ref cRow)
  lRow : Cls K cRow
  kRow : Mk K cRow aRowInit
  nRow_jars : NoAttr K cRow "jars"
  nRow_deeds : NoAttr K cRow "deeds"
  mBadCount : mg "BadCount" = some (.ref cBadCount)
  oBadCount : OexC K cBadCount
  xfBadCount : XfC K cBadCount
  nBadCount_what : PySem.W.findIn K (.ref cBadCount) "what" = some none
  nBadCount_count : PySem.W.findIn K (.ref cBadCount) "count" = some none
  emBadCount_BadCount : PySem.W.exmOne K (.ref cBadCount) (.ref cBadCount) = some true
  emBadCount_BadStart : PySem.W.exmOne K (.ref cBadCount) (.ref cBadStart) = some false
  mBadStart : mg "BadStart" = some (.ref cBadStart)
  oBadStart : OexC K cBadStart
  xfBadStart : XfC K cBadStart
  nBadStart_jar : PySem.W.findIn K (.ref cBadStart) "jar" = some none
  emBadStart_BadCount : PySem.W.exmOne K (.ref cBadStart) (.ref cBadCount) = some false
  emBadStart_BadStart : PySem.W.exmOne K (.ref cBadStart) (.ref cBadStart) = some true
  xcBadStart : ExcC K cBadStart
  mNoJar : mg "NoJar" = some (.ref cNoJar)
  ixBadStart_NoJar : PySem.W.kitOne K (.ref cBadStart) (.ref cNoJar) = some false
  yChange : TyIns K cChange
  yDraw : TyIns K cDraw
  yPour : TyIns K cPour
  yPut : TyIns K cPut
  iPour_Put : PySem.W.kitOne K (.ref cPour) (.ref cPut) = some false
  iPour_Draw : PySem.W.kitOne K (.ref cPour) (.ref cDraw) = some false
  iPour_Pour : PySem.W.kitOne K (.ref cPour) (.ref cPour) = some true
  iPour_Change : PySem.W.kitOne K (.ref cPour) (.ref cChange) = some false
  iPut_Put : PySem.W.kitOne K (.ref cPut) (.ref cPut) = some true
  iPut_Draw : PySem.W.kitOne K (.ref cPut) (.ref cDraw) = some false
  iPut_Pour : PySem.W.kitOne K (.ref cPut) (.ref cPour) = some false
  iPut_Change : PySem.W.kitOne K (.ref cPut) (.ref cChange) = some false
  iDraw_Put : PySem.W.kitOne K (.ref cDraw) (.ref cPut) = some false
  iDraw_Draw : PySem.W.kitOne K (.ref cDraw) (.ref cDraw) = some true
  iDraw_Pour : PySem.W.kitOne K (.ref cDraw) (.ref cPour) = some false
  iDraw_Change : PySem.W.kitOne K (.ref cDraw) (.ref cChange) = some false
  iChange_Put : PySem.W.kitOne K (.ref cChange) (.ref cPut) = some false
  iChange_Draw : PySem.W.kitOne K (.ref cChange) (.ref cDraw) = some false
  iChange_Pour : PySem.W.kitOne K (.ref cChange) (.ref cPour) = some false
  iChange_Change : PySem.W.kitOne K (.ref cChange) (.ref cChange) = some true
  cMOSTJARS : mg "MOST_JARS" = some (.int 6 tMOSTJARS)
  cMOSTDEEDS : mg "MOST_DEEDS" = some (.int 20 tMOSTDEEDS)
  cMOSTMUCH : mg "MOST_MUCH" = some (.int 1000000000000 tMOSTMUCH)
  cMOSTTIMES : mg "MOST_TIMES" = some (.int 1000 tMOSTTIMES)
  cMOSTROUNDS : mg "MOST_ROUNDS" = some (.int 20000 tMOSTROUNDS)
  nabs : mg "abs" = none
  nenumerate : mg "enumerate" = none
  nint : mg "int" = none
  nisinstance : mg "isinstance" = none
  nlen : mg "len" = none
  nlist : mg "list" = none
  nmax : mg "max" = none
  nmin : mg "min" = none
  nrange : mg "range" = none
  ntuple : mg "tuple" = none
/-! ### fields -/
theorem put2 {a b : Str} {u v : V} (h : ¬ a = b) : putF b v (putF a u []) = ([(a, u), (b, v)] : List (Str × V)) := by
  show (if a = b then [(a, v)] else (a, u) :: putF b v []) = [(a, u), (b, v)]
  rw [if_neg h]
  rfl
theorem lk1 {a : Str} {x : V} {r : List (Str × V)} : List.lookup a ((a, x) :: r) = some x := by simp [List.lookup]
theorem lk2 {a b : Str} {x y : V} (h : ¬ b = a) : List.lookup b [(a, x), (b, y)] = some y := by
  have : (b == a) = false := by simpa using h
  simp [List.lookup, this]
/-! ### things in the heap -/
section
variable {K : PySem.W.Frag} {mg : Str → Option Value}
def f1s (a : Str) (x : V) : List (Str × V) := [(a, x)]
def f2s (a : Str) (x : V) (b : Str) (y : V) : List (Str × V) := [(a, x), (b, y)]
def DeedAt (T : Tx K mg) (H : Hp) (v : V) (d : D) : Prop := ∃ p dx, v = .ref p ∧ match d with
  | .pour a b => H p = some (.ins T.cPour dx (f2s "a" (.int a) "b" (.int b)))
  | .put a k => H p = some (.ins T.cPut dx (f2s "a" (.int a) "k" (.int k)))
  | .draw a k => H p = some (.ins T.cDraw dx (f2s "a" (.int a) "k" (.int k)))
  | .change a b => H p = some (.ins T.cChange dx (f2s "a" (.int a) "b" (.int b)))
def JarsAt (T : Tx K mg) (H : Hp) (p : Addr) (caps : List Int) : Prop := ∃ dx t, H p = some (.ins T.cJars dx (f1s "sizes" (.ref t))) ∧ H t = some (.tup (vi caps))
def RowAt (T : Tx K mg) (H : Hp) (r : Addr) (caps : List Int) (ds : List D) : Prop := ∃ dx j t vs, H r = some (.ins T.cRow dx (f2s "jars" (.ref j) "deeds" (.ref t))) ∧ JarsAt T H j caps ∧ H t = some (.tup vs) ∧ A2 (DeedAt T H) vs ds
theorem DeedAt.same {T : Tx K mg} {H H' : Hp} {v : V} {d : D} (e : Same H H') (h : DeedAt T H v d) : DeedAt T H' v d := by
  obtain ⟨p, dx, rfl, h⟩ := h
  refine ⟨p, dx, rfl, ?_⟩
  cases d <;> exact e _ _ h
theorem JarsAt.same {T : Tx K mg} {H H' : Hp} {p : Addr} {caps : List Int} (e : Same H H') (h : JarsAt T H p caps) : JarsAt T H' p caps := by
  obtain ⟨dx, t, h1, h2⟩ := h
  exact ⟨dx, t, e _ _ h1, e _ _ h2⟩
theorem RowAt.same {T : Tx K mg} {H H' : Hp} {p : Addr} {caps : List Int} {ds : List D} (e : Same H H') (h : RowAt T H p caps ds) : RowAt T H' p caps ds := by
  obtain ⟨dx, j, t, vs, h1, h2, h3, h4⟩ := h
  exact ⟨dx, j, t, vs, e _ _ h1, h2.same e, e _ _ h3, A2.mono (fun _ _ q => q.same e) h4⟩
/-- a list, or an instance without fields: what a def may change -/
def Blank (o : HO) : Prop := (∃ ws, o = .lst ws) ∨ ∃ C dx, o = .ins C dx []
theorem bl_l {ws : List V} : Blank (.lst ws) := .inl ⟨ws, rfl⟩
theorem bl_i {C dx : Addr} : Blank (.ins C dx []) := .inr ⟨C, dx, rfl⟩
theorem nb1 {C dx : Addr} {a : Str} {x : V} : ¬ Blank (.ins C dx (f1s a x)) := by
  rintro (⟨_, z⟩ | ⟨_, _, z⟩)
  · cases z
  · injection z with _ _ z
    cases z
theorem nb2 {C dx : Addr} {a b : Str} {x y : V} : ¬ Blank (.ins C dx (f2s a x b y)) := by
  rintro (⟨_, z⟩ | ⟨_, _, z⟩)
  · cases z
  · injection z with _ _ z
    cases z
theorem nbT {xs : List V} : ¬ Blank (.tup xs) := by
  rintro (⟨_, z⟩ | ⟨_, _, z⟩) <;> cases z
/-- all but one thing at w stays: what is no list stays -/
theorem fr_no {w : Addr} {H H' : Hp} {u : HO} {b : Addr} {o : HO} (e : Fr w H H') (hw : H w = some u) (hb : Blank u) (h : H b = some o) (n : ¬ Blank o) : H' b = some o :=
  e b o (fun z => by rw [z, hw] at h; cases h; exact n hb) h
theorem DeedAt.fr {T : Tx K mg} {w : Addr} {H H' : Hp} {u : HO} {v : V} {d : D} (e : Fr w H H') (hw : H w = some u) (hb : Blank u) (h : DeedAt T H v d) : DeedAt T H' v d := by
  obtain ⟨p, dx, rfl, h⟩ := h
  refine ⟨p, dx, rfl, ?_⟩
  cases d <;> exact fr_no e hw hb h nb2
theorem JarsAt.fr {T : Tx K mg} {w : Addr} {H H' : Hp} {u : HO} {p : Addr} {caps : List Int} (e : Fr w H H') (hw : H w = some u) (hb : Blank u) (h : JarsAt T H p caps) : JarsAt T H' p caps := by
  obtain ⟨dx, t, h1, h2⟩ := h
  exact ⟨dx, t, fr_no e hw hb h1 nb1, fr_no e hw hb h2 nbT⟩
theorem RowAt.fr {T : Tx K mg} {w : Addr} {H H' : Hp} {u : HO} {p : Addr} {caps : List Int} {ds : List D} (e : Fr w H H') (hw : H w = some u) (hb : Blank u) (h : RowAt T H p caps ds) : RowAt T H' p caps ds := by
  obtain ⟨dx, j, t, vs, h1, h2, h3, h4⟩ := h
  exact ⟨dx, j, t, vs, fr_no e hw hb h1 nb2, h2.fr e hw hb, fr_no e hw hb h3 nbT, A2.mono (fun _ _ q => q.fr e hw hb) h4⟩
/-! ### the promises of the program's defs -/
def spcheckmuch (T : Tx K mg) : Sp := fun vs H Q _ => ∃ (x : Str) (n : Int), vs = [.str x, .int n] ∧ 1 ≤ n ∧ n ≤ 1000000000000 ∧ Q .non H
def spcheckjar (T : Tx K mg) : Sp := fun vs H Q _ => ∃ (j : Addr) (caps : List Int) (i : Nat), vs = [.ref j, .int i] ∧ JarsAt T H j caps ∧ i < caps.length ∧ Q .non H
def spcheckdeed (T : Tx K mg) : Sp := fun vs H Q _ => ∃ (j : Addr) (caps : List Int) (v : V) (d : D), vs = [.ref j, v] ∧ JarsAt T H j caps ∧ DeedAt T H v d ∧ d.ok caps ∧ Q .non H
def spJarsInit (T : Tx K mg) : Sp := fun vs H Q _ => ∃ (p dx a : Addr) (caps : List Int), vs = [.ref p, .ref a] ∧ H p = some (.ins T.cJars dx []) ∧ SqL K H a (vi caps) ∧ Caps caps ∧
  ∀ H', JarsAt T H' p caps → Fr p H H' → Q .non H'
/-- an __init__ that stores two ints -/
def spTwo (C : Addr) (f g : Str) : Sp := fun vs H Q _ => ∃ (p dx : Addr) (u v : V), vs = [.ref p, u, v] ∧ H p = some (.ins C dx []) ∧ ∀ H', H' p = some (.ins C dx (f2s f u g v)) → Fr p H H' → Q .non H'
def spPourInit (T : Tx K mg) : Sp := spTwo T.cPour "a" "b"
def spPutInit (T : Tx K mg) : Sp := spTwo T.cPut "a" "k"
def spDrawInit (T : Tx K mg) : Sp := spTwo T.cDraw "a" "k"
def spChangeInit (T : Tx K mg) : Sp := spTwo T.cChange "a" "b"
def spRowInit (T : Tx K mg) : Sp := fun vs H Q _ => ∃ (p dx j a : Addr) (caps : List Int) (us : List V) (ds : List D), vs = [.ref p, .ref j, .ref a] ∧ H p = some (.ins T.cRow dx []) ∧ JarsAt T H j caps ∧ H a = some (.lst us) ∧ A2 (DeedAt T H) us ds ∧
  ds.length ≤ 20 ∧ (∀ d ∈ ds, d.ok caps) ∧ ∀ H', RowAt T H' p caps ds → Fr p H H' → Q .non H'
/-- an own exception's __init__ that stores one thing, or two -/
def spX1 (C : Addr) (f : Str) : Sp := fun vs H Q _ => ∃ (a : Addr) (u : V), vs = [.ref a, u] ∧ H a = some (exo a C none) ∧
  ∀ (H' : Hp) (d : Addr), H d = none → d ≠ a → H' a = some (exo a C (some d)) → H' d = some (exd d (f1s f u)) → Fr a H H' → Q .non H'
def spX2 (C : Addr) (f g : Str) : Sp := fun vs H Q _ => ∃ (a : Addr) (u v : V), vs = [.ref a, u, v] ∧ H a = some (exo a C none) ∧
  ∀ (H' : Hp) (d : Addr), H d = none → d ≠ a → H' a = some (exo a C (some d)) → H' d = some (exd d (f2s g v f u)) → Fr a H H' → Q .non H'
def spBadCountInit (T : Tx K mg) : Sp := spX2 T.cBadCount "what" "count"
def spBadStartInit (T : Tx K mg) : Sp := spX1 T.cBadStart "jar"
/-- how a start is refused -/
inductive Rf where
  | count (x : Str) (n : Int) | jar (j : Nat)
def Rf.cls (T : Tx K mg) : Rf → Addr
  | .count _ _ => T.cBadCount
  | .jar _ => T.cBadStart
def Rf.fs : Rf → List (Str × V)
  | .count x n => f2s "count" (.int n) "what" (.str x)
  | .jar j => f1s "jar" (.int j)
def rE (T : Tx K mg) (H : Hp) (E : XK) (r : Rf) : Prop := ∀ (H' : Hp) (d : Addr), H' d = some (.xd r.fs) → Same H H' → E (.ref (r.cls T)) (some d) H'
theorem rE.same {T : Tx K mg} {H H1 : Hp} {E : XK} {r : Rf} (h : rE T H E r) (s : Same H H1) : rE T H1 E r := fun H' d e s' => h H' d e (s.trans s')
def outJ (caps st : List Int) (p : Int) (i : Nat) : Bool := !(decide (0 ≤ at0 st i) && decide (at0 st i ≤ at0 caps i * p))
def chk (caps st : List Int) (p : Int) : Option Rf :=
  if p < 1 then some (.count "parts" p) else if st.length = caps.length then ((List.range caps.length).find? (outJ caps st p)).map (fun i => .jar i) else some (.count "start" st.length)
def spcheckstart (T : Tx K mg) : Sp := fun vs H Q E => ∃ (j a : Addr) (caps st : List Int) (p : Int), vs = [.ref j, .ref a, .int p] ∧ JarsAt T H j caps ∧ (SqL K H a (vi st) ∨ SqT K H a (vi st)) ∧ p < 2 ^ 62 ∧
  (chk caps st p = none → ∀ H', Same H H' → Q .non H') ∧ ∀ r, chk caps st p = some r → rE T H E r
def spbehinddeed (T : Tx K mg) : Sp := fun vs H Q _ => ∃ (j a : Addr) (v : V) (d : D) (caps st : List Int) (p : Int), vs = [.ref j, v, .ref a, .int p] ∧ JarsAt T H j caps ∧ DeedAt T H v d ∧ d.ok caps ∧ SqL K H a (vi st) ∧ 1 ≤ p ∧ p < 2 ^ 62 ∧ st.length = caps.length ∧
  ∀ (H' : Hp) (q : Addr), H q = none → H' q = some (.lst (vi (d.act caps p st))) → Same H H' → Q (.ref q) H'
def spbehindround (T : Tx K mg) : Sp := fun vs H Q _ => ∃ (r a : Addr) (ds : List D) (caps st : List Int) (p : Int), vs = [.ref r, .ref a, .int p] ∧ RowAt T H r caps ds ∧ (∀ d ∈ ds, d.ok caps) ∧ SqL K H a (vi st) ∧ 1 ≤ p ∧ p < 2 ^ 62 ∧ st.length = caps.length ∧
  ∀ (H' : Hp) (q : Addr), H q = none → H' q = some (.lst (vi (run caps p ds st))) → Same H H' → Q (.ref q) H'
def spbehind (T : Tx K mg) : Sp := fun vs H Q E => ∃ (r a : Addr) (ds : List D) (caps st : List Int) (p n : Int), vs = [.ref r, .ref a, .int p, .int n] ∧ RowAt T H r caps ds ∧ (∀ d ∈ ds, d.ok caps) ∧ (SqL K H a (vi st) ∨ SqT K H a (vi st)) ∧ p < 2 ^ 62 ∧
  (∀ r, chk caps st p = some r → rE T H E r) ∧ (chk caps st p = none → ¬ (0 ≤ n ∧ n ≤ 1000) → rE T H E (.count "times" n)) ∧
  (chk caps st p = none → 0 ≤ n → n ≤ 1000 → ∀ (H' : Hp) (q : Addr), H q = none → H' q = some (.lst (vi (runs caps p ds n.toNat st))) → Same H H' → Q (.ref q) H')
def spfate (T : Tx K mg) : Sp := fun vs H Q E => ∃ (r a : Addr) (ds : List D) (caps st : List Int) (p : Int) (rf : Rf), vs = [.ref r, .ref a, .int p] ∧ RowAt T H r caps ds ∧ (SqL K H a (vi st) ∨ SqT K H a (vi st)) ∧ p < 2 ^ 62 ∧
  chk caps st p = some rf ∧ rE T H E rf
end
section
variable {P : Program} {w : World} {K : PySem.W.Frag} {mg : Str → Option Value} {base : Heap}
/-! ### the program's bodies -/
theorem okBadCountInit (T : Tx K mg) : FnOk P w K mg base CX0 1 T.aBadCountInit T.dBadCountInit ["self", "what", "count"] (spBadCountInit T) := by
  refine T.fBadCountInit.ok scBadCountInit (fun vs H Q E h => ?_) (fun cdv A outer s H vs Q E hr h => ?_)
  · obtain ⟨a, u, v, rfl, _⟩ := h
    rfl
  · obtain ⟨a, u, v, rfl, ha, hq⟩ := h
    refine ⟨_, (pss_cons (ps_ost (pv 0) (pv 1))
      (pss_one (ps_ost (pv 0) (pv 2)))), ?_⟩
    refine ⟨_, rfl, _, rfl, a, _, rfl, T.oBadCount, T.nBadCount_what, .inl ⟨ha, fun d hd ne => ?_⟩⟩
    refine ⟨_, rfl, _, rfl, a, _, rfl, T.oBadCount, T.nBadCount_count, .inr ⟨d, _, upd_same, by rw [upd_ne ne]; exact upd_same, (by show 1 ≤ 900; decide), ?_⟩⟩
    refine hq _ d hd ne (by rw [upd_ne ne.symm]; exact upd_same) upd_same ?_
    exact fun b o n1 e => by
      have n2 := ne_of_none e hd
      rw [upd_ne n2, upd_ne n1, upd_ne n2]
      exact e
theorem okBadStartInit (T : Tx K mg) : FnOk P w K mg base CX0 1 T.aBadStartInit T.dBadStartInit ["self", "jar"] (spBadStartInit T) := by
  refine T.fBadStartInit.ok scBadStartInit (fun vs H Q E h => ?_) (fun cdv A outer s H vs Q E hr h => ?_)
  · obtain ⟨a, u, rfl, _⟩ := h
    rfl
  · obtain ⟨a, u, rfl, ha, hq⟩ := h
    refine ⟨_, (pss_one (ps_ost (pv 0) (pv 1))), ?_⟩
    refine ⟨_, rfl, _, rfl, a, _, rfl, T.oBadStart, T.nBadStart_jar, .inl ⟨ha, fun d hd ne => ?_⟩⟩
    refine hq _ d hd ne upd_same (by rw [upd_ne ne]; exact upd_same) ?_
    exact fun b o n1 e => by
      have n2 := ne_of_none e hd
      rw [upd_ne n1, upd_ne n2]
      exact e
/-- what a made exception leaves -/
theorem x2_made {H : Hp} {C : Addr} {f g : Str} {u v : V} {E : XK} (h : ∀ (H' : Hp) (d : Addr), H' d = some (.xd (f2s g v f u)) → Same H H' → E (.ref C) (some d) H') : ∀ a, H a = none → spX2 C f g [.ref a, u, v] (upd H a (exo a C none))
    (fun v H2 => v = .non ∧ ∃ (d : Addr) (fs : List (Str × V)), H2 a = some (exo a C (some d)) ∧ H2 d = some (exd d fs) ∧ H d = none ∧ E (.ref C) (some d) (upd (del H2 a) d (.xd fs))) (fun _ _ _ => False) := fun a ha => by
  refine ⟨a, u, v, rfl, upd_same, fun H' d hd ne e1 e2 fr => ⟨rfl, d, _, e1, e2, by rw [upd_ne ne] at hd; exact hd, ?_⟩⟩
  have hd0 : H d = none := by rw [upd_ne ne] at hd; exact hd
  refine h _ d upd_same fun b o e => ?_
  have n1 := ne_of_none e ha
  have n2 := ne_of_none e hd0
  rw [upd_ne n2, del_ne n1]
  exact fr b o n1 (by rw [upd_ne n1]; exact e)
theorem x1_made {H : Hp} {C : Addr} {f : Str} {u : V} {E : XK} (h : ∀ (H' : Hp) (d : Addr), H' d = some (.xd (f1s f u)) → Same H H' → E (.ref C) (some d) H') : ∀ a, H a = none → spX1 C f [.ref a, u] (upd H a (exo a C none))
    (fun v H2 => v = .non ∧ ∃ (d : Addr) (fs : List (Str × V)), H2 a = some (exo a C (some d)) ∧ H2 d = some (exd d fs) ∧ H d = none ∧ E (.ref C) (some d) (upd (del H2 a) d (.xd fs))) (fun _ _ _ => False) := fun a ha => by
  refine ⟨a, u, rfl, upd_same, fun H' d hd ne e1 e2 fr => ⟨rfl, d, _, e1, e2, by rw [upd_ne ne] at hd; exact hd, ?_⟩⟩
  have hd0 : H d = none := by rw [upd_ne ne] at hd; exact hd
  refine h _ d upd_same fun b o e => ?_
  have n1 := ne_of_none e ha
  have n2 := ne_of_none e hd0
  rw [upd_ne n2, del_ne n1]
  exact fr b o n1 (by rw [upd_ne n1]; exact e)

theorem okcheckmuch (T : Tx K mg) : FnOk P w K mg base CX0 1 T.acheckmuch T.dcheckmuch ["what", "much"] (spcheckmuch T) := by
  refine T.fcheckmuch.ok sccheckmuch (fun vs H Q E h => ?_) (fun cdv A outer s H vs Q E hr h => ?_)
  · obtain ⟨x, n, rfl, _⟩ := h
    rfl
  · obtain ⟨x, n, rfl, h1, h2, hq⟩ := h
    refine ⟨_, (pss_one (ps_if (pt_not (pt_chain op_le op_le pe_int (pv 1) (pe_glob (v := .int 1000000000000) rfl T.cMOSTMUCH ⟨_, rfl⟩))) (pss_one ps_never) pss_nil)), ?_⟩
    refine ⟨_, rfl, _, _, rfl, rfl, _, rfl, ifT (decide_eq_true h1) ?_⟩
    exact ⟨_, _, rfl, rfl, _, rfl, iteNS h2 hq⟩
theorem okcheckjar (T : Tx K mg) : FnOk P w K mg base CX0 1 T.acheckjar T.dcheckjar ["jars", "jar"] (spcheckjar T) := by
  refine T.fcheckjar.ok sccheckjar (fun vs H Q E h => ?_) (fun cdv A outer s H vs Q E hr h => ?_)
  · obtain ⟨j, caps, i, rfl, _⟩ := h
    rfl
  · obtain ⟨j, caps, i, rfl, ⟨dx, t, e1, e2⟩, hi, hq⟩ := h
    refine ⟨_, (pss_one (ps_if (pt_not (pt_chain op_le op_lt pe_int (pv 1) (pe_callB call_len_seq rfl T.nlen PySem.boot_len (pa_cons (pe_fld (pv 0) rfl) pa_nil)))) (pss_one ps_never) pss_nil)), ?_⟩
    refine ⟨_, rfl, _, _, rfl, rfl, _, rfl, ifT (decide_eq_true (by omega)) ?_⟩
    refine ⟨_, rfl, j, _, dx, _, _, rfl, e1, T.lJars, T.nJars_sizes, lk1, t, _, rfl, .inr (SqT.of e2), _, _, rfl, rfl, _, rfl, iteNS (by rw [List.length_map]; omega) hq⟩
theorem okPourInit (T : Tx K mg) : FnOk P w K mg base CX0 1 T.aPourInit T.dPourInit ["self", "a", "b"] (spPourInit T) := by
  refine T.fPourInit.ok scPourInit (fun vs H Q E h => ?_) (fun cdv A outer s H vs Q E hr h => ?_)
  · obtain ⟨p, dx, u, v, rfl, _⟩ := h
    rfl
  · obtain ⟨p, dx, u, v, rfl, hp, hq⟩ := h
    refine ⟨_, (pss_cons (ps_fld (pv 0) (pv 1) rfl)
      (pss_one (ps_fld (pv 0) (pv 2) rfl))), ?_⟩
    refine ⟨_, rfl, _, rfl, p, _, dx, _, rfl, hp, T.lPour, T.nPour_a, (by show 0 < 1000; decide), ?_⟩
    refine ⟨_, rfl, _, rfl, p, _, dx, _, rfl, upd_same, T.lPour, T.nPour_b, (by show 1 < 1000; decide), ?_⟩
    refine hq _ ?_ (fr_mut (fr_mut (Fr.refl _ _)))
    rw [upd_same, put2 (by decide +kernel)]
    rfl
theorem okPutInit (T : Tx K mg) : FnOk P w K mg base CX0 1 T.aPutInit T.dPutInit ["self", "a", "k"] (spPutInit T) := by
  refine T.fPutInit.ok scPutInit (fun vs H Q E h => ?_) (fun cdv A outer s H vs Q E hr h => ?_)
  · obtain ⟨p, dx, u, v, rfl, _⟩ := h
    rfl
  · obtain ⟨p, dx, u, v, rfl, hp, hq⟩ := h
    refine ⟨_, (pss_cons (ps_fld (pv 0) (pv 1) rfl)
      (pss_one (ps_fld (pv 0) (pv 2) rfl))), ?_⟩
    refine ⟨_, rfl, _, rfl, p, _, dx, _, rfl, hp, T.lPut, T.nPut_a, (by show 0 < 1000; decide), ?_⟩
    refine ⟨_, rfl, _, rfl, p, _, dx, _, rfl, upd_same, T.lPut, T.nPut_k, (by show 1 < 1000; decide), ?_⟩
    refine hq _ ?_ (fr_mut (fr_mut (Fr.refl _ _)))
    rw [upd_same, put2 (by decide +kernel)]
    rfl
theorem okDrawInit (T : Tx K mg) : FnOk P w K mg base CX0 1 T.aDrawInit T.dDrawInit ["self", "a", "k"] (spDrawInit T) := by
  refine T.fDrawInit.ok scDrawInit (fun vs H Q E h => ?_) (fun cdv A outer s H vs Q E hr h => ?_)
  · obtain ⟨p, dx, u, v, rfl, _⟩ := h
    rfl
  · obtain ⟨p, dx, u, v, rfl, hp, hq⟩ := h
    refine ⟨_, (pss_cons (ps_fld (pv 0) (pv 1) rfl)
      (pss_one (ps_fld (pv 0) (pv 2) rfl))), ?_⟩
    refine ⟨_, rfl, _, rfl, p, _, dx, _, rfl, hp, T.lDraw, T.nDraw_a, (by show 0 < 1000; decide), ?_⟩
    refine ⟨_, rfl, _, rfl, p, _, dx, _, rfl, upd_same, T.lDraw, T.nDraw_k, (by show 1 < 1000; decide), ?_⟩
    refine hq _ ?_ (fr_mut (fr_mut (Fr.refl _ _)))
    rw [upd_same, put2 (by decide +kernel)]
    rfl
theorem okChangeInit (T : Tx K mg) : FnOk P w K mg base CX0 1 T.aChangeInit T.dChangeInit ["self", "a", "b"] (spChangeInit T) := by
  refine T.fChangeInit.ok scChangeInit (fun vs H Q E h => ?_) (fun cdv A outer s H vs Q E hr h => ?_)
  · obtain ⟨p, dx, u, v, rfl, _⟩ := h
    rfl
  · obtain ⟨p, dx, u, v, rfl, hp, hq⟩ := h
    refine ⟨_, (pss_cons (ps_fld (pv 0) (pv 1) rfl)
      (pss_one (ps_fld (pv 0) (pv 2) rfl))), ?_⟩
    refine ⟨_, rfl, _, rfl, p, _, dx, _, rfl, hp, T.lChange, T.nChange_a, (by show 0 < 1000; decide), ?_⟩
    refine ⟨_, rfl, _, rfl, p, _, dx, _, rfl, upd_same, T.lChange, T.nChange_b, (by show 1 < 1000; decide), ?_⟩
    refine hq _ ?_ (fr_mut (fr_mut (Fr.refl _ _)))
    rw [upd_same, put2 (by decide +kernel)]
    rfl
end
end Kp

namespace Kp
open PySem PySem.Spec PyProof.Rows L2 KpR
section
variable {P : Program} {w : World} {K : PySem.W.Frag} {mg : Str → Option Value} {base : Heap}
/-! ### isinstance of a deed -/
def D.cls (T : Tx K mg) : D → Addr
  | .pour _ _ => T.cPour
  | .put _ _ => T.cPut
  | .draw _ _ => T.cDraw
  | .change _ _ => T.cChange
def D.fst : D → Nat
  | .pour a _ => a
  | .put a _ => a
  | .draw a _ => a
  | .change a _ => a
def D.fs : D → List (Str × V)
  | .pour a b => f2s "a" (.int a) "b" (.int b)
  | .put a k => f2s "a" (.int a) "k" (.int k)
  | .draw a k => f2s "a" (.int a) "k" (.int k)
  | .change a b => f2s "a" (.int a) "b" (.int b)
theorem deed_at {T : Tx K mg} {H : Hp} {v : V} {d : D} (h : DeedAt T H v d) : ∃ p dx, v = .ref p ∧ H p = some (.ins (d.cls T) dx d.fs) := by
  obtain ⟨p, dx, rfl, h⟩ := h
  cases d <;> exact ⟨p, dx, rfl, h⟩
theorem cls_cls (T : Tx K mg) (d : D) : Cls K (d.cls T) := by
  cases d
  · exact T.lPour
  · exact T.lPut
  · exact T.lDraw
  · exact T.lChange
theorem no_a (T : Tx K mg) (d : D) : NoAttr K (d.cls T) "a" := by
  cases d
  · exact T.nPour_a
  · exact T.nPut_a
  · exact T.nDraw_a
  · exact T.nChange_a
theorem fs_a (d : D) : d.fs.lookup ("a" : Str) = some (.int d.fst) := by
  cases d <;> exact lk1
theorem ty_deed {T : Tx K mg} {H : Hp} {p dx : Addr} {d : D} (h : H p = some (.ins (d.cls T) dx d.fs)) : TyX K H (.ref p) (.ref (d.cls T)) := by
  refine .base ?_
  cases d
  · exact .ins h T.lPour T.yPour.ha T.yPour.hn T.yPour.ht T.yPour.hm
  · exact .ins h T.lPut T.yPut.ha T.yPut.hn T.yPut.ht T.yPut.hm
  · exact .ins h T.lDraw T.yDraw.ha T.yDraw.hn T.yDraw.ht T.yDraw.hm
  · exact .ins h T.lChange T.yChange.ha T.yChange.hn T.yChange.ht T.yChange.hm
def D.isPut : D → Bool
  | .put _ _ => true
  | _ => false
def D.isDraw : D → Bool
  | .draw _ _ => true
  | _ => false
def D.isPour : D → Bool
  | .pour _ _ => true
  | _ => false
def D.isChange : D → Bool
  | .change _ _ => true
  | _ => false
theorem is_put (T : Tx K mg) (d : D) : PySem.W.kitOne K (.ref (d.cls T)) (.ref T.cPut) = some d.isPut := by
  cases d
  · exact T.iPour_Put
  · exact T.iPut_Put
  · exact T.iDraw_Put
  · exact T.iChange_Put
theorem is_draw (T : Tx K mg) (d : D) : PySem.W.kitOne K (.ref (d.cls T)) (.ref T.cDraw) = some d.isDraw := by
  cases d
  · exact T.iPour_Draw
  · exact T.iPut_Draw
  · exact T.iDraw_Draw
  · exact T.iChange_Draw
theorem is_pour (T : Tx K mg) (d : D) : PySem.W.kitOne K (.ref (d.cls T)) (.ref T.cPour) = some d.isPour := by
  cases d
  · exact T.iPour_Pour
  · exact T.iPut_Pour
  · exact T.iDraw_Pour
  · exact T.iChange_Pour
theorem is_change (T : Tx K mg) (d : D) : PySem.W.kitOne K (.ref (d.cls T)) (.ref T.cChange) = some d.isChange := by
  cases d
  · exact T.iPour_Change
  · exact T.iPut_Change
  · exact T.iDraw_Change
  · exact T.iChange_Change
theorem okcheckdeed (T : Tx K mg) : FnOk P w K mg base CX0 2 T.acheckdeed T.dcheckdeed ["jars", "deed"] (spcheckdeed T) := by
  refine T.fcheckdeed.ok sccheckdeed (fun vs H Q E h => ?_) (fun cdv A outer s H vs Q E hr h => ?_)
  · obtain ⟨j, caps, v, d, rfl, _⟩ := h
    rfl
  · obtain ⟨j, caps, v, d, rfl, hJ, hD, ok, hq⟩ := h
    refine ⟨_, (pss_cons (ps_expr (pe_call (okcheckjar T) (hr.mono (by decide)) rfl T.gcheckjar T.fcheckjar.kp T.bcheckjar .nil pass0 (pa_cons (pv 0) (pa_cons (pe_fld (pv 1) rfl) pa_nil))))
      (pss_cons (ps_if (PW.pt (pw_or (pt_val (pe_callB call_isi rfl T.nisinstance (by decide +kernel) (pa_cons (pv 1) (pa_cons (pe_glob (v := .ref T.cPut) rfl T.mPut rfl) pa_nil)))) (pw_or1 (pt_val (pe_callB call_isi rfl T.nisinstance (by decide +kernel) (pa_cons (pv 1) (pa_cons (pe_glob (v := .ref T.cDraw) rfl T.mDraw rfl) pa_nil))))))) (pss_cons (ps_expr (pe_call (okcheckmuch T) (hr.mono (by decide)) rfl T.gcheckmuch T.fcheckmuch.kp T.bcheckmuch .nil pass0 (pa_cons pe_str (pa_cons (pe_fld (pv 1) rfl) pa_nil))))
      (pss_one ps_retN)) pss_nil)
      (pss_cons (ps_expr (pe_call (okcheckjar T) (hr.mono (by decide)) rfl T.gcheckjar T.fcheckjar.kp T.bcheckjar .nil pass0 (pa_cons (pv 0) (pa_cons (pe_fld (pv 1) rfl) pa_nil))))
      (pss_cons (ps_if (pt_cmpR op_eq (pe_fld (pv 1) rfl) (pe_fld (pv 1) rfl) (nomark _)) (pss_one ps_never) pss_nil)
      (pss_one (ps_if (PW.pt (pw_and (pt_val (pe_callB call_isi rfl T.nisinstance (by decide +kernel) (pa_cons (pv 1) (pa_cons (pe_glob (v := .ref T.cChange) rfl T.mChange rfl) pa_nil)))) (pw_and1 (pt_cmpR op_ne (pe_ix (r := rIxT K) ix_tup (pe_fld (pv 0) rfl) (pe_fld (pv 1) rfl) (fun _ _ => rfl)) (pe_ix (r := rIxT K) ix_tup (pe_fld (pv 0) rfl) (pe_fld (pv 1) rfl) (fun _ _ => rfl)) (nomark _))))) (pss_one ps_never) pss_nil)))))), ?_⟩
    obtain ⟨p, dx, rfl, hp⟩ := deed_at hD
    have ty := ty_deed hp
    have ha : d.fst < caps.length := by cases d <;> exact ok.1
    refine ⟨_, rfl, _, rfl, p, _, dx, _, _, rfl, hp, cls_cls T d, no_a T d, fs_a d, j, caps, d.fst, rfl, hJ, ha, ?_⟩
    obtain ⟨jx, t, e1, e2⟩ := hJ
    refine ⟨_, rfl, .ref p, .ref T.cPut, _, _, _, rfl, .own _, ty, is_put T d, _, rfl, ?_⟩
    cases d with
    | put a k =>
      refine ifT rfl (ifT rfl ?_)
      exact ⟨_, rfl, p, _, dx, _, _, rfl, hp, T.lPut, T.nPut_k, lk2 (by decide +kernel), "much", k, rfl, ok.2.1, ok.2.2, hq⟩
    | draw a k =>
      refine ifF rfl ⟨_, rfl, .ref p, .ref T.cDraw, _, _, _, rfl, .own _, ty, T.iDraw_Draw, _, rfl, ifT rfl ?_⟩
      exact ⟨_, rfl, p, _, dx, _, _, rfl, hp, T.lDraw, T.nDraw_k, lk2 (by decide +kernel), "much", k, rfl, ok.2.1, ok.2.2, hq⟩
    | pour a b =>
      refine ifF rfl ⟨_, rfl, .ref p, .ref T.cDraw, _, _, _, rfl, .own _, ty, T.iPour_Draw, _, rfl, ifF rfl ?_⟩
      refine ⟨_, rfl, _, rfl, p, _, dx, _, _, rfl, hp, T.lPour, T.nPour_b, lk2 (by decide +kernel), j, caps, b, rfl, ⟨jx, t, e1, e2⟩, ok.2.1, ?_⟩
      refine ⟨_, rfl, p, _, dx, _, _, rfl, hp, T.lPour, T.nPour_a, lk1, _, rfl, p, _, dx, _, _, rfl, hp, T.lPour, T.nPour_b, lk2 (by decide +kernel), rfl, _, rfl, ifF (decide_eq_false fun z => ok.2.2 (by injection z with z; omega)) ?_⟩
      exact ⟨_, rfl, .ref p, .ref T.cChange, _, _, _, rfl, .own _, ty, T.iPour_Change, _, rfl, ifF rfl (ifF rfl hq)⟩
    | change a b =>
      refine ifF rfl ⟨_, rfl, .ref p, .ref T.cDraw, _, _, _, rfl, .own _, ty, T.iChange_Draw, _, rfl, ifF rfl ?_⟩
      refine ⟨_, rfl, _, rfl, p, _, dx, _, _, rfl, hp, T.lChange, T.nChange_b, lk2 (by decide +kernel), j, caps, b, rfl, ⟨jx, t, e1, e2⟩, ok.2.1, ?_⟩
      refine ⟨_, rfl, p, _, dx, _, _, rfl, hp, T.lChange, T.nChange_a, lk1, _, rfl, p, _, dx, _, _, rfl, hp, T.lChange, T.nChange_b, lk2 (by decide +kernel), rfl, _, rfl, ifF (decide_eq_false fun z => ok.2.2.1 (by injection z with z; omega)) ?_⟩
      refine ⟨_, rfl, .ref p, .ref T.cChange, _, _, _, rfl, .own _, ty, T.iChange_Change, _, rfl, ifT rfl ?_⟩
      refine ⟨_, rfl, j, _, jx, _, _, rfl, e1, T.lJars, T.nJars_sizes, lk1, _, rfl, p, _, dx, _, _, rfl, hp, T.lChange, T.nChange_a, lk1, t, _, _, _, rfl, rfl, SqT.of e2, vi_at ok.1, ?_⟩
      refine ⟨_, rfl, j, _, jx, _, _, rfl, e1, T.lJars, T.nJars_sizes, lk1, _, rfl, p, _, dx, _, _, rfl, hp, T.lChange, T.nChange_b, lk2 (by decide +kernel), t, _, _, _, rfl, rfl, SqT.of e2, vi_at ok.2.1, ?_⟩
      exact ⟨rfl, _, rfl, iteNS (congrArg V.int ok.2.2.2) hq⟩
theorem okJarsInit (T : Tx K mg) : FnOk P w K mg base CX0 2 T.aJarsInit T.dJarsInit ["self", "sizes"] (spJarsInit T) := by
  refine T.fJarsInit.ok scJarsInit (fun vs H Q E h => ?_) (fun cdv A outer s H vs Q E hr h => ?_)
  · obtain ⟨p, dx, a, caps, rfl, _⟩ := h
    rfl
  · obtain ⟨p, dx, a, caps, rfl, hp, hS, hC, hq⟩ := h
    have c1 := hC.l1
    have c6 := hC.l6
    refine ⟨_, (pss_cons (ps_if (pt_not (pt_chain op_le op_le pe_int (pe_callB call_len_seq rfl T.nlen PySem.boot_len (pa_cons (pv 1) pa_nil)) (pe_glob (v := .int 6) rfl T.cMOSTJARS ⟨_, rfl⟩))) (pss_one ps_never) pss_nil)
      (pss_cons (ps_for PassesOwn.never rfl (pi_list (pv 1)) (pg_name (i := 2) scJarsInit.nd rfl (by first | exact Or.inl rfl | exact Or.inr rfl)) (pss_one (ps_expr (pe_call (okcheckmuch T) (hr.mono (by decide)) rfl T.gcheckmuch T.fcheckmuch.kp T.bcheckmuch .nil pass0 (pa_cons pe_str (pa_cons (pv 2) pa_nil))))))
      (pss_one (ps_fld (pv 0) (pe_callTy call_tuple_of rfl T.ntuple (by decide +kernel) (pa_cons (pv 1) pa_nil)) rfl)))), ?_⟩
    refine ⟨_, rfl, a, _, rfl, .inl hS, 1, _, rfl, rfl, _, rfl, ifT (decide_eq_true (by rw [List.length_map]; omega)) ?_⟩
    refine ⟨_, _, rfl, rfl, _, rfl, iteNS (by rw [List.length_map]; omega) ?_⟩
    refine ⟨_, rfl, a, rfl, ⟨_, hS⟩, for_list (K := K) (a := a) (xs := vi caps) (fun i σ H' => ∃ v : Option V, σ = [some (.ref p), some (.ref a), v] ∧ H' = H) ⟨none, rfl, rfl⟩ (fun i σ H' _ ⟨_, _, e⟩ => by rw [e]; exact hS) ?_ ?_⟩
    · rintro i y σ H' hi ⟨v, rfl, rfl⟩
      obtain ⟨z, hz, rfl⟩ := vi_get hi
      have lt : i < caps.length := (List.getElem?_eq_some_iff.mp hz).1
      have ez := at0_of hz
      refine ⟨_, rfl, "size", z, rfl, ?_, ?_, some (.int z), rfl, rfl⟩
      · rw [← ez]; exact hC.lo i lt
      · rw [← ez]; exact hC.hi i lt
    · rintro σ H' ⟨v, rfl, rfl⟩
      refine ⟨_, rfl, a, _, rfl, .inl ⟨hS, fun t ht => ?_⟩⟩
      have n : p ≠ t := ne_of_none hp ht
      refine ⟨_, rfl, p, _, dx, _, rfl, (by rw [upd_ne n]; exact hp), T.lJars, T.nJars_sizes, (by show 0 < 1000; decide), ?_⟩
      refine hq _ ⟨dx, t, upd_same, by rw [upd_ne n.symm]; exact upd_same⟩ (fr_mut (fr_new (Fr.refl _ _) ht))
theorem okRowInit (T : Tx K mg) : FnOk P w K mg base CX0 3 T.aRowInit T.dRowInit ["self", "jars", "deeds"] (spRowInit T) := by
  refine T.fRowInit.ok scRowInit (fun vs H Q E h => ?_) (fun cdv A outer s H vs Q E hr h => ?_)
  · obtain ⟨p, dx, j, a, caps, us, ds, rfl, _⟩ := h
    rfl
  · obtain ⟨p, dx, j, a, caps, us, ds, rfl, hp, hJ, hS, hA, hl, ok, hq⟩ := h
    refine ⟨_, (pss_cons (ps_if (pt_cmpR op_gt (pe_callB call_len_seq rfl T.nlen PySem.boot_len (pa_cons (pv 2) pa_nil)) (pe_glob (v := .int 20) rfl T.cMOSTDEEDS ⟨_, rfl⟩) (nomark _)) (pss_one ps_never) pss_nil)
      (pss_cons (ps_for PassesOwn.never rfl (pi_list (pv 2)) (pg_name (i := 3) scRowInit.nd rfl (by first | exact Or.inl rfl | exact Or.inr rfl)) (pss_one (ps_expr (pe_call (okcheckdeed T) (hr.mono (by decide)) rfl T.gcheckdeed T.fcheckdeed.kp T.bcheckdeed .nil pass0 (pa_cons (pv 1) (pa_cons (pv 3) pa_nil))))))
      (pss_cons (ps_fld (pv 0) (pv 1) rfl)
      (pss_one (ps_fld (pv 0) (pe_callTy call_tuple_of rfl T.ntuple (by decide +kernel) (pa_cons (pv 2) pa_nil)) rfl))))), ?_⟩
    refine ⟨_, rfl, a, _, rfl, .inl (SqL.of hS), _, _, rfl, rfl, _, rfl, ifF (decide_eq_false (by rw [hA.len]; omega)) ?_⟩
    refine ⟨_, rfl, a, rfl, ⟨_, SqL.of hS⟩, for_list (K := K) (a := a) (xs := us) (fun i σ H' => ∃ v : Option V, σ = [some (.ref p), some (.ref j), some (.ref a), v] ∧ H' = H) ⟨none, rfl, rfl⟩ (fun i σ H' _ ⟨_, _, e⟩ => by rw [e]; exact SqL.of hS) ?_ ?_⟩
    · rintro i y σ H' hi ⟨v, rfl, rfl⟩
      obtain ⟨d, hd, hv⟩ := hA.get hi
      exact ⟨_, rfl, _, rfl, j, caps, y, d, rfl, hJ, hv, ok d (List.mem_of_getElem? hd), some y, rfl, rfl⟩
    · rintro σ H' ⟨v, rfl, rfl⟩
      refine ⟨_, rfl, _, rfl, p, _, dx, _, rfl, hp, T.lRow, T.nRow_jars, (by show 0 < 1000; decide), ?_⟩
      have f1 : Fr p H' (upd H' p (.ins T.cRow dx (putF "jars" (.ref j) []))) := fr_mut (Fr.refl _ _)
      have na : a ≠ p := ne_of hS hp (by intro z; cases z)
      refine ⟨_, rfl, a, _, rfl, .inl ⟨f1.sqL na (SqL.of hS), fun t ht => ?_⟩⟩
      have n : p ≠ t := fun z => by rw [← z, upd_same] at ht; cases ht
      have ht0 : H' t = none := fr_free f1 n.symm ht
      refine ⟨_, rfl, p, _, dx, _, rfl, (by rw [upd_ne n]; exact upd_same), T.lRow, T.nRow_deeds, (by show 1 < 1000; decide), ?_⟩
      have fr : Fr p H' (upd (upd (upd H' p (.ins T.cRow dx (putF "jars" (.ref j) []))) t (.tup us)) p (.ins T.cRow dx (putF "deeds" (.ref t) (putF "jars" (.ref j) [])))) := fr_mut (fr_new f1 ht0)
      refine hq _ ⟨dx, j, t, us, ?_, ?_, ?_, ?_⟩ fr
      · rw [upd_same, put2 (by decide +kernel)]
        rfl
      · exact hJ.fr fr hp bl_i
      · rw [upd_ne n.symm]; exact upd_same
      · exact A2.mono (fun _ _ q => q.fr fr hp bl_i) hA
end
end Kp

namespace Kp
open PySem PySem.Spec PyProof.Rows L2 KpR
section
variable {P : Program} {w : World} {K : PySem.W.Frag} {mg : Str → Option Value} {base : Heap}
def SqA (K : PySem.W.Frag) (H : Hp) (a : Addr) (xs : List V) : Prop := SqL K H a xs ∨ SqT K H a xs
theorem sameA {K : PySem.W.Frag} {H H' : Hp} {a : Addr} {xs : List V} (e : Same H H') (h : SqA K H a xs) : SqA K H' a xs := h.elim (fun h => .inl (e.seq h)) (fun h => .inr (sameT e h))
theorem rix_any {K : PySem.W.Frag} {H : Hp} {a : Addr} {xs : List V} {i : Int} {v : V} {Q : VK} (h : SqA K H a xs) (e : atI xs i = some v) (q : Q v H) : rIx K (.ref a) (.int i) H Q :=
  h.elim (fun h => .inl ⟨a, xs, i, v, rfl, rfl, h, e, q⟩) (fun h => .inr (.inl ⟨a, xs, i, v, rfl, rfl, h, e, q⟩))
theorem mulP {p : Int} (h1 : 1 ≤ p) (h2 : p < 2 ^ 62) : -(2 ^ 64) < p ∧ p < 2 ^ 64 := ⟨by omega, by omega⟩
theorem vi_set {l : List Int} {i : Nat} {z : Int} : (vi l).set i (.int z) = vi (l.set i z) := (List.map_set ..).symm
theorem ixN_nat {n i : Nat} (h : i < n) : ixN n (i : Int) = some i := by
  have e : atI (List.range n) (i : Int) = some i := atI_nat (by simp [h])
  unfold atI at e
  cases z : ixN (List.range n).length (i : Int) with
  | none => rw [z] at e; cases e
  | some j =>
    rw [z] at e
    have e2 : (List.range n)[j]? = some i := e
    have hj := (List.getElem?_eq_some_iff.mp e2).2
    rw [List.getElem_range] at hj
    subst hj
    simpa using z
theorem ixN_last {n : Nat} : ixN (n + 1) (-1) = some n := by
  have e : atI (List.range n ++ [n]) (-1) = some n := atI_last _ _
  unfold atI at e
  have hl : (List.range n ++ [n]).length = n + 1 := by simp
  rw [hl] at e
  cases z : ixN (n + 1) (-1) with
  | none => rw [z] at e; cases e
  | some j =>
    rw [z, ← List.range_succ] at e
    have e2 : (List.range (n + 1))[j]? = some n := e
    have hj := (List.getElem?_eq_some_iff.mp e2).2
    rw [List.getElem_range] at hj
    exact congrArg some hj
theorem chk_parts {caps st : List Int} {p : Int} (h : p < 1) : chk caps st p = some (.count "parts" p) := by unfold chk; rw [if_pos h]
theorem chk_len {caps st : List Int} {p : Int} (h : ¬ p < 1) (hl : ¬ st.length = caps.length) : chk caps st p = some (.count "start" st.length) := by unfold chk; rw [if_neg h, if_neg hl]
theorem chk_jar {caps st : List Int} {p : Int} {i : Nat} (h : ¬ p < 1) (hl : st.length = caps.length) (hi : i < caps.length) (hb : outJ caps st p i = true) (no : ∀ k, k < i → outJ caps st p k = false) : chk caps st p = some (.jar i) := by
  unfold chk
  rw [if_neg h, if_pos hl, List.find?_range_eq_some.mpr ⟨hb, by simpa using hi, fun k hk => by rw [no k hk]; rfl⟩]
  rfl
theorem chk_ok {caps st : List Int} {p : Int} (h : ¬ p < 1) (hl : st.length = caps.length) (no : ∀ k, k < caps.length → outJ caps st p k = false) : chk caps st p = none := by
  unfold chk
  rw [if_neg h, if_pos hl, List.find?_range_eq_none.mpr (fun k hk => by rw [no k hk]; rfl)]
  rfl
theorem outJ_no {caps st : List Int} {p : Int} {i : Nat} : outJ caps st p i = false ↔ 0 ≤ at0 st i ∧ at0 st i ≤ at0 caps i * p := by
  unfold outJ
  simp
theorem chk_none {caps st : List Int} {p : Int} (h : chk caps st p = none) : 1 ≤ p ∧ Stand caps p st := by
  unfold chk at h
  split at h
  · cases h
  · rename_i h1
    split at h
    · rename_i h2
      rw [Option.map_eq_none_iff, List.find?_range_eq_none] at h
      have z : ∀ i, i < caps.length → 0 ≤ at0 st i ∧ at0 st i ≤ at0 caps i * p := fun i hi => outJ_no.mp (by have := h i hi; simpa using this)
      exact ⟨by omega, ⟨h2, fun i hi => (z i hi).1, fun i hi => (z i hi).2⟩⟩
    · cases h
theorem iteNF {c : Prop} [Decidable c] {A B : Prop} (hc : ¬ c) (h : A) : if (!decide c) = true then A else B := by
  rw [decide_eq_false hc]
  exact h
theorem okcheckstart (T : Tx K mg) : FnOk P w K mg base (L2.CX P w) 3 T.acheckstart T.dcheckstart ["jars", "start", "parts"] (spcheckstart T) := by
  refine T.fcheckstart.okX sccheckstart (fun vs H Q E h => ?_) (fun cdv A outer s H vs Q E hr h => ?_)
  · obtain ⟨j, a, caps, st, p, rfl, _⟩ := h
    rfl
  · obtain ⟨j, a, caps, st, p, rfl, hJ, hS, p2, hq, hx⟩ := h
    refine ⟨_, (pss_cons (ps_if (pt_cmpR op_lt (pv 2) pe_int (nomark _)) (pss_one (ps_raise rfl (takes_of rfl rfl rfl rfl) (pmk_oex T.oBadCount T.iBadCount T.tBadCount (okBadCountInit T) (hr.mono (by decide)) T.bBadCountInit .nil pass0 rfl T.mBadCount (pa_cons pe_str (pa_cons (pv 2) pa_nil))))) pss_nil)
      (pss_cons (ps_if (pt_cmpR op_ne (pe_callB call_len_seq rfl T.nlen PySem.boot_len (pa_cons (pv 1) pa_nil)) (pe_callB call_len_seq rfl T.nlen PySem.boot_len (pa_cons (pe_fld (pv 0) rfl) pa_nil)) (nomark _)) (pss_one (ps_raise rfl (takes_of rfl rfl rfl rfl) (pmk_oex T.oBadCount T.iBadCount T.tBadCount (okBadCountInit T) (hr.mono (by decide)) T.bBadCountInit .nil pass0 rfl T.mBadCount (pa_cons pe_str (pa_cons (pe_callB call_len_seq rfl T.nlen PySem.boot_len (pa_cons (pv 1) pa_nil)) pa_nil))))) pss_nil)
      (pss_one (ps_for (passes_of rfl) rfl (pi_enumT rfl T.nenumerate (pa_cons (pe_fld (pv 0) rfl) pa_nil)) (pg_tup rfl (pgs_cons (pg_name (i := 3) sccheckstart.nd rfl (by first | exact Or.inl rfl | exact Or.inr rfl)) (pgs_cons (pg_name (i := 4) sccheckstart.nd rfl (by first | exact Or.inl rfl | exact Or.inr rfl)) pgs_nil))) (pss_one (ps_if (pt_not (pt_chain op_le op_le pe_int (pe_ix (r := rIx K) ix_seq (pv 1) (pv 3) (fun _ _ => rfl)) (pe_op op_mul (pv 4) (pv 2)))) (pss_one (ps_raise rfl (takes_of rfl rfl rfl rfl) (pmk_oex T.oBadStart T.iBadStart T.tBadStart (okBadStartInit T) (hr.mono (by decide)) T.bBadStartInit .nil pass0 rfl T.mBadStart (pa_cons (pv 3) pa_nil)))) pss_nil)))))), ?_⟩
    obtain ⟨jx, t, e1, e2⟩ := hJ
    refine ⟨_, rfl, _, _, rfl, rfl, _, rfl, ifD (fun p1 => ?_) (fun p1 => ?_)⟩
    · exact ⟨_, rfl, (by show 2 ≤ 1000; decide), x2_made (hx _ (chk_parts p1))⟩
    refine ⟨_, rfl, a, _, rfl, hS, _, rfl, j, _, jx, _, _, rfl, e1, T.lJars, T.nJars_sizes, lk1, t, _, rfl, .inr (SqT.of e2), rfl, _, rfl, ?_⟩
    have ls : (vi st).length = st.length := List.length_map ..
    have lc : (vi caps).length = caps.length := List.length_map ..
    by_cases hl : st.length = caps.length
    rotate_left
    · refine iteNF (by rw [ls, lc]; intro z; exact hl (by injection z with z; omega)) ?_
      refine ⟨_, rfl, a, _, rfl, hS, (by show 2 ≤ 1000; decide), x2_made ?_⟩
      have := hx _ (chk_len p1 hl)
      rw [ls]
      exact this
    refine iteNS (by rw [ls, lc, hl]) ?_
    refine ⟨_, rfl, j, _, jx, _, _, rfl, e1, T.lJars, T.nJars_sizes, lk1, t, _, rfl, SqT.of e2, ?_⟩
    refine for_enumT (K := K) (a := t) (xs := vi caps) (fun i σ H' => ∃ u v : Option V, σ = [some (.ref j), some (.ref a), some (.int p), u, v] ∧ (∀ k, k < i → outJ caps st p k = false) ∧ Same H H') ⟨none, none, rfl, (fun k hk => absurd hk (Nat.not_lt_zero _)), Same.refl _⟩ (fun i σ H' _ ⟨_, _, _, _, e⟩ => sameT e (SqT.of e2)) ?_ ?_
    · rintro i y N σ H' hi ⟨u, v, rfl, no, sm⟩ hN
      obtain ⟨z, hz, rfl⟩ := vi_get hi
      have lt : i < caps.length := (List.getElem?_eq_some_iff.mp hz).1
      have ez := at0_of hz
      have s2 : Same H (upd H' N (.tup [.int (i : Nat), .int z])) := sm.trans (same_new hN)
      refine ⟨N, _, rfl, SqT.of upd_same, rfl, _, _, rfl, _, _, rfl, rfl, ?_⟩
      have l2 : i < st.length := by rw [hl]; exact lt
      have bad : outJ caps st p i = true → rE T (upd H' N (.tup [.int (i : Nat), .int z])) E (.jar i) := fun hb => (hx _ (chk_jar p1 hl lt hb no)).same s2
      refine ⟨_, rfl, _, rfl, rix_any (sameA s2 hS) (vi_at l2) ⟨_, _, rfl, rfl, _, rfl, ?_⟩⟩
      by_cases g1 : 0 ≤ at0 st i
      · refine ifT (decide_eq_true g1) ?_
        refine ⟨_, rfl, _, rfl, _, _, rfl, rfl, .inr (mulP (by omega) p2), _, _, rfl, rfl, _, rfl, ?_⟩
        by_cases g2 : at0 st i ≤ z * p
        · refine iteNS g2 ?_
          refine ⟨_, _, rfl, fun k hk => ?_, s2⟩
          rcases Nat.lt_or_ge k i with h | h
          · exact no k h
          · obtain rfl : k = i := by omega
            exact outJ_no.mpr ⟨g1, by rw [ez]; exact g2⟩
        · refine iteNF g2 ?_
          refine ⟨_, rfl, (by show 1 ≤ 1000; decide), x1_made (bad ?_)⟩
          cases hb : outJ caps st p i with
          | true => rfl
          | false => exact absurd (outJ_no.mp hb).2 (by rw [ez]; exact g2)
      · refine ifF (decide_eq_false g1) ?_
        refine ⟨_, rfl, ifT rfl ⟨_, rfl, (by show 1 ≤ 1000; decide), x1_made (bad ?_)⟩⟩
        cases hb : outJ caps st p i with
        | true => rfl
        | false => exact absurd (outJ_no.mp hb).1 g1
    · rintro σ H' ⟨u, v, rfl, no, sm⟩
      rw [lc] at no
      exact hq (chk_ok p1 hl no) _ sm
theorem okbehinddeed (T : Tx K mg) : FnOk P w K mg base CX0 1 T.abehinddeed T.dbehinddeed ["jars", "deed", "stand", "parts"] (spbehinddeed T) := by
  refine T.fbehinddeed.ok scbehinddeed (fun vs H Q E h => ?_) (fun cdv A outer s H vs Q E hr h => ?_)
  · obtain ⟨j, a, v, d, caps, st, p, rfl, _⟩ := h
    rfl
  · obtain ⟨j, a, v, d, caps, st, p, rfl, hJ, hD, ok, hS, p1, p2, hl, hq⟩ := h
    refine ⟨_, (pss_cons (ps_set (i := 4) scbehinddeed.nd rfl (by first | exact Or.inl rfl | exact Or.inr rfl) (pe_callTy call_list_of rfl T.nlist (by decide +kernel) (pa_cons (pv 2) pa_nil)))
      (pss_cons (ps_set (i := 5) scbehinddeed.nd rfl (by first | exact Or.inl rfl | exact Or.inr rfl) (pe_fld (pv 1) rfl))
      (pss_cons (ps_if (pt_val (pe_callB call_isi rfl T.nisinstance (by decide +kernel) (pa_cons (pv 1) (pa_cons (pe_glob (v := .ref T.cPut) rfl T.mPut rfl) pa_nil)))) (pss_cons (ps_asg (pe_callB (call_min2 rfl) rfl T.nmin (by decide +kernel) (pa_cons (pe_op op_add (pe_ix (r := rIxL K) ix_list (pv 2) (pv 5) (fun _ _ => rfl)) (pe_op op_mul (pe_fld (pv 1) rfl) (pv 3))) (pa_cons (pe_op op_mul (pe_ix (r := rIxT K) ix_tup (pe_fld (pv 0) rfl) (pv 5) (fun _ _ => rfl)) (pv 3)) pa_nil))) (pg_sub (pv 4) (pv 5) set_list))
      (pss_one (ps_ret (pv 4)))) pss_nil)
      (pss_cons (ps_if (pt_val (pe_callB call_isi rfl T.nisinstance (by decide +kernel) (pa_cons (pv 1) (pa_cons (pe_glob (v := .ref T.cDraw) rfl T.mDraw rfl) pa_nil)))) (pss_cons (ps_asg (pe_callB (call_max2 rfl) rfl T.nmax (by decide +kernel) (pa_cons (pe_op op_sub (pe_ix (r := rIxL K) ix_list (pv 2) (pv 5) (fun _ _ => rfl)) (pe_op op_mul (pe_fld (pv 1) rfl) (pv 3))) (pa_cons pe_int pa_nil))) (pg_sub (pv 4) (pv 5) set_list))
      (pss_one (ps_ret (pv 4)))) pss_nil)
      (pss_cons (ps_set (i := 6) scbehinddeed.nd rfl (by first | exact Or.inl rfl | exact Or.inr rfl) (pe_fld (pv 1) rfl))
      (pss_cons (ps_if (pt_val (pe_callB call_isi rfl T.nisinstance (by decide +kernel) (pa_cons (pv 1) (pa_cons (pe_glob (v := .ref T.cPour) rfl T.mPour rfl) pa_nil)))) (pss_cons (ps_set (i := 7) scbehinddeed.nd rfl (by first | exact Or.inl rfl | exact Or.inr rfl) (pe_callB (call_min2 rfl) rfl T.nmin (by decide +kernel) (pa_cons (pe_ix (r := rIxL K) ix_list (pv 2) (pv 5) (fun _ _ => rfl)) (pa_cons (pe_op op_sub (pe_op op_mul (pe_ix (r := rIxT K) ix_tup (pe_fld (pv 0) rfl) (pv 6) (fun _ _ => rfl)) (pv 3)) (pe_ix (r := rIxL K) ix_list (pv 2) (pv 6) (fun _ _ => rfl))) pa_nil))))
      (pss_cons (ps_asg (pe_op op_sub (pe_ix (r := rIxL K) ix_list (pv 2) (pv 5) (fun _ _ => rfl)) (pv 7)) (pg_sub (pv 4) (pv 5) set_list))
      (pss_cons (ps_asg (pe_op op_add (pe_ix (r := rIxL K) ix_list (pv 2) (pv 6) (fun _ _ => rfl)) (pv 7)) (pg_sub (pv 4) (pv 6) set_list))
      (pss_one (ps_ret (pv 4)))))) pss_nil)
      (pss_cons (ps_asg (pe_ix (r := rIxL K) ix_list (pv 2) (pv 6) (fun _ _ => rfl)) (pg_sub (pv 4) (pv 5) set_list))
      (pss_cons (ps_asg (pe_ix (r := rIxL K) ix_list (pv 2) (pv 5) (fun _ _ => rfl)) (pg_sub (pv 4) (pv 6) set_list))
      (pss_one (ps_ret (pv 4))))))))))), ?_⟩
    obtain ⟨q, dx, rfl, hp⟩ := deed_at hD
    have ha : d.fst < caps.length := by cases d <;> exact ok.1
    refine ⟨_, rfl, a, _, rfl, .inl hS, fun l hn => ?_⟩
    have s1 : Same H (upd H l (.lst (vi st))) := same_new hn
    have hp1 := s1 _ _ hp
    have hS1 := s1.seq hS
    obtain ⟨jx, t, e1, e2⟩ := hJ.same s1
    have ty := ty_deed hp1
    refine ⟨_, rfl, q, _, dx, _, _, rfl, hp1, cls_cls T d, no_a T d, fs_a d, ?_⟩
    refine ⟨_, rfl, .ref q, .ref T.cPut, _, _, _, rfl, .own _, ty, is_put T d, _, rfl, ?_⟩
    have l2 : d.fst < st.length := by rw [hl]; exact ha
    cases d with
    | put x k =>
      refine ifT rfl ?_
      refine ⟨_, rfl, _, rfl, a, _, _, _, rfl, rfl, hS1, vi_at l2, _, rfl, q, _, dx, _, _, rfl, hp1, T.lPut, T.nPut_k, lk2 (by decide +kernel), _, rfl, _, _, rfl, rfl, .inr (mulP p1 p2), _, _, rfl, rfl, ?_⟩
      refine ⟨_, rfl, j, _, jx, _, _, rfl, e1, T.lJars, T.nJars_sizes, lk1, _, rfl, t, _, _, _, rfl, rfl, SqT.of e2, vi_at ha, _, rfl, _, _, rfl, rfl, .inr (mulP p1 p2), _, _, rfl, ?_⟩
      refine ⟨_, rfl, _, rfl, l, _, _, x, rfl, rfl, upd_same, ixN_nat (by rw [List.length_map]; exact l2), _, rfl, ?_⟩
      refine hq _ l hn ?_ (same_mut s1 hn)
      rw [upd_same, vi_set]
      rfl
    | draw x k =>
      refine ifF rfl ⟨_, rfl, .ref q, .ref T.cDraw, _, _, _, rfl, .own _, ty, T.iDraw_Draw, _, rfl, ifT rfl ?_⟩
      refine ⟨_, rfl, _, rfl, a, _, _, _, rfl, rfl, hS1, vi_at l2, _, rfl, q, _, dx, _, _, rfl, hp1, T.lDraw, T.nDraw_k, lk2 (by decide +kernel), _, rfl, _, _, rfl, rfl, .inr (mulP p1 p2), _, _, rfl, rfl, ?_⟩
      refine ⟨_, _, rfl, ?_⟩
      refine ⟨_, rfl, _, rfl, l, _, _, x, rfl, rfl, upd_same, ixN_nat (by rw [List.length_map]; exact l2), _, rfl, ?_⟩
      refine hq _ l hn ?_ (same_mut s1 hn)
      rw [upd_same, vi_set]
      rfl
    | pour x b =>
      have lb : b < st.length := by rw [hl]; exact ok.2.1
      refine ifF rfl ⟨_, rfl, .ref q, .ref T.cDraw, _, _, _, rfl, .own _, ty, T.iPour_Draw, _, rfl, ifF rfl ?_⟩
      refine ⟨_, rfl, q, _, dx, _, _, rfl, hp1, T.lPour, T.nPour_b, lk2 (by decide +kernel), ?_⟩
      refine ⟨_, rfl, .ref q, .ref T.cPour, _, _, _, rfl, .own _, ty, T.iPour_Pour, _, rfl, ifT rfl ?_⟩
      refine ⟨_, rfl, _, rfl, a, _, _, _, rfl, rfl, hS1, vi_at l2, _, rfl, j, _, jx, _, _, rfl, e1, T.lJars, T.nJars_sizes, lk1, ?_⟩
      refine ⟨_, rfl, t, _, _, _, rfl, rfl, SqT.of e2, vi_at ok.2.1, _, rfl, _, _, rfl, rfl, .inr (mulP p1 p2), _, rfl, _, rfl, a, _, _, _, rfl, rfl, hS1, vi_at lb, _, _, rfl, rfl, _, _, rfl, ?_⟩
      refine ⟨_, rfl, _, rfl, a, _, _, _, rfl, rfl, hS1, vi_at l2, _, rfl, _, _, rfl, rfl, _, rfl, _, rfl, l, _, _, x, rfl, rfl, upd_same, ixN_nat (by rw [List.length_map]; exact l2), ?_⟩
      have hS2 := (same_mut (o := .lst ((vi st).set x (.int (at0 st x - (if at0 caps b * p - at0 st b < at0 st x then at0 caps b * p - at0 st b else at0 st x))))) s1 hn).seq hS
      refine ⟨_, rfl, _, rfl, a, _, _, _, rfl, rfl, hS2, vi_at lb, _, rfl, _, _, rfl, rfl, _, rfl, _, rfl, l, _, _, b, rfl, rfl, upd_same, ixN_nat (by rw [List.length_set, List.length_map]; exact lb), _, rfl, ?_⟩
      refine hq _ l hn ?_ (same_mut (same_mut s1 hn) hn)
      rw [upd_same, vi_set, vi_set]
      rfl
    | change x b =>
      have lb : b < st.length := by rw [hl]; exact ok.2.1
      refine ifF rfl ⟨_, rfl, .ref q, .ref T.cDraw, _, _, _, rfl, .own _, ty, T.iChange_Draw, _, rfl, ifF rfl ?_⟩
      refine ⟨_, rfl, q, _, dx, _, _, rfl, hp1, T.lChange, T.nChange_b, lk2 (by decide +kernel), ?_⟩
      refine ⟨_, rfl, .ref q, .ref T.cPour, _, _, _, rfl, .own _, ty, T.iChange_Pour, _, rfl, ifF rfl ?_⟩
      refine ⟨_, rfl, _, rfl, a, _, _, _, rfl, rfl, hS1, vi_at lb, _, rfl, _, rfl, l, _, _, x, rfl, rfl, upd_same, ixN_nat (by rw [List.length_map]; exact l2), ?_⟩
      have hS2 := (same_mut (o := .lst ((vi st).set x (.int (at0 st b)))) s1 hn).seq hS
      refine ⟨_, rfl, _, rfl, a, _, _, _, rfl, rfl, hS2, vi_at l2, _, rfl, _, rfl, l, _, _, b, rfl, rfl, upd_same, ixN_nat (by rw [List.length_set, List.length_map]; exact lb), _, rfl, ?_⟩
      refine hq _ l hn ?_ (same_mut (same_mut s1 hn) hn)
      rw [upd_same, vi_set, vi_set]
      rfl
theorem okbehindround (T : Tx K mg) : FnOk P w K mg base CX0 2 T.abehindround T.dbehindround ["row", "stand", "parts"] (spbehindround T) := by
  refine T.fbehindround.ok scbehindround (fun vs H Q E h => ?_) (fun cdv A outer s H vs Q E hr h => ?_)
  · obtain ⟨r, a, ds, caps, st, p, rfl, _⟩ := h
    rfl
  · obtain ⟨r, a, ds, caps, st, p, rfl, hR, ok, hS, p1, p2, hl, hq⟩ := h
    refine ⟨_, (pss_cons (ps_set (i := 3) scbehindround.nd rfl (by first | exact Or.inl rfl | exact Or.inr rfl) (pe_callTy call_list_of rfl T.nlist (by decide +kernel) (pa_cons (pv 1) pa_nil)))
      (pss_cons (ps_for PassesOwn.never rfl (pi_tup (pe_fld (pv 0) rfl)) (pg_name (i := 4) scbehindround.nd rfl (by first | exact Or.inl rfl | exact Or.inr rfl)) (pss_one (ps_set (i := 3) scbehindround.nd rfl (by first | exact Or.inl rfl | exact Or.inr rfl) (pe_call (okbehinddeed T) (hr.mono (by decide)) rfl T.gbehinddeed T.fbehinddeed.kp T.bbehinddeed .nil pass0 (pa_cons (pe_fld (pv 0) rfl) (pa_cons (pv 4) (pa_cons (pv 3) (pa_cons (pv 2) pa_nil))))))))
      (pss_one (ps_ret (pv 3))))), ?_⟩
    refine ⟨_, rfl, a, _, rfl, .inl hS, fun l hn => ?_⟩
    have s1 : Same H (upd H l (.lst (vi st))) := same_new hn
    obtain ⟨rx, j, t, us, r1, r2, r3, r4⟩ := id hR
    refine ⟨_, rfl, r, _, rx, _, _, rfl, s1 _ _ r1, T.lRow, T.nRow_deeds, lk2 (by decide +kernel), t, rfl, ⟨_, SqT.of (s1 _ _ r3)⟩, ?_⟩
    refine for_tup (K := K) (a := t) (xs := us) (fun i σ H' => ∃ (m : Addr) (v : Option V), σ = [some (.ref r), some (.ref a), some (.int p), some (.ref m), v] ∧ H m = none ∧ H' m = some (.lst (vi (run caps p (ds.take i) st))) ∧ Same H H')
      ⟨l, none, rfl, hn, by rw [upd_same]; rfl, s1⟩ (fun i σ H' _ ⟨_, _, _, _, _, e⟩ => sameT e (SqT.of r3)) ?_ ?_
    · rintro i y σ H' hi ⟨m, v, rfl, hm, hm', sm⟩
      obtain ⟨d, hd, hv⟩ := r4.get hi
      refine ⟨_, rfl, r, _, rx, _, _, rfl, sm _ _ r1, T.lRow, T.nRow_jars, lk1, _, rfl, _, rfl, _, rfl, ?_⟩
      refine ⟨j, m, y, d, caps, _, p, rfl, r2.same sm, hv.same sm, ok d (List.mem_of_getElem? hd), SqL.of hm', p1, p2, ?_, fun H2 q q1 q2 s2 => ?_⟩
      · rw [run_len]
        exact hl
      · refine ⟨q, some y, rfl, sm.free q1, ?_, sm.trans s2⟩
        rw [q2, run_snoc hd]
    · rintro σ H' ⟨m, v, rfl, hm, hm', sm⟩
      refine ⟨_, rfl, hq _ m hm ?_ sm⟩
      rw [hm', r4.len, List.take_length]
theorem okbehind (T : Tx K mg) : FnOk P w K mg base (L2.CX P w) 4 T.abehind T.dbehind ["row", "start", "parts", "times"] (spbehind T) := by
  refine T.fbehind.ok scbehind (fun vs H Q E h => ?_) (fun cdv A outer s H vs Q E hr h => ?_)
  · obtain ⟨r, a, ds, caps, st, p, n, rfl, _⟩ := h
    rfl
  · obtain ⟨r, a, ds, caps, st, p, n, rfl, hR, ok, hS, p2, hx, hy, hq⟩ := h
    refine ⟨_, (pss_cons (ps_expr (pe_call (okcheckstart T) (hr.mono (by decide)) rfl T.gcheckstart T.fcheckstart.kp T.bcheckstart .nil (passes_call (W := fun c d _ H => E c d H) (takes_of rfl rfl rfl rfl) (fun _ _ _ _ h => h)) (pa_cons (pe_fld (pv 0) rfl) (pa_cons (pv 1) (pa_cons (pv 2) pa_nil)))))
      (pss_cons (ps_if (pt_not (pt_chain op_le op_le pe_int (pv 3) (pe_glob (v := .int 1000) rfl T.cMOSTTIMES ⟨_, rfl⟩))) (pss_one (ps_raise rfl (takes_of rfl rfl rfl rfl) (pmk_oex T.oBadCount T.iBadCount T.tBadCount (okBadCountInit T) (hr.mono (by decide)) T.bBadCountInit .nil pass0 rfl T.mBadCount (pa_cons pe_str (pa_cons (pv 3) pa_nil))))) pss_nil)
      (pss_cons (ps_set (i := 4) scbehind.nd rfl (by first | exact Or.inl rfl | exact Or.inr rfl) (pe_callTy call_list_of rfl T.nlist (by decide +kernel) (pa_cons (pv 1) pa_nil)))
      (pss_cons (ps_for (passes_of rfl) rfl (pi_range1 rfl T.nrange (pa_cons (pv 3) pa_nil)) (pg_name (i := 5) scbehind.nd rfl (by first | exact Or.inl rfl | exact Or.inr rfl)) (pss_one (ps_set (i := 4) scbehind.nd rfl (by first | exact Or.inl rfl | exact Or.inr rfl) (pe_call (okbehindround T) (hr.mono (by decide)) rfl T.gbehindround T.fbehindround.kp T.bbehindround .nil pass0 (pa_cons (pv 0) (pa_cons (pv 4) (pa_cons (pv 2) pa_nil)))))))
      (pss_one (ps_ret (pv 4))))))), ?_⟩
    obtain ⟨rx, j, t, us, r1, r2, r3, r4⟩ := id hR
    refine ⟨_, rfl, r, _, rx, _, _, rfl, r1, T.lRow, T.nRow_jars, lk1, _, rfl, _, rfl, j, a, caps, st, p, rfl, r2, hS, p2, fun hc H1 s1 => ?_, hx⟩
    obtain ⟨p1, hst⟩ := chk_none hc
    have hq := hq hc
    have hy := hy hc
    refine ⟨_, rfl, _, _, rfl, rfl, _, rfl, ?_⟩
    by_cases g1 : 0 ≤ n
    rotate_left
    · refine ifF (decide_eq_false g1) ?_
      exact ⟨_, rfl, ifT rfl ⟨_, rfl, (by show 2 ≤ 1000; decide), x2_made ((hy (fun z => g1 z.1)).same s1)⟩⟩
    refine ifT (decide_eq_true g1) ?_
    refine ⟨_, _, rfl, rfl, _, rfl, ?_⟩
    by_cases g2 : n ≤ 1000
    rotate_left
    · refine iteNF g2 ?_
      exact ⟨_, rfl, (by show 2 ≤ 1000; decide), x2_made ((hy (fun z => g2 z.2)).same s1)⟩
    refine iteNS g2 ?_
    have hq := hq g1 g2
    refine ⟨_, rfl, a, _, rfl, sameA s1 hS, fun l hn => ?_⟩
    have s2 : Same H (upd H1 l (.lst (vi st))) := s1.trans (same_new hn)
    refine ⟨_, rfl, n, rfl, by omega, by omega, ?_⟩
    refine for_range (lo := 0) (n := n.toNat) (fun i σ H' => ∃ (m : Addr) (v : Option V), σ = [some (.ref r), some (.ref a), some (.int p), some (.int n), some (.ref m), v] ∧ H m = none ∧ H' m = some (.lst (vi (runs caps p ds i st))) ∧ Same H H')
      ⟨l, none, rfl, s1.free hn, by rw [upd_same]; rfl, s2⟩ ?_ ?_
    · rintro i σ H' hi ⟨m, v, rfl, hm, hm', sm⟩
      refine ⟨_, rfl, _, rfl, _, rfl, r, m, ds, caps, _, p, rfl, hR.same sm, ok, SqL.of hm', p1, p2, (runs_stand p1 ok hst).len, fun H2 q q1 q2 s3 => ?_⟩
      exact ⟨q, _, rfl, sm.free q1, q2, sm.trans s3⟩
    · rintro σ H' ⟨m, v, rfl, hm, hm', sm⟩
      exact ⟨_, rfl, hq _ m hm hm' sm⟩
theorem okfate (T : Tx K mg) : FnOk P w K mg base (L2.CX P w) 4 T.afate T.dfate ["row", "start", "parts"] (spfate T) := by
  refine T.ffate.ok scfate (fun vs H Q E h => ?_) (fun cdv A outer s H vs Q E hr h => ?_)
  · obtain ⟨r, a, ds, caps, st, p, rf, rfl, _⟩ := h
    rfl
  · obtain ⟨r, a, ds, caps, st, p, rf, rfl, hR, hS, p2, hc, hx⟩ := h
    refine ⟨_, (pss_cons (ps_expr (pe_call (okcheckstart T) (hr.mono (by decide)) rfl T.gcheckstart T.fcheckstart.kp T.bcheckstart .nil (passes_call (W := fun c d _ H => E c d H) (takes_of rfl rfl rfl rfl) (fun _ _ _ _ h => h)) (pa_cons (pe_fld (pv 0) rfl) (pa_cons (pv 1) (pa_cons (pv 2) pa_nil)))))
      (pss_cons (ps_set (i := 3) scfate.nd rfl (by first | exact Or.inl rfl | exact Or.inr rfl) (pe_callTy call_tuple_of rfl T.ntuple (by decide +kernel) (pa_cons (pv 1) pa_nil)))
      (pss_cons (ps_set (i := 4) scfate.nd rfl (by first | exact Or.inl rfl | exact Or.inr rfl) (pe_dispT (hu_of hr) (pv 3) pe_int))
      (pss_cons (ps_for (passes_of rfl) rfl (pi_range2 rfl T.nrange (pa_cons pe_int (pa_cons (pe_op op_add (pe_glob (v := .int 20000) rfl T.cMOSTROUNDS ⟨_, rfl⟩) pe_int) pa_nil))) (pg_name (i := 5) scfate.nd rfl (by first | exact Or.inl rfl | exact Or.inr rfl)) (pss_cons (ps_set (i := 3) scfate.nd rfl (by first | exact Or.inl rfl | exact Or.inr rfl) (pe_callTy call_tuple_of rfl T.ntuple (by decide +kernel) (pa_cons (pe_call (okbehindround T) (hr.mono (by decide)) rfl T.gbehindround T.fbehindround.kp T.bbehindround .nil pass0 (pa_cons (pv 0) (pa_cons (pv 3) (pa_cons (pv 2) pa_nil)))) pa_nil)))
      (pss_cons (ps_if (pt_cmp (pc_din (hu_of hr) (pv 3) (pv 4)) (by rfl)) (pss_one (ps_ret (pe_tup (pa_cons (pe_dget (hu_of hr) (pv 4) (pv 3) (fun _ _ => rfl)) (pa_cons (pe_op op_sub (pv 5) (pe_dget (hu_of hr) (pv 4) (pv 3) (fun _ _ => rfl))) pa_nil))))) pss_nil)
      (pss_one (ps_dput (hu_of hr) (pv 4) (pv 3) (pv 5) rfl)))))
      (pss_one ps_never))))), ?_⟩
    obtain ⟨rx, j, t, us, r1, r2, r3, r4⟩ := id hR
    refine ⟨_, rfl, r, _, rx, _, _, rfl, r1, T.lRow, T.nRow_jars, lk1, _, rfl, _, rfl, j, a, caps, st, p, rfl, r2, hS, p2, fun hn => ?_, fun r' e => ?_⟩
    · rw [hc] at hn
      cases hn
    · rw [hc] at e
      cases e
      exact hx
end
end Kp

namespace Kp
open PySem PySem.Spec PyProof.Rows L2 KpR
def D.word : D → Str
  | .pour _ _ => "pour"
  | .put _ _ => "put"
  | .draw _ _ => "draw"
  | .change _ _ => "change"
def D.last : D → Int
  | .pour _ b => b
  | .put _ k => k
  | .draw _ k => k
  | .change _ b => b
def WellAt (H : Hp) (w : Addr) : Prop := ∃ a b c : Int, H w = some (.lst [.int a, .int b, .int c])
theorem WellAt.ex {H : Hp} {w : Addr} (h : WellAt H w) : ∃ u, H w = some u ∧ Blank u := by
  obtain ⟨a, b, c, h⟩ := h
  exact ⟨_, h, bl_l⟩
def FactAt (H : Hp) (v : V) (d : D) : Prop := ∃ t, v = .ref t ∧ H t = some (.tup [.str d.word, .int d.fst, .int d.last])
theorem FactAt.same {H H' : Hp} {v : V} {d : D} (e : Same H H') (h : FactAt H v d) : FactAt H' v d := by
  obtain ⟨t, rfl, h⟩ := h
  exact ⟨t, rfl, e _ _ h⟩
theorem FactAt.fr {w : Addr} {H H' : Hp} {u : HO} {v : V} {d : D} (e : Fr w H H') (hw : H w = some u) (hb : Blank u) (h : FactAt H v d) : FactAt H' v d := by
  obtain ⟨t, rfl, h⟩ := h
  exact ⟨t, rfl, fr_no e hw hb h nbT⟩
theorem made_same {H H' : Hp} {x dx : Addr} {o1 o2 : HO} (hx : H x = none) (hdx : H dx = none) (fr : Fr x (upd (upd H dx o1) x o2) H') : Same H H' := fun b o e => by
  have n1 : b ≠ x := ne_of_none e hx
  refine fr b o n1 ?_
  rw [upd_ne n1, upd_ne (ne_of_none e hdx)]
  exact e
section
variable {K : PySem.W.Frag} {mg : Str → Option Value}
def spLwell (T : Tx K mg) : Sp := fun vs H Q _ => ∃ n : Int, vs = [.int n] ∧ ∀ (H' : Hp) (p : Addr), H p = none → WellAt H' p → Same H H' → Q (.ref p) H'
def spLdraw (T : Tx K mg) : Sp := fun vs H Q _ => ∃ (w : Addr) (m : Int), vs = [.ref w, .int m] ∧ WellAt H w ∧ 1 ≤ m ∧ m < 2 ^ 100 ∧ ∀ (H' : Hp) (v : Nat), (v : Int) < m → WellAt H' w → Fr w H H' → Q (.int v) H'
def spLcaps (T : Tx K mg) : Sp := fun vs H Q _ => ∃ (w : Addr) (m : Int), vs = [.ref w, .int m] ∧ WellAt H w ∧ 1 ≤ m ∧ m ≤ 6 ∧
  ∀ (H' : Hp) (p : Addr) (caps : List Int), H p = none → H' p = some (.lst (vi caps)) → Caps caps → (caps.length : Int) ≤ m → WellAt H' w → Fr w H H' → Q (.ref p) H'
def spLfacts (T : Tx K mg) : Sp := fun vs H Q _ => ∃ (w c : Addr) (m : Nat) (caps : List Int), vs = [.ref w, .ref c, .int m] ∧ WellAt H w ∧ H c = some (.lst (vi caps)) ∧ c ≠ w ∧ Caps caps ∧ m ≤ 20 ∧
  ∀ (H' : Hp) (p : Addr) (ts : List V) (ds : List D), H p = none → H' p = some (.lst ts) → A2 (FactAt H') ts ds → ds.length = m → (∀ d ∈ ds, d.ok caps) → WellAt H' w → Fr w H H' → Q (.ref p) H'
def spLdeed (T : Tx K mg) : Sp := fun vs H Q _ => ∃ (v : V) (d : D), vs = [v] ∧ FactAt H v d ∧ ∀ (H' : Hp) (p : Addr), H p = none → DeedAt T H' (.ref p) d → Same H H' → Q (.ref p) H'
def spLrow (T : Tx K mg) : Sp := fun vs H Q _ => ∃ (c f : Addr) (caps : List Int) (ts : List V) (ds : List D), vs = [.ref c, .ref f] ∧ SqL K H c (vi caps) ∧ Caps caps ∧ SqL K H f ts ∧ A2 (FactAt H) ts ds ∧ ds.length ≤ 20 ∧ (∀ d ∈ ds, d.ok caps) ∧
  ∀ (H' : Hp) (r : Addr), H r = none → RowAt T H' r caps ds → Same H H' → Q (.ref r) H'
def spLamounts (T : Tx K mg) : Sp := fun vs H Q _ => ∃ (w c : Addr) (p : Int) (caps : List Int), vs = [.ref w, .ref c, .int p] ∧ WellAt H w ∧ H c = some (.lst (vi caps)) ∧ c ≠ w ∧ Caps caps ∧ 1 ≤ p ∧ p ≤ 2 ^ 40 ∧
  ∀ (H' : Hp) (q : Addr) (st : List Int), H q = none → H' q = some (.lst (vi st)) → Stand caps p st → WellAt H' w → Fr w H H' → Q (.ref q) H'
end
section
variable {P : Program} {w : World} {K : PySem.W.Frag} {mg : Str → Option Value} {base : Heap}
theorem okLwell (T : Tx K mg) : FnOk P w K mg base CX0 1 T.aLwell T.dLwell ["_law_cell"] (spLwell T) := by
  refine T.fLwell.ok scLwell (fun vs H Q E h => ?_) (fun cdv A outer s H vs Q E hr h => ?_)
  · obtain ⟨n, rfl, _⟩ := h
    rfl
  · obtain ⟨n, rfl, hq⟩ := h
    refine ⟨_, (pss_one (ps_ret (pe_lst (pa_cons (pe_callB call_abs rfl T.nabs (by decide +kernel) (pa_cons (pv 0) pa_nil)) (pa_cons (pe_op op_mod (pv 0) pe_int) (pa_cons pe_int pa_nil)))))), ?_⟩
    refine ⟨_, rfl, n, rfl, _, rfl, _, _, rfl, rfl, (by show (0 : Int) < 2147483629; decide), (by show 3 ≤ sizeLine; decide), fun p hp => ?_⟩
    exact hq _ p hp ⟨_, _, _, upd_same⟩ (same_new hp)
theorem okLdraw (T : Tx K mg) : FnOk P w K mg base CX0 1 T.aLdraw T.dLdraw ["_law_well_here", "_law_many"] (spLdraw T) := by
  refine T.fLdraw.ok scLdraw (fun vs H Q E h => ?_) (fun cdv A outer s H vs Q E hr h => ?_)
  · obtain ⟨u, m, rfl, _⟩ := h
    rfl
  · obtain ⟨u, m, rfl, ⟨a, b, c, hw⟩, m1, m2, hq⟩ := h
    refine ⟨_, (pss_cons (ps_if (pt_cmpR op_ge (pe_ix (r := rIxL K) ix_list (pv 0) pe_int (fun _ _ => rfl)) (pe_op op_pow pe_int pe_int) (nomark _)) (pss_cons (ps_set (i := 2) scLdraw.nd rfl (by first | exact Or.inl rfl | exact Or.inr rfl) (pe_op op_mod (pe_ix (r := rIxL K) ix_list (pv 0) pe_int (fun _ _ => rfl)) (pv 1)))
      (pss_cons (ps_asg (pe_op op_fdivW (pe_ix (r := rIxL K) ix_list (pv 0) pe_int (fun _ _ => rfl)) (pv 1)) (pg_sub (pv 0) pe_int set_list))
      (pss_one (ps_ret (pv 2))))) pss_nil)
      (pss_cons (ps_asg (pe_op op_add (pe_ix (r := rIxL K) ix_list (pv 0) pe_int (fun _ _ => rfl)) pe_int) (pg_sub (pv 0) pe_int set_list))
      (pss_cons (ps_set (i := 3) scLdraw.nd rfl (by first | exact Or.inl rfl | exact Or.inr rfl) (pe_op op_mod (pe_op op_mul (pe_op op_add (pe_op op_add (pe_ix (r := rIxL K) ix_list (pv 0) pe_int (fun _ _ => rfl)) (pe_op op_mul pe_int (pe_ix (r := rIxL K) ix_list (pv 0) pe_int (fun _ _ => rfl)))) pe_int) pe_int) pe_int))
      (pss_cons (ps_set (i := 3) scLdraw.nd rfl (by first | exact Or.inl rfl | exact Or.inr rfl) (pe_op op_mod (pe_op op_mul (pv 3) (pe_op op_add (pe_op op_fdivW (pv 3) pe_int) pe_int)) pe_int))
      (pss_one (ps_ret (pe_op op_mod (pe_op op_mod (pe_op op_add (pe_op op_fdivW (pv 3) pe_int) (pe_op op_mul (pe_op op_mod (pv 3) pe_int) pe_int)) pe_int) (pv 1)))))))), ?_⟩
    have wd : CDivW a m := wide_div (b := 100) (by omega) (by omega) (by decide) (by decide)
    have back : ∀ (x : Int) (H' : Hp), WellAt H' u → Fr u H H' → Q (.int (x % m)) H' := fun x H' h1 h2 => by
      have q0 := Int.emod_nonneg x (show m ≠ 0 by omega)
      have q1 := Int.emod_lt_of_pos x (show 0 < m by omega)
      have e : x % m = ((x % m).toNat : Int) := by omega
      rw [e]
      exact hq H' _ (by omega) h1 h2
    refine ⟨_, rfl, u, _, _, _, rfl, rfl, SqL.of hw, rfl, _, _, rfl, rfl, ⟨by decide, by decide, by decide⟩, _, _, rfl, rfl, _, rfl, ifD (fun _ => ?_) (fun _ => ?_)⟩
    · refine ⟨_, rfl, u, _, _, _, rfl, rfl, SqL.of hw, rfl, _, rfl, _, _, rfl, rfl, (by show 0 < m; omega), ?_⟩
      refine ⟨_, rfl, u, _, _, _, rfl, rfl, SqL.of hw, rfl, _, rfl, _, _, rfl, rfl, wd, _, rfl, u, _, _, 0, rfl, rfl, hw, rfl, _, rfl, ?_⟩
      exact back a _ ⟨_, _, _, upd_same⟩ (fr_mut (Fr.refl _ _))
    · refine ⟨_, rfl, u, _, _, _, rfl, rfl, SqL.of hw, rfl, _, _, rfl, rfl, _, rfl, u, _, _, 2, rfl, rfl, hw, rfl, ?_⟩
      refine ⟨_, rfl, u, _, _, _, rfl, rfl, SqL.of upd_same, rfl, _, rfl, u, _, _, _, rfl, rfl, SqL.of upd_same, rfl, _, _, rfl, rfl, .inl ⟨by decide, by decide⟩, _, _, rfl, rfl, _, _, rfl, rfl, _, _, rfl, rfl, .inr ⟨by decide, by decide⟩, _, _, rfl, rfl, (by show (0 : Int) < 2147483647; decide), ?_⟩
      refine ⟨_, rfl, _, rfl, _, _, rfl, rfl, ⟨by decide, by decide⟩, _, _, rfl, rfl, _, _, rfl, rfl, .inl ⟨by omega, by omega⟩, _, _, rfl, rfl, (by show (0 : Int) < 2147483587; decide), ?_⟩
      refine ⟨_, rfl, _, _, rfl, rfl, ⟨by decide, by decide⟩, _, rfl, _, _, rfl, rfl, (by show (0 : Int) < 7919; decide), _, _, rfl, rfl, .inr ⟨by decide, by decide⟩, _, _, rfl, rfl, _, _, rfl, rfl, (by show (0 : Int) < 2147483399; decide), _, rfl, _, _, rfl, rfl, (by show 0 < m; omega), ?_⟩
      exact back _ _ ⟨_, _, _, upd_same⟩ (fr_mut (Fr.refl _ _))
theorem okLcaps (T : Tx K mg) : FnOk P w K mg base CX0 2 T.aLcaps T.dLcaps ["_law_well_here", "_law_most"] (spLcaps T) := by
  refine T.fLcaps.ok scLcaps (fun vs H Q E h => ?_) (fun cdv A outer s H vs Q E hr h => ?_)
  · obtain ⟨u, m, rfl, _⟩ := h
    rfl
  · obtain ⟨u, m, rfl, hw, m1, m2, hq⟩ := h
    refine ⟨_, (pss_cons (ps_set (i := 2) scLcaps.nd rfl (by first | exact Or.inl rfl | exact Or.inr rfl) (pe_ix (r := rIxL K) ix_list (pe_lst (pa_cons pe_int (pa_cons pe_int (pa_cons pe_int (pa_cons pe_int (pa_cons (pe_op op_pow pe_int pe_int) (pa_cons (pe_op op_pow pe_int pe_int) pa_nil))))))) (pe_call (okLdraw T) (hr.mono (by decide)) rfl T.gLdraw T.fLdraw.kp T.bLdraw .nil pass0 (pa_cons (pv 0) (pa_cons pe_int pa_nil))) (fun _ _ => rfl)))
      (pss_cons (ps_set (i := 3) scLcaps.nd rfl (by first | exact Or.inl rfl | exact Or.inr rfl) (pe_lst pa_nil))
      (pss_cons (ps_for PassesOwn.never rfl (pi_range1 rfl T.nrange (pa_cons (pe_op op_add pe_int (pe_call (okLdraw T) (hr.mono (by decide)) rfl T.gLdraw T.fLdraw.kp T.bLdraw .nil pass0 (pa_cons (pv 0) (pa_cons (pv 1) pa_nil)))) pa_nil)) (pg_name (i := 4) scLcaps.nd rfl (by first | exact Or.inl rfl | exact Or.inr rfl)) (pss_cons (ps_expr (pe_bm PySem.F.plainAttrs_list PySem.F.slot_list_append PySem.F.type_list_append mt_append (pv 3) (pa_cons (pe_op op_mul (pv 2) (pe_op op_add pe_int (pe_call (okLdraw T) (hr.mono (by decide)) rfl T.gLdraw T.fLdraw.kp T.bLdraw .nil pass0 (pa_cons (pv 0) (pa_cons pe_int pa_nil))))) pa_nil)))
      (pss_one (ps_if (pt_cmpR op_eq (pe_call (okLdraw T) (hr.mono (by decide)) rfl T.gLdraw T.fLdraw.kp T.bLdraw .nil pass0 (pa_cons (pv 0) (pa_cons pe_int pa_nil))) pe_int (nomark _)) (pss_one (ps_asg (pe_ix (r := rIxL K) ix_list (pv 3) pe_int (fun _ _ => rfl)) (pg_sub (pv 3) (pe_un un_neg pe_int) set_list))) pss_nil))))
      (pss_one (ps_ret (pv 3)))))), ?_⟩
    refine ⟨_, _, rfl, rfl, ⟨by decide, by decide, by decide⟩, _, _, rfl, rfl, ⟨by decide, by decide, by decide⟩, (by show 6 ≤ sizeLine; decide), fun l hl => ?_⟩
    have nw : ∀ {G : Hp} {x : Addr}, WellAt G u → G x = none → x ≠ u := fun hW hx z => by
      obtain ⟨_, _, _, q⟩ := hW
      rw [← z, hx] at q
      cases q
    have lu := nw hw hl
    have w1 : WellAt (upd H l (.lst (vi [1, 1, 1, 7, 10 ^ (6 : Int).toNat, 10 ^ (11 : Int).toNat]))) u := by
      obtain ⟨a, b, c, q⟩ := hw
      exact ⟨a, b, c, by rw [upd_ne lu.symm]; exact q⟩
    refine ⟨_, rfl, u, 6, rfl, w1, by decide, by decide, fun H1 n hn w2 f1 => ?_⟩
    have hn6 : n < 6 := by omega
    refine ⟨l, vi [1, 1, 1, 7, 10 ^ (6 : Int).toNat, 10 ^ (11 : Int).toNat], _, _, rfl, rfl, SqL.of (f1 _ _ lu upd_same), vi_at hn6, ?_⟩
    have fr1 : Fr u H H1 := (Fr.of (same_new hl)).trans f1
    obtain ⟨un, hun, ub⟩ : ∃ un : Int, at0 [1, 1, 1, 7, 10 ^ (6 : Int).toNat, 10 ^ (11 : Int).toNat] n = un ∧ 1 ≤ un ∧ un ≤ 100000000000 := ⟨_, rfl, unit_ok hn6⟩
    unfold at0 at hun
    rw [hun]
    refine ⟨(by show 0 ≤ sizeLine; decide), fun f hf => ?_⟩
    have fu := nw w2 hf
    have w3 : WellAt (upd H1 f (.lst [])) u := by
      obtain ⟨a, b, c, q⟩ := w2
      exact ⟨a, b, c, by rw [upd_ne fu.symm]; exact q⟩
    have f0 : H f = none := fr_free fr1 fu hf
    refine ⟨_, rfl, _, rfl, u, m, rfl, w3, m1, by omega, fun H2 k hk w4 f2 => ?_⟩
    have fr2 : Fr u H H2 := (fr1.trans (Fr.of (same_new hf))).trans f2
    refine ⟨_, _, rfl, rfl, _, rfl, by omega, by omega, ?_⟩
    refine for_range (lo := 0) (n := (1 + (k : Int)).toNat) (fun i σ H' => ∃ (v : Option V) (caps : List Int), σ = [some (.ref u), some (.int m), some (.int un), some (.ref f), v] ∧ H' f = some (.lst (vi caps)) ∧ caps.length = i ∧ Mid caps ∧ WellAt H' u ∧ Fr u H H')
      ⟨none, [], rfl, f2 _ _ fu upd_same, rfl, Mid.nil, w4, fr2⟩ ?_ ?_
    · rintro i σ H' hi ⟨v, caps, rfl, hf', rfl, mid, wl, fr⟩
      have i6 : caps.length < 6 := by omega
      refine ⟨_, rfl, .inl ⟨rfl, _, SqL.of hf'⟩, _, rfl, _, rfl, u, 10, rfl, wl, by decide, by decide, fun H3 x hx w5 f3 => ?_⟩
      refine ⟨_, _, rfl, rfl, _, _, rfl, rfl, .inl ⟨by omega, by omega⟩, f, _, _, rfl, rfl, f3 _ _ fu hf', (by rw [List.length_map]; exact Nat.lt_of_lt_of_le i6 (by decide)), ?_⟩
      have z1 : 1 ≤ un * (1 + (x : Int)) := by
        have := Int.mul_le_mul ub.1 (show (1 : Int) ≤ 1 + x by omega) (by decide) (by omega)
        simpa using this
      have z2 : un * (1 + (x : Int)) ≤ 1000000000000 := by
        have := Int.mul_le_mul ub.2 (show (1 + x : Int) ≤ 10 by omega) (by omega) (by decide)
        simpa using this
      have ea : vi caps ++ [V.int (un * (1 + (x : Int)))] = vi (caps ++ [un * (1 + (x : Int))]) := by simp
      have w6 : WellAt (upd H3 f (.lst (vi caps ++ [V.int (un * (1 + (x : Int)))]))) u := by
        obtain ⟨a, b, c, q⟩ := w5
        exact ⟨a, b, c, by rw [upd_ne fu.symm]; exact q⟩
      refine ⟨_, rfl, u, 3, rfl, w6, by decide, by decide, fun H4 y hy w7 f4 => ?_⟩
      have g4 : H4 f = some (.lst (vi (caps ++ [un * (1 + (x : Int))]))) := f4 _ _ fu (by rw [upd_same, ea])
      have fr4 : Fr u H H4 := (fr_new (fr.trans f3) f0).trans f4
      refine ⟨rfl, _, rfl, ifD (fun _ => ?_) (fun _ => ?_)⟩
      · have ln : (vi (caps ++ [un * (1 + (x : Int))])).length = caps.length + 1 := by simp
        refine ⟨_, rfl, f, _, _, _, rfl, rfl, SqL.of g4, vi_at (i := 0) (by simp), _, rfl, _, rfl, f, _, _, caps.length, rfl, rfl, g4, ?_, ?_⟩
        · rw [ln]
          exact ixN_last
        · refine ⟨_, (caps ++ [un * (1 + (x : Int))]).set caps.length (at0 (caps ++ [un * (1 + (x : Int))]) 0), rfl, ?_, by simp, (mid.app z1 z2).set (by simp), ?_, fr_new fr4 f0⟩
          · rw [upd_same, vi_set]
            rfl
          · obtain ⟨a, b, c, q⟩ := w7
            exact ⟨a, b, c, by rw [upd_ne fu.symm]; exact q⟩
      · exact ⟨_, _, rfl, g4, by simp, mid.app z1 z2, w7, fr4⟩
    · rintro σ H' ⟨v, caps, rfl, hf', hl', mid, wl, fr⟩
      exact ⟨_, rfl, hq H' f caps f0 hf' (mid.caps (by omega) (by omega)) (by omega) wl fr⟩
end
end Kp

namespace Kp
open PySem PySem.Spec PyProof.Rows L2 KpR
def wn : Wd → Str
  | .pour => "pour"
  | .put => "put"
  | .draw => "draw"
  | .change => "change"
theorem wn_eq {a b : Wd} : decide (V.str (wn a) = V.str (wn b)) = decide (a = b) := by
  cases a <;> cases b <;> first | rfl | decide +kernel
theorem WellAt.new {H : Hp} {w p : Addr} {o : HO} (h : WellAt H w) (n : H p = none) : WellAt (upd H p o) w := by
  obtain ⟨a, b, c, q⟩ := h
  exact ⟨a, b, c, by rw [upd_ne (ne_of_none q n)]; exact q⟩
theorem WellAt.ne {H : Hp} {w p : Addr} (h : WellAt H w) (n : H p = none) : p ≠ w := fun z => by
  obtain ⟨_, _, _, q⟩ := h
  rw [← z, n] at q
  cases q
theorem WellAt.mut {H : Hp} {w p : Addr} {o : HO} (h : WellAt H w) (n : p ≠ w) : WellAt (upd H p o) w := by
  obtain ⟨a, b, c, q⟩ := h
  exact ⟨a, b, c, by rw [upd_ne (Ne.symm n)]; exact q⟩
theorem WellAt.same {H H' : Hp} {w : Addr} (h : WellAt H w) (e : Same H H') : WellAt H' w := by
  obtain ⟨a, b, c, q⟩ := h
  exact ⟨a, b, c, e _ _ q⟩
/-- a deed of what was drawn -/
def mkD : Wd → Nat → Nat → Int → D
  | .pour, a, b, _ => .pour a b
  | .put, a, _, k => .put a k
  | .draw, a, _, k => .draw a k
  | .change, a, b, _ => .change a b
theorem mkD_ok {caps : List Int} {k : Wd} {a b : Nat} {m : Int} (ha : a < caps.length) (hb : b < caps.length) (m1 : 1 ≤ m) (m2 : m ≤ 1000000000000) (h1 : k = .pour → a ≠ b) (h2 : k = .change → a ≠ b ∧ at0 caps a = at0 caps b) : (mkD k a b m).ok caps := by
  cases k
  · exact ⟨ha, hb, h1 rfl⟩
  · exact ⟨ha, m1, m2⟩
  · exact ⟨ha, m1, m2⟩
  · exact ⟨ha, hb, h2 rfl⟩
theorem mkD_word {k : Wd} {a b : Nat} {m : Int} : (mkD k a b m).word = wn k := by cases k <;> rfl
theorem mkD_fst {k : Wd} {a b : Nat} {m : Int} : (mkD k a b m).fst = a := by cases k <;> rfl
theorem mkD_last {k : Wd} {a b : Nat} {m : Int} : (mkD k a b m).last = if k = .put ∨ k = .draw then m else (b : Int) := by cases k <;> rfl
theorem inV_word {k : Wd} : inV (.str (wn k)) [.str "put", .str "draw"] = decide (k = .put ∨ k = .draw) := by
  cases k <;> decide +kernel
section
variable {P : Program} {w : World} {K : PySem.W.Frag} {mg : Str → Option Value} {base : Heap}
theorem okLdeed (T : Tx K mg) : FnOk P w K mg base CX0 3 T.aLdeed T.dLdeed ["_law_fact"] (spLdeed T) := by
  refine T.fLdeed.ok scLdeed (fun vs H Q E h => ?_) (fun cdv A outer s H vs Q E hr h => ?_)
  · obtain ⟨v, d, rfl, _⟩ := h
    rfl
  · obtain ⟨v, d, rfl, ⟨t, rfl, ht⟩, hq⟩ := h
    refine ⟨_, (pss_cons (ps_asg (pv 0) (pg_tup rfl (pgs_cons (pg_name (i := 1) scLdeed.nd rfl (by first | exact Or.inl rfl | exact Or.inr rfl)) (pgs_cons (pg_name (i := 2) scLdeed.nd rfl (by first | exact Or.inl rfl | exact Or.inr rfl)) (pgs_cons (pg_name (i := 3) scLdeed.nd rfl (by first | exact Or.inl rfl | exact Or.inr rfl)) pgs_nil)))))
      (pss_cons (ps_if (pt_cmpR op_eq (pv 1) pe_str (nomark _)) (pss_one (ps_ret (pe_make T.kPour (okPourInit T) (hr.mono (by decide)) rfl T.mPour T.bPourInit .nil pass0 (pa_cons (pv 2) (pa_cons (pv 3) pa_nil))))) pss_nil)
      (pss_cons (ps_if (pt_cmpR op_eq (pv 1) pe_str (nomark _)) (pss_one (ps_ret (pe_make T.kPut (okPutInit T) (hr.mono (by decide)) rfl T.mPut T.bPutInit .nil pass0 (pa_cons (pv 2) (pa_cons (pv 3) pa_nil))))) pss_nil)
      (pss_cons (ps_if (pt_cmpR op_eq (pv 1) pe_str (nomark _)) (pss_one (ps_ret (pe_make T.kDraw (okDrawInit T) (hr.mono (by decide)) rfl T.mDraw T.bDrawInit .nil pass0 (pa_cons (pv 2) (pa_cons (pv 3) pa_nil))))) pss_nil)
      (pss_one (ps_ret (pe_make T.kChange (okChangeInit T) (hr.mono (by decide)) rfl T.mChange T.bChangeInit .nil pass0 (pa_cons (pv 2) (pa_cons (pv 3) pa_nil))))))))), ?_⟩
    refine ⟨_, rfl, t, _, rfl, SqT.of ht, rfl, _, _, rfl, _, _, rfl, _, _, rfl, rfl, _, rfl, rfl, _, rfl, ?_⟩
    cases d with
    | pour a b =>
      refine ifT (show decide (V.str "pour" = V.str "pour") = true by decide +kernel) ⟨_, rfl, _, rfl, fun x dx hx hdx ne => ⟨x, dx, _, _, rfl, upd_same, fun H1 h1 fr => ⟨rfl, ?_⟩⟩⟩
      exact hq H1 x hx ⟨x, dx, rfl, h1⟩ (made_same hx hdx fr)
    | put a k =>
      refine ifF (show decide (V.str "put" = V.str "pour") = false by decide +kernel) ⟨_, rfl, rfl, _, rfl, ifT (show decide (V.str "put" = V.str "put") = true by decide +kernel) ⟨_, rfl, _, rfl, fun x dx hx hdx ne => ⟨x, dx, _, _, rfl, upd_same, fun H1 h1 fr => ⟨rfl, ?_⟩⟩⟩⟩
      exact hq H1 x hx ⟨x, dx, rfl, h1⟩ (made_same hx hdx fr)
    | draw a k =>
      refine ifF (show decide (V.str "draw" = V.str "pour") = false by decide +kernel) ⟨_, rfl, rfl, _, rfl, ifF (show decide (V.str "draw" = V.str "put") = false by decide +kernel) ⟨_, rfl, rfl, _, rfl, ifT (show decide (V.str "draw" = V.str "draw") = true by decide +kernel) ⟨_, rfl, _, rfl, fun x dx hx hdx ne => ⟨x, dx, _, _, rfl, upd_same, fun H1 h1 fr => ⟨rfl, ?_⟩⟩⟩⟩⟩
      exact hq H1 x hx ⟨x, dx, rfl, h1⟩ (made_same hx hdx fr)
    | change a b =>
      refine ifF (show decide (V.str "change" = V.str "pour") = false by decide +kernel) ⟨_, rfl, rfl, _, rfl, ifF (show decide (V.str "change" = V.str "put") = false by decide +kernel) ⟨_, rfl, rfl, _, rfl, ifF (show decide (V.str "change" = V.str "draw") = false by decide +kernel) ⟨_, rfl, _, rfl, fun x dx hx hdx ne => ⟨x, dx, _, _, rfl, upd_same, fun H1 h1 fr => ⟨rfl, ?_⟩⟩⟩⟩⟩
      exact hq H1 x hx ⟨x, dx, rfl, h1⟩ (made_same hx hdx fr)
theorem okLrow (T : Tx K mg) : FnOk P w K mg base CX0 5 T.aLrow T.dLrow ["_law_caps_here", "_law_facts_here"] (spLrow T) := by
  refine T.fLrow.ok scLrow (fun vs H Q E h => ?_) (fun cdv A outer s H vs Q E hr h => ?_)
  · obtain ⟨c, f, caps, ts, ds, rfl, _⟩ := h
    rfl
  · obtain ⟨c, f, caps, ts, ds, rfl, hc, hC, hf, hA, hl, ok, hq⟩ := h
    refine ⟨_, (pss_one (ps_ret (pe_make T.kRow (okRowInit T) (hr.mono (by decide)) rfl T.mRow T.bRowInit .nil pass0 (pa_cons (pe_make T.kJars (okJarsInit T) (hr.mono (by decide)) rfl T.mJars T.bJarsInit .nil pass0 (pa_cons (pe_callTy call_list_of rfl T.nlist (by decide +kernel) (pa_cons (pv 0) pa_nil)) pa_nil)) (pa_cons (pe_lc (own := [("_law_fact", 2)]) rfl scLrow.nd (pi_list (pv 1)) (blkOk_by (own := [("_law_fact", 2)]) (N := ["_law_caps_here", "_law_facts_here", "_law_fact"]) (sc := defScope sLrow) (by decide +kernel)) (fun _ _ _ _ _ => (pg_name (i := 2) scLrow.nd rfl (by first | exact Or.inl rfl | exact Or.inr rfl))) (fun _ _ _ _ _ => pts_nil) (fun _ _ _ _ _ => (pe_call (okLdeed T) (hr.mono (by decide)) rfl T.gLdeed T.fLdeed.kp T.bLdeed .nil pass0 (pa_cons (pv 2) pa_nil)))) pa_nil))))), ?_⟩
    refine ⟨_, rfl, c, _, rfl, .inl hc, fun l hl0 => ?_⟩
    intro x dx hx hdx ne
    have s0 : Same H (upd H l (.lst (vi caps))) := same_new hl0
    have lx : l ≠ x := fun z => by rw [← z, upd_same] at hx; cases hx
    have ldx : l ≠ dx := fun z => by rw [← z, upd_same] at hdx; cases hdx
    refine ⟨x, dx, l, caps, rfl, upd_same, SqL.of (by rw [upd_ne lx, upd_ne ldx]; exact upd_same), hC, fun H1 hJ fr => ⟨rfl, ?_⟩⟩
    have s1 : Same H H1 := s0.trans (made_same hx hdx fr)
    refine ⟨_, rfl, f, rfl, ⟨_, s1.seq hf⟩, fun Dd hD => ?_⟩
    refine lc_list (K := K) (a := f) (xs := ts) (fun i H' => ∃ ws, H' Dd = some (.lst ws) ∧ A2 (DeedAt T H') ws (ds.take i) ∧ Same H1 H') ⟨[], upd_same, by simp [A2], same_new hD⟩ (fun i H' _ ⟨_, _, _, e⟩ => (s1.trans e).seq hf) ?_ ?_
    · rintro i y H' hi ⟨ws, h1, h2, sm⟩
      obtain ⟨d, hd, hv⟩ := hA.get hi
      refine ⟨rfl, ?_⟩
      refine ⟨_, rfl, y, d, rfl, hv.same (s1.trans sm), fun H2 q hq2 hd2 s2 => ⟨ws, s2 _ _ h1, ?_, ?_⟩⟩
      · have e1 := h2.len
        have e2 : (ds.take i).length ≤ 20 := by rw [List.length_take]; omega
        exact Nat.lt_of_lt_of_le (by omega : ws.length < 100) (by decide)
      · have bl : Fr Dd H2 (upd H2 Dd (.lst (ws ++ [V.ref q]))) := fr_mut (Fr.refl _ _)
        have gD := s2 _ _ h1
        refine ⟨ws ++ [V.ref q], upd_same, ?_, same_mut (sm.trans s2) hD⟩
        rw [List.take_add_one, hd]
        exact A2.app (A2.mono (fun _ _ k => (k.same s2).fr bl gD bl_l) h2) ⟨hd2.fr bl gD bl_l, trivial⟩
    · rintro H' ⟨ws, h1, h2, sm⟩
      rw [hA.len, List.take_length] at h2
      intro x2 dx2 hx2 hdx2 ne2
      have s3 : Same H' (upd (upd H' dx2 (.own x2)) x2 (.ins T.cRow dx2 [])) := (same_new hdx2).trans (same_new (by rw [upd_ne ne2.symm]; exact hx2))
      refine ⟨x2, dx2, x, Dd, caps, ws, ds, rfl, upd_same, (hJ.same sm).same s3, s3 _ _ h1, A2.mono (fun _ _ k => k.same s3) h2, hl, ok, fun H5 hR fr5 => ⟨rfl, ?_⟩⟩
      exact hq H5 x2 ((s1.trans sm).free hx2) hR ((s1.trans sm).trans (made_same hx2 hdx2 fr5))
theorem okLamounts (T : Tx K mg) : FnOk P w K mg base CX0 2 T.aLamounts T.dLamounts ["_law_well_here", "_law_caps_here", "_law_portions"] (spLamounts T) := by
  refine T.fLamounts.ok scLamounts (fun vs H Q E h => ?_) (fun cdv A outer s H vs Q E hr h => ?_)
  · obtain ⟨u, c, p, caps, rfl, _⟩ := h
    rfl
  · obtain ⟨u, c, p, caps, rfl, hw, hc, cu, hC, p1, p2, hq⟩ := h
    refine ⟨_, (pss_cons (ps_set (i := 3) scLamounts.nd rfl (by first | exact Or.inl rfl | exact Or.inr rfl) (pe_lst pa_nil))
      (pss_cons (ps_for PassesOwn.never rfl (pi_list (pv 1)) (pg_name (i := 4) scLamounts.nd rfl (by first | exact Or.inl rfl | exact Or.inr rfl)) (pss_cons (ps_set (i := 5) scLamounts.nd rfl (by first | exact Or.inl rfl | exact Or.inr rfl) (pe_op op_mul (pv 4) (pv 2)))
      (pss_cons (ps_set (i := 6) scLamounts.nd rfl (by first | exact Or.inl rfl | exact Or.inr rfl) (pe_lst (pa_cons pe_int (pa_cons (pv 5) (pa_cons (pe_call (okLdraw T) (hr.mono (by decide)) rfl T.gLdraw T.fLdraw.kp T.bLdraw .nil pass0 (pa_cons (pv 0) (pa_cons (pe_op op_add (pv 5) pe_int) pa_nil))) (pa_cons (pe_callB (call_min2 rfl) rfl T.nmin (by decide +kernel) (pa_cons (pv 5) (pa_cons (pe_call (okLdraw T) (hr.mono (by decide)) rfl T.gLdraw T.fLdraw.kp T.bLdraw .nil pass0 (pa_cons (pv 0) (pa_cons pe_int pa_nil))) pa_nil))) (pa_cons (pe_callB (call_max2 rfl) rfl T.nmax (by decide +kernel) (pa_cons pe_int (pa_cons (pe_op op_sub (pv 5) (pe_call (okLdraw T) (hr.mono (by decide)) rfl T.gLdraw T.fLdraw.kp T.bLdraw .nil pass0 (pa_cons (pv 0) (pa_cons pe_int pa_nil)))) pa_nil))) pa_nil)))))))
      (pss_one (ps_expr (pe_bm PySem.F.plainAttrs_list PySem.F.slot_list_append PySem.F.type_list_append mt_append (pv 3) (pa_cons (pe_ix (r := rIxL K) ix_list (pv 6) (pe_call (okLdraw T) (hr.mono (by decide)) rfl T.gLdraw T.fLdraw.kp T.bLdraw .nil pass0 (pa_cons (pv 0) (pa_cons pe_int pa_nil))) (fun _ _ => rfl)) pa_nil)))))))
      (pss_one (ps_ret (pv 3))))), ?_⟩
    refine ⟨(by show 0 ≤ sizeLine; decide), fun f hf => ?_⟩
    have fu := hw.ne hf
    have cf : c ≠ f := ne_of_none hc hf
    refine ⟨_, rfl, c, rfl, ⟨_, (same_new hf).seq (SqL.of hc)⟩, ?_⟩
    refine for_list (K := K) (a := c) (xs := vi caps) (fun i σ H' => ∃ (v1 v2 v3 : Option V) (st : List Int), σ = [some (.ref u), some (.ref c), some (.int p), some (.ref f), v1, v2, v3] ∧ H' f = some (.lst (vi st)) ∧ st.length = i ∧ Part caps p st ∧ WellAt H' u ∧ Fr u H H')
      ⟨none, none, none, [], rfl, upd_same, rfl, Part.nil, hw.new hf, Fr.of (same_new hf)⟩ (fun i σ H' _ ⟨_, _, _, _, _, _, _, _, _, e⟩ => e.sqL cu (SqL.of hc)) ?_ ?_
    · rintro i y σ H' hi ⟨v1, v2, v3, st, rfl, hf', rfl, part, wl, fr⟩
      obtain ⟨z, hz, rfl⟩ := vi_get hi
      have lt : st.length < caps.length := (List.getElem?_eq_some_iff.mp hz).1
      have ez := at0_of hz
      have c6 := hC.l6
      have zlo : 1 ≤ z := by rw [← ez]; exact hC.lo _ lt
      have zhi : z ≤ 1000000000000 := by rw [← ez]; exact hC.hi _ lt
      have t0 : 0 ≤ z * p := Int.mul_nonneg (by omega) (by omega)
      have t1 : z * p ≤ 1000000000000 * 2 ^ 40 := Int.mul_le_mul zhi p2 (by omega) (by decide)
      refine ⟨_, rfl, _, rfl, _, _, rfl, rfl, .inr ⟨by omega, by omega⟩, ?_⟩
      refine ⟨_, rfl, _, rfl, _, rfl, _, _, rfl, rfl, u, z * p + 1, rfl, wl, by omega, by omega, fun H1 a1 l1 w1 f1 => ?_⟩
      refine ⟨_, rfl, _, rfl, u, 3, rfl, w1, by decide, by decide, fun H2 a2 l2 w2 f2 => ?_⟩
      refine ⟨_, _, rfl, _, rfl, _, rfl, u, 3, rfl, w2, by decide, by decide, fun H3 a3 l3 w3 f3 => ?_⟩
      refine ⟨_, _, rfl, rfl, _, _, rfl, (by show 5 ≤ sizeLine; decide), fun s hs => ?_⟩
      have fr3 : Fr u H H3 := ((fr.trans f1).trans f2).trans f3
      have g3 : H3 f = some (.lst (vi st)) := f3 _ _ fu (f2 _ _ fu (f1 _ _ fu hf'))
      have su := w3.ne hs
      have sf : f ≠ s := ne_of_none g3 hs
      have sm : Same H3 (upd H3 s (.lst (vi [0, z * p, (a1 : Int), (if (a2 : Int) < z * p then (a2 : Int) else z * p), (if z * p - (a3 : Int) > 0 then z * p - (a3 : Int) else 0)]))) := same_new hs
      refine ⟨_, rfl, .inl ⟨rfl, _, SqL.of (sm _ _ g3)⟩, _, rfl, _, rfl, u, 5, rfl, w3.new hs, by decide, by decide, fun H4 n hn w4 f4 => ?_⟩
      have n5 : n < 5 := by omega
      have g4 := f4 _ _ fu (sm _ _ g3)
      refine ⟨s, vi [0, z * p, (a1 : Int), (if (a2 : Int) < z * p then (a2 : Int) else z * p), (if z * p - (a3 : Int) > 0 then z * p - (a3 : Int) else 0)], _, _, rfl, rfl, SqL.of (f4 _ _ su upd_same), vi_at n5, ?_⟩
      obtain ⟨r, hr, rb⟩ : ∃ r : Int, at0 [0, z * p, (a1 : Int), (if (a2 : Int) < z * p then (a2 : Int) else z * p), (if z * p - (a3 : Int) > 0 then z * p - (a3 : Int) else 0)] n = r ∧ 0 ≤ r ∧ r ≤ z * p :=
        ⟨_, rfl, pick5 n5 ⟨by omega, by omega⟩ ⟨by omega, by omega⟩ ⟨by omega, by omega⟩ (by split <;> exact ⟨by omega, by omega⟩) (by split <;> exact ⟨by omega, by omega⟩)⟩
      unfold at0 at hr
      rw [hr]
      refine ⟨f, _, _, rfl, rfl, g4, (by rw [List.length_map]; exact Nat.lt_of_lt_of_le (by omega : st.length < 100) (by decide)), ?_⟩
      refine ⟨_, _, _, st ++ [r], rfl, ?_, by simp, part.app rb.1 (by rw [ez]; exact rb.2), w4.mut fu, fr_new ((fr3.trans (Fr.of sm)).trans f4) hf⟩
      rw [upd_same]
      simp
    · rintro σ H' ⟨v1, v2, v3, st, rfl, hf', hl', part, wl, fr⟩
      rw [List.length_map] at hl'
      exact ⟨_, rfl, hq H' f st hf hf' (part.stand hl') wl fr⟩
end
end Kp

namespace Kp
open PySem PySem.Spec PyProof.Rows L2 KpR
theorem six_at {n : Nat} (h : n < 6) : atI (sixW.map fun k => V.str (wn k)) (n : Int) = some (.str (wn (sixW.getD n .pour))) := by
  refine atI_nat ?_
  have h' : n < sixW.length := h
  rw [List.getElem?_map, List.getElem?_eq_getElem h', List.getD_eq_getElem?_getD, List.getElem?_eq_getElem h']
  rfl
theorem pick2 {x y : Int} {c : Bool} : atI [V.int x, V.int y] (if c = true then 1 else 0) = some (.int (if c = true then y else x)) := by
  cases c <;> rfl
theorem wnT {k j : Wd} (h : k = j) : decide (V.str (wn k) = V.str (wn j)) = true := by rw [wn_eq]; exact decide_eq_true h
theorem wnF {k j : Wd} (h : ¬ k = j) : decide (V.str (wn k) = V.str (wn j)) = false := by rw [wn_eq]; exact decide_eq_false h
section
variable {P : Program} {w : World} {K : PySem.W.Frag} {mg : Str → Option Value} {base : Heap}
theorem okLfacts (T : Tx K mg) : FnOk P w K mg base CX0 2 T.aLfacts T.dLfacts ["_law_well_here", "_law_caps_here", "_law_many"] (spLfacts T) := by
  refine T.fLfacts.ok scLfacts (fun vs H Q E h => ?_) (fun cdv A outer s H vs Q E hr h => ?_)
  · obtain ⟨u, c, m, caps, rfl, _⟩ := h
    rfl
  · obtain ⟨u, c, m, caps, rfl, hw, hc, cu, hC, hm, hq⟩ := h
    refine ⟨_, (pss_cons (ps_set (i := 3) scLfacts.nd rfl (by first | exact Or.inl rfl | exact Or.inr rfl) (pe_lst pa_nil))
      (pss_cons (ps_for PassesOwn.never rfl (pi_range1 rfl T.nrange (pa_cons (pv 2) pa_nil)) (pg_name (i := 4) scLfacts.nd rfl (by first | exact Or.inl rfl | exact Or.inr rfl)) (pss_cons (ps_par (i := 5) (j := 6) rfl scLfacts.nd rfl rfl (by decide) rfl rfl (pa_cons (pe_call (okLdraw T) (hr.mono (by decide)) rfl T.gLdraw T.fLdraw.kp T.bLdraw .nil pass0 (pa_cons (pv 0) (pa_cons (pe_callB call_len_seq rfl T.nlen PySem.boot_len (pa_cons (pv 1) pa_nil)) pa_nil))) (pa_cons (pe_call (okLdraw T) (hr.mono (by decide)) rfl T.gLdraw T.fLdraw.kp T.bLdraw .nil pass0 (pa_cons (pv 0) (pa_cons (pe_callB call_len_seq rfl T.nlen PySem.boot_len (pa_cons (pv 1) pa_nil)) pa_nil))) pa_nil)) rfl)
      (pss_cons (ps_set (i := 7) scLfacts.nd rfl (by first | exact Or.inl rfl | exact Or.inr rfl) (pe_ix (r := rIxL K) ix_list (pe_lst (pa_cons pe_int (pa_cons (pe_op op_add pe_int (pe_call (okLdraw T) (hr.mono (by decide)) rfl T.gLdraw T.fLdraw.kp T.bLdraw .nil pass0 (pa_cons (pv 0) (pa_cons (pe_ix (r := rIxL K) ix_list (pv 1) (pv 5) (fun _ _ => rfl)) pa_nil)))) (pa_cons (pe_ix (r := rIxL K) ix_list (pv 1) (pv 5) (fun _ _ => rfl)) (pa_cons (pe_callB (call_min2 rfl) rfl T.nmin (by decide +kernel) (pa_cons (pe_op op_pow pe_int pe_int) (pa_cons (pe_op op_add (pe_ix (r := rIxL K) ix_list (pv 1) (pv 5) (fun _ _ => rfl)) pe_int) pa_nil))) pa_nil))))) (pe_call (okLdraw T) (hr.mono (by decide)) rfl T.gLdraw T.fLdraw.kp T.bLdraw .nil pass0 (pa_cons (pv 0) (pa_cons pe_int pa_nil))) (fun _ _ => rfl)))
      (pss_cons (ps_set (i := 8) scLfacts.nd rfl (by first | exact Or.inl rfl | exact Or.inr rfl) (pe_ix (r := rIxL K) ix_list (pe_lst (pa_cons pe_str (pa_cons pe_str (pa_cons pe_str (pa_cons pe_str (pa_cons pe_str (pa_cons pe_str pa_nil))))))) (pe_call (okLdraw T) (hr.mono (by decide)) rfl T.gLdraw T.fLdraw.kp T.bLdraw .nil pass0 (pa_cons (pv 0) (pa_cons pe_int pa_nil))) (fun _ _ => rfl)))
      (C8.pss_cut (ps_if (PW.pt (pw_and (pt_cmpR op_eq (pv 8) pe_str (nomark _)) (pw_and1 (PW.pt (pw_or (pt_cmpR op_eq (pv 5) (pv 6) (nomark _)) (pw_or1 (pt_cmpR op_ne (pe_ix (r := rIxL K) ix_list (pv 1) (pv 5) (fun _ _ => rfl)) (pe_ix (r := rIxL K) ix_list (pv 1) (pv 6) (fun _ _ => rfl)) (nomark _)))))))) (pss_one (ps_set (i := 8) scLfacts.nd rfl (by first | exact Or.inl rfl | exact Or.inr rfl) pe_str)) pss_nil)
      (C8.pss_cut (ps_if (PW.pt (pw_and (pt_cmpR op_eq (pv 8) pe_str (nomark _)) (pw_and1 (pt_cmpR op_eq (pv 5) (pv 6) (nomark _))))) (pss_one (ps_set (i := 8) scLfacts.nd rfl (by first | exact Or.inl rfl | exact Or.inr rfl) pe_str)) pss_nil)
      (pss_one (ps_expr (pe_bm PySem.F.plainAttrs_list PySem.F.slot_list_append PySem.F.type_list_append mt_append (pv 3) (pa_cons (pe_tup (pa_cons (pv 8) (pa_cons (pv 5) (pa_cons (pe_ix (r := rIxL K) ix_list (pe_lst (pa_cons (pv 6) (pa_cons (pv 7) pa_nil))) (pe_callTy call_int1 rfl T.nint (by decide +kernel) (pa_cons (pe_cmpR (r := rIn K false) op_in_seq (pv 8) (pe_tup (pa_cons pe_str (pa_cons pe_str pa_nil))) (by rfl)) pa_nil)) (fun _ _ => rfl)) pa_nil)))) pa_nil))))))))))
      (pss_one (ps_ret (pv 3))))), ?_⟩
    have c1 := hC.l1
    have c6 := hC.l6
    have vl : (vi caps).length = caps.length := List.length_map ..
    refine ⟨(by show 0 ≤ sizeLine; decide), fun f hf => ?_⟩
    have fu := hw.ne hf
    have cf : c ≠ f := ne_of_none hc hf
    refine ⟨_, rfl, m, rfl, by omega, by omega, ?_⟩
    refine for_range (lo := 0) (n := (m : Int).toNat) (fun i σ H' => ∃ (v4 v5 v6 v7 v8 : Option V) (ts : List V) (ds : List D), σ = [some (.ref u), some (.ref c), some (.int m), some (.ref f), v4, v5, v6, v7, v8] ∧ H' f = some (.lst ts) ∧
        A2 (FactAt H') ts ds ∧ ds.length = i ∧ (∀ d ∈ ds, d.ok caps) ∧ WellAt H' u ∧ Fr u H H')
      ⟨none, none, none, none, none, [], [], rfl, upd_same, trivial, rfl, (fun d h => by cases h), hw.new hf, Fr.of (same_new hf)⟩ ?_ ?_
    · rintro i σ H' hi ⟨v4, v5, v6, v7, v8, ts, ds, rfl, gf, gA, gl, gok, wl, fr⟩
      have gc := fr _ _ cu hc
      refine ⟨_, rfl, _, rfl, c, _, rfl, .inl (SqL.of gc), u, _, rfl, wl, by omega, by omega, fun H1 a la w1 f1 => ?_⟩
      have gc1 := f1 _ _ cu gc
      refine ⟨_, rfl, _, rfl, c, _, rfl, .inl (SqL.of gc1), u, _, rfl, w1, by omega, by omega, fun H2 b lb w2 f2 => ⟨_, _, rfl, ?_⟩⟩
      have gc2 := f2 _ _ cu gc1
      have ha : a < caps.length := by omega
      have hb : b < caps.length := by omega
      have k0 := hC.lo a ha
      have k1 := hC.hi a ha
      refine ⟨_, rfl, _, rfl, _, rfl, c, _, _, _, rfl, rfl, SqL.of gc2, vi_at ha, u, at0 caps a, rfl, w2, k0, by omega, fun H3 x lx w3 f3 => ?_⟩
      have gc3 := f3 _ _ cu gc2
      refine ⟨_, _, rfl, rfl, _, rfl, _, rfl, c, _, _, _, rfl, rfl, SqL.of gc3, vi_at ha, _, _, rfl, rfl, ⟨by decide, by decide, by decide⟩, _, rfl, _, rfl, c, _, _, _, rfl, rfl, SqL.of gc3, vi_at ha, _, _, rfl, rfl, _, _, rfl, (by show 4 ≤ sizeLine; decide), fun s hs => ?_⟩
      have su := w3.ne hs
      have fr3 : Fr u H H3 := ((fr.trans f1).trans f2).trans f3
      have gf3 := f3 _ _ fu (f2 _ _ fu (f1 _ _ fu gf))
      have sm3 : Same H3 (upd H3 s (.lst (vi [1, 1 + (x : Int), at0 caps a, (if at0 caps a + 1 < 10 ^ (12 : Int).toNat then at0 caps a + 1 else 10 ^ (12 : Int).toNat)]))) := same_new hs
      refine ⟨_, rfl, u, 4, rfl, w3.new hs, by decide, by decide, fun H4 n ln w4 f4 => ?_⟩
      have n4 : n < 4 := by omega
      refine ⟨s, vi [1, 1 + (x : Int), at0 caps a, (if at0 caps a + 1 < 10 ^ (12 : Int).toNat then at0 caps a + 1 else 10 ^ (12 : Int).toNat)], _, _, rfl, rfl, SqL.of (f4 _ _ su upd_same), vi_at n4, ?_⟩
      obtain ⟨mu, hmu, mb⟩ : ∃ r : Int, at0 [1, 1 + (x : Int), at0 caps a, (if at0 caps a + 1 < 10 ^ (12 : Int).toNat then at0 caps a + 1 else 10 ^ (12 : Int).toNat)] n = r ∧ 1 ≤ r ∧ r ≤ 1000000000000 :=
        ⟨_, rfl, pick4 n4 ⟨by omega, by omega⟩ ⟨by omega, by omega⟩ ⟨by omega, by omega⟩ (by
          have e12 : (10 : Int) ^ (12 : Int).toNat = 1000000000000 := by decide
          rw [e12]
          split <;> exact ⟨by omega, by omega⟩)⟩
      unfold at0 at hmu
      unfold at0
      rw [hmu]
      refine ⟨(by show 6 ≤ sizeLine; decide), fun s2 hs2 => ?_⟩
      have s2u := w4.ne hs2
      have fr4 : Fr u H H4 := (fr3.trans (Fr.of sm3)).trans f4
      have gf4 := f4 _ _ fu (sm3 _ _ gf3)
      have gc4 := f4 _ _ cu (sm3 _ _ gc3)
      have sm4 : Same H4 (upd H4 s2 (.lst (sixW.map fun k => V.str (wn k)))) := same_new hs2
      refine ⟨_, rfl, u, 6, rfl, w4.new hs2, by decide, by decide, fun H5 n2 ln2 w5 f5 => ?_⟩
      have n6 : n2 < 6 := by omega
      refine ⟨s2, sixW.map fun k => V.str (wn k), _, _, rfl, rfl, SqL.of (f5 _ _ s2u upd_same), six_at n6, ?_⟩
      generalize sixW.getD n2 .pour = k0'
      have fr5 : Fr u H H5 := (fr4.trans (Fr.of sm4)).trans f5
      have gf5 := f5 _ _ fu (sm4 _ _ gf4)
      have gc5 := f5 _ _ cu (sm4 _ _ gc4)
      have gA5 : A2 (FactAt H5) ts ds := by
        obtain ⟨o, ho, hb⟩ := wl.ex
        exact A2.mono (fun _ _ q => q.fr (((((f1.trans f2).trans f3).trans (Fr.of sm3)).trans f4).trans ((Fr.of sm4).trans f5)) ho hb) gA
      refine ⟨fun σ' H' => ∃ k : Wd, σ' = [some (.ref u), some (.ref c), some (.int m), some (.ref f), some (.int (0 + (i : Int))), some (.int a), some (.int b), some (.int mu), some (.str (wn k))] ∧ H' = H5 ∧ (k = .change → a ≠ b ∧ at0 caps a = at0 caps b), ?_, ?_⟩
      · refine ⟨_, rfl, rfl, _, rfl, ?_⟩
        by_cases hk : k0' = .change
        · refine ifT (wnT (j := .change) hk) ⟨_, rfl, _, rfl, rfl, _, rfl, ifD (fun _ => ifT rfl ⟨.pour, rfl, rfl, fun z => by cases z⟩) (fun hab => ?_)⟩
          refine ⟨_, rfl, _, rfl, c, _, _, _, rfl, rfl, SqL.of gc5, vi_at ha, _, rfl, _, rfl, c, _, _, _, rfl, rfl, SqL.of gc5, vi_at hb, rfl, _, rfl, ifN (fun hcap => ⟨k0', rfl, rfl, fun _ => ⟨fun z => hab (by rw [z]), ?_⟩⟩) (fun _ => ⟨.pour, rfl, rfl, fun z => by cases z⟩)⟩
          injection hcap
        · exact ifF (wnF (j := .change) hk) (ifF rfl ⟨k0', rfl, rfl, fun z => absurd z hk⟩)
      · rintro σ' H' ⟨k, rfl, rfl, hk⟩
        refine ⟨fun σ' H'' => ∃ k : Wd, σ' = [some (.ref u), some (.ref c), some (.int m), some (.ref f), some (.int (0 + (i : Int))), some (.int a), some (.int b), some (.int mu), some (.str (wn k))] ∧ H'' = H' ∧ (k = .change → a ≠ b ∧ at0 caps a = at0 caps b) ∧ (k = .pour → a ≠ b), ?_, ?_⟩
        · refine ⟨_, rfl, rfl, _, rfl, ?_⟩
          by_cases hp : k = .pour
          · exact ifT (wnT (j := .pour) hp) ⟨_, rfl, _, rfl, rfl, _, rfl, ifD (fun _ => ⟨.put, rfl, rfl, (fun z => by cases z), fun z => by cases z⟩) (fun hab => ⟨k, rfl, rfl, hk, fun _ z => hab (by rw [z])⟩)⟩
          · exact ifF (wnF (j := .pour) hp) (ifF rfl ⟨k, rfl, rfl, hk, fun z => absurd z hp⟩)
        · rintro σ' H'' ⟨k, rfl, rfl, hk, hp⟩
          refine ⟨_, rfl, .inl ⟨rfl, _, SqL.of gf5⟩, _, rfl, _, rfl, _, rfl, _, rfl, (by show 2 ≤ sizeLine; decide), fun s3 hs3 => ?_⟩
          have sm5 : Same H'' (upd H'' s3 (.lst [.int b, .int mu])) := same_new hs3
          refine ⟨_, rfl, (by show 2 ≤ sizeLine; decide), fun s4 hs4 => ?_⟩
          have sm6 := sm5.trans (same_new (o := .tup [.str "put", .str "draw"]) hs4)
          have n34 : s3 ≠ s4 := fun z => by rw [← z, upd_same] at hs4; cases hs4
          refine ⟨s4, _, rfl, .inr (SqT.of upd_same), rfl, rfl, .inr ⟨_, rfl, s3, _, _, _, rfl, rfl, SqL.of (by rw [upd_ne n34]; exact upd_same), pick2, (by show 3 ≤ sizeLine; decide), fun t ht => ?_⟩⟩
          have sm7 := sm6.trans (same_new (o := .tup [.str (wn k), .int a, .int (if inV (.str (wn k)) [.str "put", .str "draw"] = true then mu else (b : Int))]) ht)
          have tf : f ≠ t := ne_of_none (sm6 _ _ gf5) ht
          have tl := gA5.len
          refine ⟨f, _, _, rfl, rfl, sm7 _ _ gf5, Nat.lt_of_lt_of_le (by omega : ts.length < 100) (by decide), ?_⟩
          have bl : Fr f (upd (upd (upd H'' s3 (.lst [.int b, .int mu])) s4 (.tup [.str "put", .str "draw"])) t (.tup [.str (wn k), .int a, .int (if inV (.str (wn k)) [.str "put", .str "draw"] = true then mu else (b : Int))])) _ := fr_mut (o := .lst (ts ++ [.ref t])) (Fr.refl _ _)
          refine ⟨_, _, _, _, _, ts ++ [.ref t], ds ++ [mkD k a b mu], rfl, upd_same, ?_, by simp [gl], ?_, ?_, ?_⟩
          · refine A2.app (A2.mono (fun _ _ q => (q.same sm7).fr bl (sm7 _ _ gf5) bl_l) gA5) ⟨⟨t, rfl, ?_⟩, trivial⟩
            refine bl _ _ tf.symm ?_
            rw [upd_same, mkD_word, mkD_fst, mkD_last, inV_word]
            by_cases hpd : k = .put ∨ k = .draw
            · rw [if_pos hpd, if_pos (decide_eq_true hpd)]
            · rw [if_neg hpd, if_neg (by rw [decide_eq_false hpd]; exact Bool.false_ne_true)]
          · intro d hd
            rcases List.mem_append.mp hd with q | q
            · exact gok d q
            · obtain rfl : d = mkD k a b mu := by simpa using q
              exact mkD_ok ha hb mb.1 mb.2 hp hk
          · exact (w5.same sm7).mut fu
          · exact fr_new (fr5.trans (Fr.of sm7)) hf
    · rintro σ H' ⟨v4, v5, v6, v7, v8, ts, ds, rfl, gf, gA, gl, gok, wl, fr⟩
      rw [Int.toNat_natCast] at gl
      exact ⟨_, rfl, hq H' f ts ds hf gf gA gl gok wl fr⟩
end
end Kp

namespace Kp
open PySem PySem.Spec PyProof.Rows L2 KpR
/-! ### lists of ints compared; slices -/
def pdI (l : List Int) : List PyData := l.map PyData.int
section
variable {K : PySem.W.Frag} {H : Hp}
theorem dpI : ∀ l : List Int, DpAll K H (vi l) (pdI l)
  | [] => .nil
  | i :: l => .cons (.int i) (dpI l)
theorem lay_i : ∀ l : List Int, PyData.canLayAll0 (pdI l) = true
  | [] => by simp [pdI, PyData.canLayAll0]
  | i :: l => by
    have := lay_i l
    simp only [pdI, List.map_cons, PyData.canLayAll0, PyData.canLay0, Bool.true_and]
    exact this
theorem dep_i : ∀ l : List Int, PyData.depthAll (pdI l) = 0
  | [] => by simp [pdI, PyData.depthAll]
  | i :: l => by
    have := dep_i l
    simp only [pdI, List.map_cons, PyData.depthAll, PyData.depth]
    rw [show PyData.depthAll (List.map PyData.int l) = 0 from this]
    rfl
theorem shape_i (l : List Int) : SeqAt.shaped (.list (pdI l)) = true := by
  unfold SeqAt.shaped
  simp only [PyData.canLay0, PyData.depth, lay_i, dep_i]
  rfl
theorem eqv_i : ∀ l m : List Int, PyData.eqvAll (pdI l) (pdI m) = decide (l = m)
  | [], [] => by simp [pdI, PyData.eqvAll]
  | [], _ :: _ => by simp [pdI, PyData.eqvAll]
  | _ :: _, [] => by simp [pdI, PyData.eqvAll]
  | i :: l, j :: m => by
    have := eqv_i l m
    simp only [pdI, List.map_cons, PyData.eqvAll, PyData.eqv]
    rw [show PyData.eqvAll (List.map PyData.int l) (List.map PyData.int m) = decide (l = m) from this]
    by_cases h1 : i = j
    · by_cases h2 : l = m <;> simp [h1, h2]
    · simp [h1]
theorem ne_ints {a b : Addr} {l m : List Int} {Q : VK} (h1 : SqL K H a (vi l)) (h2 : SqL K H b (vi m)) (e : l = m) (q : Q (.bl false) H) : rNeD K (.ref a) (.ref b) H Q := by
  refine ⟨_, _, .lst h1 (dpI l), .lst h2 (dpI m), shape_i l, shape_i m, ?_⟩
  have z : PyData.eqv (.list (pdI l)) (.list (pdI m)) = true := by
    simp only [PyData.eqv, eqv_i]
    exact decide_eq_true e
  rw [z]
  exact q
theorem eq_ints {a b : Addr} {l m : List Int} {Q : VK} (h1 : SqL K H a (vi l)) (h2 : SqL K H b (vi m)) (q : Q (.bl (decide (l = m))) H) : rEqD K (.ref a) (.ref b) H Q := by
  refine ⟨_, _, .lst h1 (dpI l), .lst h2 (dpI m), shape_i l, shape_i m, ?_⟩
  have z : PyData.eqv (.list (pdI l)) (.list (pdI m)) = decide (l = m) := by simp only [PyData.eqv, eqv_i]
  rw [z]
  exact q
end
theorem cut_take {xs : List V} {n : Nat} : cutV xs none (some (n : Int)) = xs.take n := by
  unfold cutV
  rw [HT.sIx_nat, HT.sIx_none, List.drop_zero, Nat.sub_zero]
  by_cases h : n ≤ xs.length
  · rw [Nat.min_eq_left h]
  · rw [Nat.min_eq_right (by omega), List.take_length, List.take_of_length_le (by omega)]
theorem cut_drop {xs : List V} {n : Nat} (h : n ≤ xs.length) : cutV xs (some (n : Int)) none = xs.drop n := by
  unfold cutV
  rw [HT.sIx_nat, HT.sIx_none, Nat.min_eq_left h]
  exact List.take_of_length_le (by rw [List.length_drop]; omega)
section
variable {K : PySem.W.Frag} {mg : Str → Option Value}
/-- behind's keywords -/
theorem kbParts (T : Tx K mg) : ∃ mv : List Value, KBn K T.dbehind ["row", "start", "parts", "times"] 2 ["parts"] (fun us ws => us ++ (ws ++ mv)) (fun vs zs => vs ++ (zs ++ [.int 1])) :=
  T.fbehind.kbinds0 2 ["parts"] [("times", .int 1)] (fun vs mz zs => vs ++ (zs ++ mz)) (by simp) (by simp) (fun r1 r2 r3 => r1.append (r3.append r2))
    (fun Dd doc pm an cdv ct us mv ws h1 h2 h3 => match us, mv, ws, h1, h2, h3 with
      | [_, _], [_], [_], _, _, _ => ⟨_, _, _, _, _, _, rfl, rfl, rfl⟩)
theorem kbTimes (T : Tx K mg) : ∃ mv : List Value, KBn K T.dbehind ["row", "start", "parts", "times"] 2 ["times"] (fun us ws => us ++ (mv ++ ws)) (fun vs zs => vs ++ ([.int 1] ++ zs)) :=
  T.fbehind.kbinds0 2 ["times"] [("parts", .int 1)] (fun vs mz zs => vs ++ (mz ++ zs)) (by simp) (by simp) (fun r1 r2 r3 => r1.append (r2.append r3))
    (fun Dd doc pm an cdv ct us mv ws h1 h2 h3 => match us, mv, ws, h1, h2, h3 with
      | [_, _], [_], [_], _, _, _ => ⟨_, _, _, _, _, _, rfl, rfl, rfl⟩)
theorem kbBoth (T : Tx K mg) : ∃ mv : List Value, KBn K T.dbehind ["row", "start", "parts", "times"] 2 ["parts", "times"] (fun us ws => us ++ ws) (fun vs zs => vs ++ zs) :=
  T.fbehind.kbinds0 2 ["parts", "times"] [] (fun vs mz zs => vs ++ zs) (by simp) (by simp) (fun r1 r2 r3 => r1.append r3)
    (fun Dd doc pm an cdv ct us mv ws h1 h2 h3 => match us, mv, ws, h1, h2, h3 with
      | [_, _], [], [_, _], _, _, _ => rfl)
end
section
variable {K : PySem.W.Frag} {H : Hp}
/-- a written list of ints, one of which is drawn -/
theorem pickL {l : Addr} {xs : List Int} {n : Nat} {Q : VK} (h : SqL K H l (vi xs)) (hn : n < xs.length) (q : Q (.int (at0 xs n)) H) : rIxL K (.ref l) (.int n) H Q := ⟨l, _, _, _, rfl, rfl, h, vi_at hn, q⟩
end
end Kp

namespace Kp
open PySem PySem.Spec PyProof.Rows L2 KpR LamX
theorem takes_len {X : Cx} {W : WX} {n : Nat} (tk : Takes X W) (hn : X.N.length = n) : Takes X (fun cls d σ H => σ.length = n → W cls d σ H) := fun u s' ⟨a, B, sI, pins, σ, H, cls, d, e, I, nb, up, sky, na, os, ag, w⟩ =>
  tk u s' ⟨a, B, sI, pins, σ, H, cls, d, e, I, nb, up, sky, na, os, ag, w (by rw [← hn]; exact I.len)⟩
def OutAt (H : Hp) (x : V) : Option Rf → Prop
  | none => x = .str "told"
  | some (.count w n) => ∃ p, x = .ref p ∧ H p = some (.tup [.str w, .int n])
  | some (.jar j) => ∃ p, x = .ref p ∧ H p = some (.tup [.str "jar", .int j])
theorem OutAt.same {H H' : Hp} {x : V} {r : Option Rf} (h : OutAt H x r) (e : Same H H') : OutAt H' x r := by
  cases r with
  | none => exact h
  | some r =>
    cases r with
    | count w n =>
      obtain ⟨p, rfl, h⟩ := h
      exact ⟨p, rfl, e _ _ h⟩
    | jar j =>
      obtain ⟨p, rfl, h⟩ := h
      exact ⟨p, rfl, e _ _ h⟩
def dueOf (caps st : List Int) (p n : Int) : Option Rf := match chk caps st p with
  | some r => some r
  | none => if 0 ≤ n ∧ n ≤ 1000 then none else some (.count "times" n)
section
variable {K : PySem.W.Frag} {mg : Str → Option Value}
/-- told: whichever way a refusal is taken up, such that its words are answered -/
def TSaid (T : Tx K mg) : (XK → Hp → VK → Prop) → Hp → VK → Prop := fun tl H Q =>
  ∀ E : XK, (∀ (r : Rf) (G : Hp), (∀ (H' : Hp) (x : V), OutAt H' x (some r) → Same G H' → Q x H') → rE T G E r) → tl E H (fun _ H' => Q (.str "told") H')
def saidL (K : PySem.W.Frag) {mg : Str → Option Value} (T : Tx K mg) : List (Value × Nat × (Addr → Value → Option Addr → TS)) :=
  [(.ref T.cBadCount, 1, fun a cls d => tRet (tTup (tCons (tXf a cls d T.cBadCount "what" (tVar 1)) (tCons (tXf a cls d T.cBadCount "count" (tVar 1)) tNil)))),
   (.ref T.cBadStart, 1, fun a cls d => tRet (tSl (rSlT K) (tTup (tCons (tC (.str "jar")) (tCons (tXf a cls d T.cBadStart "jar" (tVar 1)) (tCons (tCB (rIsX K a T.cBadStart cls d) (tCons (tVar 1) (tCons (tC (.ref T.cNoJar)) tNil))) tNil)))) tNoPart (tPart (tC (.int 2)))))]
theorem said_bad {T : Tx K mg} {G : Hp} {Q : VK} (D : Ends) (r : Rf) (hD : D.rt = Q) (hq : ∀ (H' : Hp) (x : V), OutAt H' x (some r) → Same G H' → Q x H') : rE T G (anyL 2 (wNam K (fun _ _ _ _ => False) D (saidL K T))) r := by
  subst hD
  intro H' d hd sm σ hl
  obtain ⟨v0, v1, rfl⟩ : ∃ v0 v1, σ = [v0, v1] := match σ, hl with
    | [v0, v1], _ => ⟨v0, v1, rfl⟩
  have no : ∀ {A : Prop}, false = true → A := fun z => by cases z
  have no' : ∀ {A : Prop}, true = false → A := fun z => by cases z
  cases r with
  | count x n =>
    refine ⟨true, T.emBadCount_BadCount, fun _ a ha => ?_, no'⟩
    refine ⟨_, rfl, rfl, rfl, d, _, _, rfl, hd, lk2 (by decide +kernel), _, rfl, rfl, rfl, d, _, _, rfl, hd, lk1, (by show 2 ≤ sizeLine; decide), fun p hp => ?_⟩
    exact hq _ _ ⟨p, rfl, upd_same⟩ (sm.trans (same_new hp))
  | jar j =>
    refine ⟨false, T.emBadStart_BadCount, no, fun _ => ⟨true, T.emBadStart_BadStart, fun _ a ha => ?_, no'⟩⟩
    refine ⟨_, rfl, rfl, rfl, d, _, _, rfl, hd, lk1, ?_⟩
    refine ⟨_, rfl, .ref T.cNoJar, .ref T.cNoJar, false, d, _, rfl, fun _ h => h, T.ixBadStart_NoJar, rfl, rfl, hd, (by show 3 ≤ sizeLine; decide), fun t ht => ?_⟩
    have s1 := same_new (o := HO.tup [V.str "jar", V.int j, V.bl false]) ht
    refine ⟨_, rfl, t, _, rfl, SqT.of upd_same, (fun h => absurd h.2 (show ¬ HT.sIx 3 3 (some 2) = 3 by decide)), fun q hq0 => ?_⟩
    exact hq _ _ ⟨q, rfl, upd_same⟩ ((sm.trans s1).trans (same_new hq0))
theorem said_gives {X : Cx} (T : Tx X.K X.mg) {g : Addr} {cdg : Value} {q : Str} : GivesTo X ["_law_ask", "e"] "_law_said" (defScope sLsaid) g cdg (defBody sLsaid) "_law_ask" q (TSaid T) := by
  intro f c' s H Q tl act hc h
  let K := X.K
  refine ⟨_, (pss_cons (ps_try_nam rfl rfl scLsaid.nd (fun W qn xe tk po => (pss_one (ps_expr (act (fun c d σ H => σ.length = 2 → W c d σ H) qn xe (anyL 2 W) _ _ (takes_len tk rfl) (fun _ _ σ' _ h hl => h σ' hl)))))
      (NamOk.cons (i := 1) rfl rfl ⟨rfl, by decide, .inl T.mBadCount⟩ (fun xa xo xc xd xq hz hf => (pss_one (ps_ret (pe_tup (pa_cons (pe_xf T.xfBadCount T.nBadCount_what hz hf (pv 1)) (pa_cons (pe_xf T.xfBadCount T.nBadCount_count hz hf (pv 1)) pa_nil))))))
      (NamOk.cons (i := 1) rfl rfl ⟨rfl, by decide, .inl T.mBadStart⟩ (fun xa xo xc xd xq hz hf => (pss_one (ps_ret (pe_slice (show SlR _ (rSlT K) from sl_tup) (pe_tup (pa_cons pe_str (pa_cons (pe_xf T.xfBadStart T.nBadStart_jar hz hf (pv 1)) (pa_cons (pe_callB (call_isX T.xcBadStart hz hf) rfl T.nisinstance (by decide +kernel) (pa_cons (pv 1) (pa_cons (pe_glob (v := .ref T.cNoJar) rfl T.mNoJar rfl) pa_nil))) pa_nil)))) po_none (po_some pe_int)))))
      NamOk.nil)))
      (pss_one (ps_ret pe_str))), ?_⟩
  refine ⟨rfl, hc, ?_⟩
  refine h _ fun r G hq => ?_
  exact said_bad _ r rfl hq
end
end Kp

namespace Kp
open PySem PySem.Spec PyProof.Rows L2 KpR LamX
section
variable {K : PySem.W.Frag} {mg : Str → Option Value}
def spLdue (T : Tx K mg) : Sp := fun vs H Q _ => ∃ (c a : Addr) (caps st : List Int) (p n : Int), vs = [.ref c, .ref a, .int p, .int n] ∧ SqL K H c (vi caps) ∧ caps.length ≤ 6 ∧ SqL K H a (vi st) ∧ p < 2 ^ 62 ∧
  ∀ (H' : Hp) (x : V), OutAt H' x (dueOf caps st p n) → Same H H' → Q x H'
def spLspoilt (T : Tx K mg) : Sp := fun vs H Q _ => ∃ (u c a : Addr) (caps st : List Int) (p : Int), vs = [.ref u, .ref c, .ref a, .int p] ∧ WellAt H u ∧ H c = some (.lst (vi caps)) ∧ c ≠ u ∧ Caps caps ∧ H a = some (.lst (vi st)) ∧ a ≠ u ∧ st.length = caps.length ∧ 1 ≤ p ∧ p ≤ 100 ∧
  ∀ (H' : Hp) (q : Addr) (st' : List Int), H q = none → H' q = some (.lst (vi st')) → WellAt H' u → Fr u H H' → Q (.ref q) H'
def outs (caps st : List Int) (p : Int) (i : Nat) : List Int := ((List.range i).filter (outJ caps st p)).map Int.ofNat
theorem outs_chk {caps st : List Int} {p : Int} (h : ¬ p < 1) (hl : st.length = caps.length) : (outs caps st p caps.length = [] ∧ chk caps st p = none) ∨ ∃ k r, outs caps st p caps.length = Int.ofNat k :: r ∧ chk caps st p = some (.jar k) := by
  unfold outs chk
  rw [if_neg h, if_pos hl, ← List.head?_filter]
  cases e : (List.range caps.length).filter (outJ caps st p) with
  | nil => exact .inl ⟨rfl, rfl⟩
  | cons k r => exact .inr ⟨k, r.map Int.ofNat, rfl, rfl⟩
theorem outs_succ {caps st : List Int} {p : Int} {i : Nat} : outs caps st p (i + 1) = if outJ caps st p i = true then outs caps st p i ++ [Int.ofNat i] else outs caps st p i := by
  unfold outs
  rw [List.range_succ, List.filter_append, List.map_append, List.filter_cons]
  split <;> simp_all
end
section
variable {P : Program} {w : World} {K : PySem.W.Frag} {mg : Str → Option Value} {base : Heap}
theorem okLdue (T : Tx K mg) : FnOk P w K mg base CX0 1 T.aLdue T.dLdue ["_law_caps_here", "_law_amounts_here", "_law_portions", "_law_many"] (spLdue T) := by
  refine T.fLdue.ok scLdue (fun vs H Q E h => ?_) (fun cdv A outer s H vs Q E hr h => ?_)
  · obtain ⟨c, a, caps, st, p, n, rfl, _⟩ := h
    rfl
  · obtain ⟨c, a, caps, st, p, n, rfl, hc, c6, ha, p2, hq⟩ := h
    refine ⟨_, (pss_cons (ps_if (pt_cmpR op_lt (pv 2) pe_int (nomark _)) (pss_one (ps_ret (pe_tup (pa_cons pe_str (pa_cons (pv 2) pa_nil))))) pss_nil)
      (pss_cons (ps_if (pt_cmpR op_ne (pe_callB call_len_seq rfl T.nlen PySem.boot_len (pa_cons (pv 1) pa_nil)) (pe_callB call_len_seq rfl T.nlen PySem.boot_len (pa_cons (pv 0) pa_nil)) (nomark _)) (pss_one (ps_ret (pe_tup (pa_cons pe_str (pa_cons (pe_callB call_len_seq rfl T.nlen PySem.boot_len (pa_cons (pv 1) pa_nil)) pa_nil))))) pss_nil)
      (pss_cons (ps_setLc (i := 4) (own := [("_law_at", 5)]) rfl scLdue.nd rfl rfl (sw_true rfl rfl rfl (by decide +kernel)) (pi_range1 rfl T.nrange (pa_cons (pe_callB call_len_seq rfl T.nlen PySem.boot_len (pa_cons (pv 0) pa_nil)) pa_nil)) (blkOk_by (own := [("_law_at", 5)]) (N := ["_law_caps_here", "_law_amounts_here", "_law_portions", "_law_many", "_law_bad", "_law_at"]) (sc := defScope sLdue) (by decide +kernel)) (fun _ _ _ _ _ => (pg_name (i := 5) scLdue.nd rfl (by first | exact Or.inl rfl | exact Or.inr rfl))) (fun _ _ _ _ _ => (pts_one (pt_not (pt_chain op_le op_le pe_int (pe_ix (r := rIxL K) ix_list (pv 1) (pv 5) (fun _ _ => rfl)) (pe_op op_mul (pe_ix (r := rIxL K) ix_list (pv 0) (pv 5) (fun _ _ => rfl)) (pv 2)))))) (fun _ _ _ _ _ => (pv 5)))
      (pss_cons (ps_if (pt_cmpR (op_neD hr.units) (pv 4) (pe_lst pa_nil) (nomark _)) (pss_one (ps_ret (pe_tup (pa_cons pe_str (pa_cons (pe_ix (r := rIxL K) ix_list (pv 4) pe_int (fun _ _ => rfl)) pa_nil))))) pss_nil)
      (pss_cons (ps_if (pt_not (pt_chain op_le op_le pe_int (pv 3) pe_int)) (pss_one (ps_ret (pe_tup (pa_cons pe_str (pa_cons (pv 3) pa_nil))))) pss_nil)
      (pss_one (ps_ret pe_str))))))), ?_⟩
    have ls : (vi st).length = st.length := List.length_map ..
    have lc : (vi caps).length = caps.length := List.length_map ..
    refine ⟨_, rfl, _, _, rfl, rfl, _, rfl, ifD (fun p1 => ?_) (fun p1 => ?_)⟩
    · refine ⟨_, rfl, (by show 2 ≤ sizeLine; decide), fun t ht => ?_⟩
      refine hq _ _ ?_ (same_new ht)
      unfold dueOf
      rw [chk_parts p1]
      exact ⟨t, rfl, upd_same⟩
    refine ⟨_, rfl, a, _, rfl, .inl ha, _, rfl, c, _, rfl, .inl hc, rfl, _, rfl, ?_⟩
    by_cases hl : st.length = caps.length
    rotate_left
    · refine iteNF (by rw [ls, lc]; intro z; exact hl (by injection z with z; omega)) ?_
      refine ⟨_, rfl, a, _, rfl, .inl ha, (by show 2 ≤ sizeLine; decide), fun t ht => ?_⟩
      refine hq _ _ ?_ (same_new ht)
      unfold dueOf
      rw [chk_len p1 hl]
      refine ⟨t, rfl, ?_⟩
      rw [← ls]
      exact upd_same
    refine iteNS (by rw [ls, lc, hl]) ?_
    refine ⟨_, rfl, c, _, rfl, .inl hc, _, rfl, ?_, ?_, fun D1 hD => ?_⟩
    · omega
    · have : ((2 : Int) ^ 62) > 100 := by decide
      omega
    refine lc_range (lo := 0) (n := (((vi caps).length : Nat) : Int).toNat) (fun i H' => H' D1 = some (.lst (vi (outs caps st p i))) ∧ (outs caps st p i).length ≤ i ∧ Same H H') ⟨upd_same, Nat.le_refl 0, same_new hD⟩ ?_ ?_
    · rintro i H' hi ⟨g, gl, sm⟩
      refine ⟨rfl, ?_⟩
      have lt : i < caps.length := by rw [Int.toNat_natCast, lc] at hi; exact hi
      have e0 : 0 + i = i := Nat.zero_add i
      refine ⟨_, rfl, _, rfl, a, _, _, _, rfl, rfl, sm.seq ha, vi_at (i := 0 + i) (by omega), ?_⟩
      have on : ∀ v : Int, v = Int.ofNat i → outJ caps st p i = true → ∃ acc, H' D1 = some (.lst acc) ∧ acc.length < sizeLine ∧ (upd H' D1 (.lst (acc ++ [V.int v]))) D1 = some (.lst (vi (outs caps st p (i + 1)))) ∧ (outs caps st p (i + 1)).length ≤ i + 1 ∧ Same H (upd H' D1 (.lst (acc ++ [V.int v]))) := fun v ev hb => by
        have e : outs caps st p (i + 1) = outs caps st p i ++ [Int.ofNat i] := by rw [outs_succ, if_pos hb]
        refine ⟨_, g, Nat.lt_of_lt_of_le (by rw [List.length_map]; omega : (vi (outs caps st p i)).length < 100) (by decide), ?_, by rw [e]; simp; omega, same_mut sm hD⟩
        rw [upd_same, e, ev]
        simp
      have off : outJ caps st p i = false → H' D1 = some (.lst (vi (outs caps st p (i + 1)))) ∧ (outs caps st p (i + 1)).length ≤ i + 1 ∧ Same H H' := fun hb => by
        have e : outs caps st p (i + 1) = outs caps st p i := by rw [outs_succ, hb, if_neg Bool.false_ne_true]
        rw [e]
        exact ⟨g, by omega, sm⟩
      refine ⟨_, _, rfl, rfl, _, rfl, ?_⟩
      by_cases g1 : 0 ≤ at0 st (0 + i)
      · refine ifT (decide_eq_true g1) ?_
        refine ⟨_, rfl, _, rfl, c, _, _, _, rfl, rfl, sm.seq hc, vi_at (i := 0 + i) (by omega), _, rfl, _, _, rfl, rfl, .inr (mulP (by omega) p2), _, _, rfl, rfl, _, rfl, ?_⟩
        by_cases g2 : at0 st (0 + i) ≤ at0 caps (0 + i) * p
        · refine iteNS g2 ?_
          rw [e0] at g1 g2
          exact off (outJ_no.mpr ⟨g1, g2⟩)
        · refine iteNF g2 ?_
          rw [e0] at g1 g2
          refine ⟨_, rfl, on _ ?_ ?_⟩
          · show ((0 + i : Nat) : Int) = _
            rw [e0]
            rfl
          · cases hb : outJ caps st p i with
            | true => rfl
            | false => exact absurd (outJ_no.mp hb).2 g2
      · refine ifF (decide_eq_false g1) ?_
        rw [e0] at g1
        refine ⟨_, rfl, ⟨_, rfl, on _ ?_ ?_⟩⟩
        · show ((0 + i : Nat) : Int) = _
          rw [e0]
          rfl
        · cases hb : outJ caps st p i with
          | true => rfl
          | false => exact absurd (outJ_no.mp hb).1 g1
    · rintro H' ⟨g, gl, sm⟩
      rw [Int.toNat_natCast, lc] at g gl
      have sm2 : ∀ {G : Hp} {l : Addr} {o : HO}, Same H' G → G l = none → Same H (upd G l o) := fun s hl => (sm.trans s).trans (same_new hl)
      rcases outs_chk p1 hl with ⟨e, ek⟩ | ⟨k, r, e, ek⟩
      · rw [e] at g
        refine ⟨_, rfl, (by show 0 ≤ sizeLine; decide), fun l hl2 => ?_⟩
        refine neD (K := K) (d := .list []) (e := .list []) (.lst (SqL.of (same_new hl2 _ _ g)) .nil) (.lst (SqL.of upd_same) .nil) ⟨by decide, by decide⟩ ⟨by decide, by decide⟩ ⟨_, rfl, ifF (by decide) ?_⟩
        have sl := sm2 (Same.refl _) hl2 (o := HO.lst [])
        have dn : dueOf caps st p n = if 0 ≤ n ∧ n ≤ 1000 then none else some (.count "times" n) := by
          unfold dueOf
          rw [ek]
        have bad : ¬ (0 ≤ n ∧ n ≤ 1000) → ∀ t, (upd H' l (HO.lst [])) t = none → Q (.ref t) (upd (upd H' l (HO.lst [])) t (.tup [.str "times", .int n])) := fun z t ht => by
          refine hq _ _ ?_ (sl.trans (same_new ht))
          rw [dn, if_neg z]
          exact ⟨t, rfl, upd_same⟩
        refine ⟨_, rfl, _, _, rfl, rfl, _, rfl, ?_⟩
        by_cases g1 : 0 ≤ n
        rotate_left
        · refine ifF (decide_eq_false g1) ?_
          exact ⟨_, rfl, iteT ⟨_, rfl, (by show 2 ≤ sizeLine; decide), bad (fun z => g1 z.1)⟩⟩
        refine ifT (decide_eq_true g1) ?_
        refine ⟨_, _, rfl, rfl, _, rfl, ?_⟩
        by_cases g2 : n ≤ 1000
        rotate_left
        · refine iteNF g2 ?_
          exact ⟨_, rfl, (by show 2 ≤ sizeLine; decide), bad (fun z => g2 z.2)⟩
        refine iteNS g2 ?_
        refine hq _ _ ?_ sl
        rw [dn, if_pos ⟨g1, g2⟩]
        rfl
      · rw [e] at g
        refine ⟨_, rfl, (by show 0 ≤ sizeLine; decide), fun l hl2 => ?_⟩
        have gD := same_new (o := .lst []) hl2 _ _ g
        refine neD (K := K) (d := .list (pdI (Int.ofNat k :: r))) (e := .list []) (.lst (SqL.of gD) (dpI _)) (.lst (SqL.of upd_same) .nil) ⟨by simp only [PyData.canLay0, lay_i], by simp only [PyData.depth, dep_i]; decide⟩ ⟨by decide, by decide⟩ ⟨_, rfl, ifT (by unfold pdI; rfl) ?_⟩
        refine ⟨_, rfl, D1, _, _, _, rfl, rfl, SqL.of gD, vi_at (i := 0) (by simp), (by show 2 ≤ sizeLine; decide), fun t ht => ?_⟩
        refine hq _ _ ?_ ((sm2 (Same.refl _) hl2).trans (same_new ht))
        unfold dueOf
        rw [ek]
        exact ⟨t, rfl, upd_same⟩
theorem okLspoilt (T : Tx K mg) : FnOk P w K mg base CX0 2 T.aLspoilt T.dLspoilt ["_law_well_here", "_law_caps_here", "_law_amounts_here", "_law_portions"] (spLspoilt T) := by
  refine T.fLspoilt.ok scLspoilt (fun vs H Q E h => ?_) (fun cdv A outer s H vs Q E hr h => ?_)
  · obtain ⟨u, c, a, caps, st, p, rfl, _⟩ := h
    rfl
  · obtain ⟨u, c, a, caps, st, p, rfl, hw, hc, cu, hC, ha, au, hl, p1, p2, hq⟩ := h
    refine ⟨_, (pss_cons (ps_set (i := 4) scLspoilt.nd rfl (by first | exact Or.inl rfl | exact Or.inr rfl) (pe_callTy call_list_of rfl T.nlist (by decide +kernel) (pa_cons (pv 2) pa_nil)))
      (pss_cons (ps_set (i := 5) scLspoilt.nd rfl (by first | exact Or.inl rfl | exact Or.inr rfl) (pe_call (okLdraw T) (hr.mono (by decide)) rfl T.gLdraw T.fLdraw.kp T.bLdraw .nil pass0 (pa_cons (pv 0) (pa_cons pe_int pa_nil))))
      (pss_cons (ps_if (pt_cmpR op_eq (pv 5) pe_int (nomark _)) (pss_one (ps_ret (pe_slice sl_list (pv 4) (po_some pe_int) po_none))) pss_nil)
      (pss_cons (ps_if (pt_cmpR op_eq (pv 5) pe_int (nomark _)) (pss_one (ps_ret (pe_op op_catR (pv 4) (pe_lst (pa_cons pe_int pa_nil))))) pss_nil)
      (pss_cons (ps_if (pt_cmpR op_eq (pv 5) pe_int (nomark _)) (pss_one (ps_ret (pe_lst pa_nil))) pss_nil)
      (pss_cons (ps_for PassesOwn.never rfl (pi_range1 rfl T.nrange (pa_cons (pe_op op_sub (pv 5) pe_int) pa_nil)) (pg_name (i := 6) scLspoilt.nd rfl (by first | exact Or.inl rfl | exact Or.inr rfl)) (pss_cons (ps_set (i := 7) scLspoilt.nd rfl (by first | exact Or.inl rfl | exact Or.inr rfl) (pe_call (okLdraw T) (hr.mono (by decide)) rfl T.gLdraw T.fLdraw.kp T.bLdraw .nil pass0 (pa_cons (pv 0) (pa_cons (pe_callB call_len_seq rfl T.nlen PySem.boot_len (pa_cons (pv 1) pa_nil)) pa_nil))))
      (pss_one (ps_asg (pe_ix (r := rIxL K) ix_list (pe_lst (pa_cons (pe_un un_neg pe_int) (pa_cons (pe_op op_add (pe_op op_mul (pe_ix (r := rIxL K) ix_list (pv 1) (pv 7) (fun _ _ => rfl)) (pv 3)) pe_int) (pa_cons (pe_op op_pow pe_int pe_int) pa_nil)))) (pe_call (okLdraw T) (hr.mono (by decide)) rfl T.gLdraw T.fLdraw.kp T.bLdraw .nil pass0 (pa_cons (pv 0) (pa_cons pe_int pa_nil))) (fun _ _ => rfl)) (pg_sub (pv 4) (pv 7) set_list)))))
      (pss_one (ps_ret (pv 4))))))))), ?_⟩
    have ls : (vi st).length = st.length := List.length_map ..
    have lc : (vi caps).length = caps.length := List.length_map ..
    have c1 := hC.l1
    have c6 := hC.l6
    refine ⟨_, rfl, a, _, rfl, .inl (SqL.of ha), fun l hl0 => ?_⟩
    have lu := hw.ne hl0
    refine ⟨_, rfl, u, 5, rfl, hw.new hl0, by decide, by decide, fun H1 d ld w1 f1 => ?_⟩
    have g1 : H1 l = some (.lst (vi st)) := f1 _ _ lu upd_same
    have fr1 : Fr u H H1 := (Fr.of (same_new hl0)).trans f1
    have l0 : H l = none := hl0
    have out : ∀ (H' : Hp) (q : Addr) (st' : List Int), Same H1 H' → H1 q = none → H' q = some (.lst (vi st')) → Q (.ref q) H' := fun H' q st' sm hq0 h => hq H' q st' (fr_free fr1 (w1.ne hq0) hq0) h (w1.same sm) (fr1.trans (Fr.of sm))
    refine ⟨_, rfl, rfl, _, rfl, ifD (fun e0 => ?_) (fun e0 => ?_)⟩
    · refine ⟨_, rfl, _, rfl, l, _, rfl, SqL.of g1, fun sl hsl => out _ sl (st.drop 1) (same_new hsl) hsl ?_⟩
      rw [upd_same, show ((1 : Int)) = ((1 : Nat) : Int) from rfl, cut_drop (by rw [ls]; omega)]
      simp only [vi, List.map_drop]
    refine ⟨_, rfl, rfl, _, rfl, ifD (fun e1 => ?_) (fun e1 => ?_)⟩
    · refine ⟨_, rfl, (by show 1 ≤ sizeLine; decide), fun m hm => ⟨l, m, vi st, vi [0], rfl, rfl, SqL.of (same_new hm _ _ g1), SqL.of upd_same, Nat.le_trans (by rw [ls]; simp; omega : (vi st).length + (vi [0]).length ≤ 100) (by decide), fun q hq0 => ?_⟩⟩
      refine out _ q (st ++ [0]) ((same_new hm).trans (same_new hq0)) ((same_new hm).free hq0) ?_
      rw [upd_same]
      simp
    refine ⟨_, rfl, rfl, _, rfl, ifD (fun e2 => ?_) (fun e2 => ?_)⟩
    · exact ⟨(by show 0 ≤ sizeLine; decide), fun m hm => out _ m [] (same_new hm) hm upd_same⟩
    have d2 : 3 ≤ d := by
      have z0 : d ≠ 0 := fun z => e0 (by rw [z]; rfl)
      have z1 : d ≠ 1 := fun z => e1 (by rw [z]; rfl)
      have z2 : d ≠ 2 := fun z => e2 (by rw [z]; rfl)
      omega
    refine ⟨_, rfl, _, _, rfl, rfl, _, rfl, by omega, by omega, ?_⟩
    refine for_range (lo := 0) (n := ((d : Int) - 2).toNat) (fun i σ H' => ∃ (v6 v7 : Option V) (st' : List Int), σ = [some (.ref u), some (.ref c), some (.ref a), some (.int p), some (.ref l), some (.int d), v6, v7] ∧ H' l = some (.lst (vi st')) ∧ st'.length = caps.length ∧ WellAt H' u ∧ Fr u H H')
      ⟨none, none, st, rfl, g1, hl, w1, fr1⟩ ?_ ?_
    · rintro i σ H' hi ⟨v6, v7, st', rfl, g, gl, wl, fr⟩
      have gc := fr _ _ cu hc
      refine ⟨_, rfl, _, rfl, c, _, rfl, .inl (SqL.of gc), u, _, rfl, wl, by omega, by omega, fun H2 x lx w2 f2 => ?_⟩
      have gc2 := f2 _ _ cu gc
      have g2 := f2 _ _ lu g
      have hx : x < caps.length := by omega
      have k1 := hC.hi x hx
      have k0 := hC.lo x hx
      have t0 : 0 ≤ at0 caps x * p := Int.mul_nonneg (by omega) (by omega)
      refine ⟨_, rfl, _, rfl, _, rfl, c, _, _, _, rfl, rfl, SqL.of gc2, vi_at hx, _, rfl, _, _, rfl, rfl, .inr ⟨by omega, by omega⟩, ?_⟩
      refine ⟨_, _, rfl, rfl, _, _, rfl, rfl, ⟨by decide, by decide, by decide⟩, (by show 3 ≤ sizeLine; decide), fun s hs => ?_⟩
      have su := w2.ne hs
      refine ⟨_, rfl, u, 3, rfl, w2.new hs, by decide, by decide, fun H3 n ln w3 f3 => ?_⟩
      have n3 : n < 3 := by omega
      refine ⟨s, vi [-1, at0 caps x * p + 1, 10 ^ (20 : Int).toNat], _, _, rfl, rfl, SqL.of (f3 _ _ su upd_same), vi_at n3, ?_⟩
      have g3 : H3 l = some (.lst (vi st')) := f3 _ _ lu (same_new hs _ _ g2)
      refine ⟨_, rfl, _, rfl, l, _, _, x, rfl, rfl, g3, ixN_nat (by rw [List.length_map]; omega), ?_⟩
      refine ⟨_, _, st'.set x _, rfl, by rw [upd_same, vi_set], by rw [List.length_set]; exact gl, w3.mut lu, fr_new (((fr.trans f2).trans (Fr.of (same_new hs))).trans f3) l0⟩
    · rintro σ H' ⟨v6, v7, st', rfl, g, gl, wl, fr⟩
      exact ⟨_, rfl, hq H' l st' l0 g wl fr⟩
end
end Kp

namespace Kp
open PySem PySem.Spec PyProof.Rows L2 KpR LamX
/-- all but the list at u and the tables stay -/
def Kn (u : Addr) (H H' : Hp) : Prop := ∀ b o, b ≠ u → H b = some o → (∀ ps, o ≠ .tbl ps) → H' b = some o
theorem Kn.refl (u : Addr) (H : Hp) : Kn u H H := fun _ _ _ h _ => h
theorem Kn.trans {u : Addr} {H H1 H2 : Hp} (a : Kn u H H1) (b : Kn u H1 H2) : Kn u H H2 := fun c o n h t => b c o n (a c o n h t) t
theorem Kn.fr {u : Addr} {H H' : Hp} (f : Fr u H H') : Kn u H H' := fun b o n h _ => f b o n h
theorem Kn.ext {u : Addr} {H H' : Hp} (f : ExtN H H') : Kn u H H' := fun b o _ h t => f b o h t
theorem Kn.free {u : Addr} {H H' : Hp} {p : Addr} (k : Kn u H H') (n : p ≠ u) (h : H' p = none) : (∀ ps, H p ≠ some (.tbl ps)) → H p = none := fun t => by
  cases z : H p with
  | none => rfl
  | some o => rw [k p o n z (fun ps e => t ps (by rw [z, e]))] at h; cases h
theorem ExtN.well {H H' : Hp} {u : Addr} (e : ExtN H H') (h : WellAt H u) : WellAt H' u := by
  obtain ⟨a, b, c, h⟩ := h
  exact ⟨a, b, c, e _ _ h fun _ z => by cases z⟩
theorem Tabs.fr {T : List (Addr × Str)} {H H' : Hp} {u : Addr} (t : Tabs T H) (w : WellAt H u) (f : Fr u H H') : Tabs T H' := fun p hp => by
  obtain ⟨ps, h1, h2, h3⟩ := t p hp
  obtain ⟨a, b, c, h⟩ := w
  refine ⟨ps, f _ _ (fun z => by rw [z, h] at h1; cases h1) h1, h2, fun pos cv hc => ?_⟩
  obtain ⟨x, e1, e2⟩ := h3 pos cv hc
  exact ⟨x, e1, f _ _ (fun z => by rw [z, h] at e2; unfold CodeO at e2; cases e2) e2⟩
section
variable {K : PySem.W.Frag} {mg : Str → Option Value}
theorem DeedAt.kn {T : Tx K mg} {w : Addr} {H H' : Hp} {u : HO} {v : V} {d : D} (e : Kn w H H') (hw : H w = some u) (hb : Blank u) (h : DeedAt T H v d) : DeedAt T H' v d := by
  obtain ⟨p, dx, rfl, h⟩ := h
  refine ⟨p, dx, rfl, ?_⟩
  cases d <;> exact e _ _ (fun z => by rw [z, hw] at h; cases h; exact nb2 hb) h fun _ z => by cases z
theorem JarsAt.kn {T : Tx K mg} {w : Addr} {H H' : Hp} {u : HO} {p : Addr} {caps : List Int} (e : Kn w H H') (hw : H w = some u) (hb : Blank u) (h : JarsAt T H p caps) : JarsAt T H' p caps := by
  obtain ⟨dx, t, h1, h2⟩ := h
  exact ⟨dx, t, e _ _ (fun z => by rw [z, hw] at h1; cases h1; exact nb1 hb) h1 fun _ z => (by cases z), e _ _ (fun z => by rw [z, hw] at h2; cases h2; exact nbT hb) h2 fun _ z => (by cases z)⟩
theorem RowAt.kn {T : Tx K mg} {w : Addr} {H H' : Hp} {u : HO} {p : Addr} {caps : List Int} {ds : List D} (e : Kn w H H') (hw : H w = some u) (hb : Blank u) (h : RowAt T H p caps ds) : RowAt T H' p caps ds := by
  obtain ⟨dx, j, t, vs, h1, h2, h3, h4⟩ := h
  exact ⟨dx, j, t, vs, e _ _ (fun z => by rw [z, hw] at h1; cases h1; exact nb2 hb) h1 fun _ z => (by cases z), h2.kn e hw hb, e _ _ (fun z => by rw [z, hw] at h3; cases h3; exact nbT hb) h3 fun _ z => (by cases z), A2.mono (fun _ _ q => q.kn e hw hb) h4⟩
theorem OutAt.ext {H H' : Hp} {x : V} {r : Option Rf} (h : OutAt H x r) (e : ExtN H H') : OutAt H' x r := by
  cases r with
  | none => exact h
  | some r =>
    cases r with
    | count w n =>
      obtain ⟨p, rfl, h⟩ := h
      exact ⟨p, rfl, e _ _ h fun _ z => by cases z⟩
    | jar j =>
      obtain ⟨p, rfl, h⟩ := h
      exact ⟨p, rfl, e _ _ h fun _ z => by cases z⟩
theorem kbFate (T : Tx K mg) : ∃ mv : List Value, KBn K T.dfate ["row", "start", "parts"] 2 ["parts"] (fun us ws => us ++ (ws ++ mv)) (fun vs zs => vs ++ (zs ++ [])) :=
  T.ffate.kbinds0 2 ["parts"] [] (fun vs mz zs => vs ++ (zs ++ mz)) (by simp) (by simp) (fun r1 r2 r3 => r1.append (r3.append r2))
    (fun Dd doc pm an cdv ct us mv ws h1 h2 h3 => match us, mv, ws, h1, h2, h3 with
      | [_, _], [], [_], _, _, _ => rfl)
end
theorem Fun.okT {P : Program} {w : World} {K : PySem.W.Frag} {mg : Str → Option Value} {base : Heap} {x qual : Str} {st : Stmt} {f : Addr} {fd : FuncData} {N ps : List Str} {k : Nat} {sp : Sp} (F : L2.Fun K x qual st f fd) (S : FnScope N ps (defScope st)) (len : ∀ vs H Q E, sp vs H Q E → vs.length = ps.length)
    (hbody : ∀ (A : Around) (outer : List Env) (s : Shared) (H : Hp) (vs : List V) (Q : VK) (E : XK), Room k (A.deeper (envOfC qual (defScope st) s.heap.objs.size f fd.code)) → sp vs H Q E →
      ∃ t, PSs (cxOf CX0 P w K mg base N qual (defScope st) f fd.code A outer s H E).nox (defBody st) t ∧ t { nx := fun _ H' => Q .non H', rt := Q } (start N vs) H) : FnOk P w K mg base CX0 (k + 1) f fd ps sp := by
  obtain ⟨oc, od, kV, doc, pm, an, cdv, ct, osl, rfl, lk, hcd⟩ := F.ex
  refine fn_of lk hcd S len fun A outer s H vs Q E hr hsp => ?_
  obtain ⟨t, h, q⟩ := hbody A outer s H vs Q E hr hsp
  exact ⟨t, h.nox, q⟩
section
def lamQ : Str := (envOfC "law" (defScope slaw) 0 0 .none).qual ++ "<lambda>"
end
section
variable {K : PySem.W.Frag} {mg : Str → Option Value}
theorem chk_stand {caps st : List Int} {p : Int} (p1 : 1 ≤ p) (h : Stand caps p st) : chk caps st p = none := chk_ok (by omega) h.len fun k hk => outJ_no.mpr ⟨h.lo k hk, h.hi k hk⟩
theorem said_behind {T : Tx K mg} {H : Hp} {r a : Addr} {ds : List D} {caps st : List Int} {p n : Int} {Q : VK} {E : XK} (hR : RowAt T H r caps ds) (ok : ∀ d ∈ ds, d.ok caps) (hS : SqL K H a (vi st) ∨ SqT K H a (vi st)) (hp : p < 2 ^ 62)
    (hE : ∀ (r : Rf) (G : Hp), (∀ (H' : Hp) (x : V), OutAt H' x (some r) → Same G H' → Q x H') → rE T G E r) (hq : ∀ (H' : Hp) (x : V), OutAt H' x (dueOf caps st p n) → Same H H' → Q x H') :
    spbehind T [.ref r, .ref a, .int p, .int n] H (fun _ H' => Q (.str "told") H') E := by
  refine ⟨r, a, ds, caps, st, p, n, rfl, hR, ok, hS, hp, fun rr e => hE rr H fun H' x ho s => hq H' x ?_ s, fun e z => hE _ H fun H' x ho s => hq H' x ?_ s, fun e n0 n1 H' q _ _ s => hq H' _ ?_ s⟩
  · unfold dueOf
    rw [e]
    exact ho
  · unfold dueOf
    rw [e]
    show OutAt H' x (if 0 ≤ n ∧ n ≤ 1000 then none else some (.count "times" n))
    rw [if_neg z]
    exact ho
  · unfold dueOf
    rw [e]
    show OutAt H' _ (if 0 ≤ n ∧ n ≤ 1000 then none else some (.count "times" n))
    rw [if_pos ⟨n0, n1⟩]
    rfl
theorem said_fate {T : Tx K mg} {H : Hp} {r a : Addr} {ds : List D} {caps st : List Int} {p : Int} {rf : Rf} {Q : VK} {E : XK} (hR : RowAt T H r caps ds) (hS : SqL K H a (vi st) ∨ SqT K H a (vi st)) (hp : p < 2 ^ 62) (hc : chk caps st p = some rf)
    (hE : ∀ (r : Rf) (G : Hp), (∀ (H' : Hp) (x : V), OutAt H' x (some r) → Same G H' → Q x H') → rE T G E r) (hq : ∀ (H' : Hp) (x : V), OutAt H' x (some rf) → Same H H' → Q x H') :
    spfate T [.ref r, .ref a, .int p] H (fun _ H' => Q (.str "told") H') E :=
  ⟨r, a, ds, caps, st, p, rf, rfl, hR, hS, hp, hc, hE rf H fun H' x ho s => hq H' x ho s⟩
def WordsOk : Option Rf → Prop
  | some (.count w _) => w = "parts" ∨ w = "start" ∨ w = "times"
  | _ => True
theorem due_words {caps st : List Int} {p n : Int} : WordsOk (dueOf caps st p n) := by
  unfold dueOf chk
  split
  · rename_i r e
    split at e
    · cases e
      exact .inl rfl
    · split at e
      · cases z : (List.range caps.length).find? (outJ caps st p) with
        | none => rw [z] at e; cases e
        | some i => rw [z] at e; cases e; trivial
      · cases e
        exact .inr (.inl rfl)
  · split
    · trivial
    · exact .inr (.inr rfl)
def dOut : Option Rf → PyData
  | none => .str "told"
  | some (.count w n) => .tuple [.str w, .int n]
  | some (.jar j) => .tuple [.str "jar", .int j]
theorem OutAt.dp {H : Hp} {x : V} : ∀ {r : Option Rf}, OutAt H x r → Dp K H x (dOut r)
  | none, h => by
    have h : x = .str "told" := h
    subst h
    exact .str _
  | some (.count w n), h => by
    obtain ⟨p, rfl, h⟩ := h
    exact .tup (SqT.of h) (.cons (.str _) (.cons (.int _) .nil))
  | some (.jar j), h => by
    obtain ⟨p, rfl, h⟩ := h
    exact .tup (SqT.of h) (.cons (.str _) (.cons (.int _) .nil))
theorem pair_flat {w : Str} {n : Int} (h : (PyData.str w).canLay0 = true) : Flat 60 (.tuple [.str w, .int n]) :=
  Flat.mono (n := 1) (Flat.tup (n := 0) (l := [PyData.str w, .int n]) (f := id) fun x hx => by
    rcases List.mem_cons.mp hx with rfl | hx
    · exact Flat.str h
    · obtain rfl : x = .int n := by simpa using hx
      exact Flat.int) (by decide)
theorem dOut_flat : ∀ {r : Option Rf}, WordsOk r → Flat 60 (dOut r)
  | none, _ => Flat.str (by decide +kernel)
  | some (.count w n), h => pair_flat (by rcases h with rfl | rfl | rfl <;> decide +kernel)
  | some (.jar j), _ => pair_flat (by decide +kernel)
theorem ne_out {H : Hp} {x y : V} {r : Option Rf} {Q : VK} (wd : WordsOk r) (hx : OutAt H x r) (hy : OutAt H y r) (q : Q (.bl false) H) : rNeD K x y H Q := by
  refine neD hx.dp hy.dp (dOut_flat wd) (dOut_flat wd) ?_
  have z : PyData.eqv (dOut r) (dOut r) = true := by
    cases r with
    | none => simp [dOut, PyData.eqv]
    | some r => cases r <;> simp [dOut, PyData.eqv, PyData.eqvAll]
  rw [z]
  exact q
def wordOf : Option Rf → Str
  | none => "t"
  | some (.count w _) => w
  | some (.jar _) => "jar"
theorem ix_out {H : Hp} {x : V} {Q : VK} : ∀ {r : Option Rf}, OutAt H x r → Q (.str (wordOf r)) H → rIx K x (.int 0) H Q
  | none, h, q => by
    have h : x = .str "told" := h
    subst h
    exact .inr (.inr ⟨_, _, _, rfl, rfl, by decide, rfl, q⟩)
  | some (.count w n), h, q => by
    obtain ⟨p, rfl, h⟩ := h
    exact .inr (.inl ⟨p, _, 0, _, rfl, rfl, SqT.of h, rfl, q⟩)
  | some (.jar j), h, q => by
    obtain ⟨p, rfl, h⟩ := h
    exact .inr (.inl ⟨p, _, 0, _, rfl, rfl, SqT.of h, rfl, q⟩)
theorem word_in {caps st : List Int} {p n : Int} : inV (.str (wordOf (dueOf caps st p n))) [.str "parts", .str "start", .str "jar"] = true → ∃ r, chk caps st p = some r ∧ ∀ m, dueOf caps st p m = some r := fun h => by
  cases e : chk caps st p with
  | some r => exact ⟨r, rfl, fun m => by unfold dueOf; rw [e]⟩
  | none =>
    unfold dueOf at h
    rw [e] at h
    have h : inV (.str (wordOf (if 0 ≤ n ∧ n ≤ 1000 then none else some (.count "times" n)))) [.str "parts", .str "start", .str "jar"] = true := h
    split at h
    · exact absurd h (by decide +kernel)
    · exact absurd h (by show ¬ inV (.str "times") _ = true; decide +kernel)
/-- what stands through the turns of one cell -/
structure Ms (T : Tx K mg) (tb u c r gd kp l : Addr) (caps sg : List Int) (ds : List D) (xs : List V) (H : Hp) : Prop where
  w : WellAt H u
  t : Tabs [(tb, lamQ)] H
  cu : c ≠ u
  gu : gd ≠ u
  ku : kp ≠ u
  lu : l ≠ u
  hc : H c = some (.lst (vi caps))
  hr : RowAt T H r caps ds
  hg : H gd = some (.lst (vi sg))
  hk : H kp = some (.lst (vi (runs caps 3 ds 1 sg)))
  hl : H l = some (.lst xs)
variable {T : Tx K mg} {tb u c r gd kp l : Addr} {caps sg : List Int} {ds : List D} {xs : List V} {H H' : Hp}
theorem Ms.kn (m : Ms T tb u c r gd kp l caps sg ds xs H) (k : Kn u H H') (w : WellAt H' u) (t : Tabs [(tb, lamQ)] H') : Ms T tb u c r gd kp l caps sg ds xs H' := by
  obtain ⟨o, ho, hb⟩ := m.w.ex
  exact ⟨w, t, m.cu, m.gu, m.ku, m.lu, k _ _ m.cu m.hc fun _ z => (by cases z), m.hr.kn k ho hb, k _ _ m.gu m.hg fun _ z => (by cases z), k _ _ m.ku m.hk fun _ z => (by cases z), k _ _ m.lu m.hl fun _ z => (by cases z)⟩
theorem Ms.fr (m : Ms T tb u c r gd kp l caps sg ds xs H) (f : Fr u H H') (w : WellAt H' u) : Ms T tb u c r gd kp l caps sg ds xs H' := m.kn (Kn.fr f) w (Tabs.fr m.t m.w f)
theorem Ms.same (m : Ms T tb u c r gd kp l caps sg ds xs H) (f : Same H H') : Ms T tb u c r gd kp l caps sg ds xs H' := m.fr (Fr.of f) (m.w.same f)
theorem Ms.ext (m : Ms T tb u c r gd kp l caps sg ds xs H) (f : ExtN H H') (t : Tabs [(tb, lamQ)] H') : Ms T tb u c r gd kp l caps sg ds xs H' := m.kn (Kn.ext f) (ExtN.well f m.w) t
theorem partsC {k : Nat} (h : k < 6) : at0 [1, 3, 10, 0, -1, -7] k ≤ 10 := by
  match k, h with
  | 0, _ => decide
  | 1, _ => decide
  | 2, _ => decide
  | 3, _ => decide
  | 4, _ => decide
  | 5, _ => decide
end
end Kp

namespace Kp
open PySem PySem.Spec PyProof.Rows L2 KpR LamX
section
variable {P : Program} {w : World} {K : PySem.W.Frag} {mg : Str → Option Value} {base : Heap}
def rTupOf (K : PySem.W.Frag) : List V → Hp → VK → Prop := fun xs H Q => ∃ (p : Addr) (ys : List V), xs = [V.ref p] ∧ ((SqL K H p ys ∧ ∀ (l : Addr), H l = none → Q (V.ref l) (upd H l (HO.tup ys))) ∨ SqT K H p ys ∧ Q (V.ref p) H)
def spLaw (K : PySem.W.Frag) (tb : Addr) : Sp := fun vs H Q _ => ∃ (a : Addr) (ns : List Int), vs = [.ref a] ∧ SqL K H a (ns.map V.int) ∧ ns.length ≤ 63 ∧ H tb = some (.tbl #[]) ∧ ∀ H', Q (.bl true) H'
theorem oklaw (T : Tx K mg) {c tb : Addr} (TB : TabB base mg c tb) (hcode : T.dlaw.code = .ref c) : FnOk P w K mg base CX0 12 T.alaw T.dlaw ["_law_script"] (spLaw K tb) := by
  refine Fun.okT T.flaw sclaw (fun vs H Q E h => ?_) (fun A outer s H vs Q E hr h => ?_)
  · obtain ⟨a, ns, rfl, _⟩ := h
    rfl
  · obtain ⟨a, ns, rfl, hS, hlen, ht, hq⟩ := h
    obtain ⟨m1, kb_behind_parts⟩ := kbParts T
    obtain ⟨m2, kb_behind_parts_times⟩ := kbBoth T
    obtain ⟨m3, kb_fate_parts⟩ := kbFate T
    obtain ⟨ocS, odS, kVS, docS, pmS, anS, cdS, ctS, oslS, eS, lkS, hcS⟩ := T.fLsaid.ex
    have bS := T.bLsaid
    rw [eS] at lkS bS
    have hmT : (tb, lamQ) ∈ [(tb, lamQ)] := List.mem_singleton.mpr rfl
    have hu : ∀ p ∈ [(tb, lamQ)], p.1 = tb → p.2 = lamQ := fun p hp _ => by rw [List.mem_singleton.mp hp]
    have tabs : Tabs [(tb, lamQ)] H := fun p hp => by
      rw [List.mem_singleton.mp hp]
      exact TabS.nil ht
    refine ⟨_, (pss_cons (ps_for PassesOwn.never rfl (pi_list (pe_slice sl_list (pe_op op_catR (pv 0) (pe_lst (pa_cons pe_int pa_nil))) po_none (po_some pe_int))) (pg_name (i := 1) sclaw.nd rfl (by first | exact Or.inl rfl | exact Or.inr rfl)) (pss_cons (ps_set (i := 2) sclaw.nd rfl (by first | exact Or.inl rfl | exact Or.inr rfl) (pe_call (okLwell T) (hr.mono (by decide)) rfl T.gLwell T.fLwell.kp T.bLwell .nil pass0 (pa_cons (pv 1) pa_nil)))
      (pss_cons (ps_set (i := 3) sclaw.nd rfl (by first | exact Or.inl rfl | exact Or.inr rfl) (pe_call (okLcaps T) (hr.mono (by decide)) rfl T.gLcaps T.fLcaps.kp T.bLcaps .nil pass0 (pa_cons (pv 2) (pa_cons pe_int pa_nil))))
      (pss_cons (ps_set (i := 4) sclaw.nd rfl (by first | exact Or.inl rfl | exact Or.inr rfl) (pe_call (okLrow T) (hr.mono (by decide)) rfl T.gLrow T.fLrow.kp T.bLrow .nil pass0 (pa_cons (pv 3) (pa_cons (pe_call (okLfacts T) (hr.mono (by decide)) rfl T.gLfacts T.fLfacts.kp T.bLfacts .nil pass0 (pa_cons (pv 2) (pa_cons (pv 3) (pa_cons (pe_call (okLdraw T) (hr.mono (by decide)) rfl T.gLdraw T.fLdraw.kp T.bLdraw .nil pass0 (pa_cons (pv 2) (pa_cons pe_int pa_nil))) pa_nil)))) pa_nil))))
      (pss_cons (ps_set (i := 5) sclaw.nd rfl (by first | exact Or.inl rfl | exact Or.inr rfl) (pe_call (okLamounts T) (hr.mono (by decide)) rfl T.gLamounts T.fLamounts.kp T.bLamounts .nil pass0 (pa_cons (pv 2) (pa_cons (pv 3) (pa_cons pe_int pa_nil)))))
      (pss_cons (ps_set (i := 6) sclaw.nd rfl (by first | exact Or.inl rfl | exact Or.inr rfl) (pe_callN (okbehind T) (hr.mono (by decide)) rfl T.gbehind T.fbehind.kp kb_behind_parts passF (pa_cons (pv 4) (pa_cons (pv 5) pa_nil)) (pk_cons pe_int pk_nil)))
      (pss_one (ps_for PassesOwn.never rfl (pi_range1 rfl T.nrange (pa_cons pe_int pa_nil)) (pg_name (i := 7) sclaw.nd rfl (by first | exact Or.inl rfl | exact Or.inr rfl)) (pss_cons (ps_set (i := 8) sclaw.nd rfl (by first | exact Or.inl rfl | exact Or.inr rfl) (pe_ix (r := rIxL K) ix_list (pe_lst (pa_cons pe_int (pa_cons pe_int (pa_cons pe_int (pa_cons pe_int (pa_cons (pe_un un_neg pe_int) (pa_cons (pe_un un_neg pe_int) pa_nil))))))) (pe_call (okLdraw T) (hr.mono (by decide)) rfl T.gLdraw T.fLdraw.kp T.bLdraw .nil pass0 (pa_cons (pv 2) (pa_cons (pe_ix (r := rIxL K) ix_list (pe_lst (pa_cons pe_int (pa_cons pe_int pa_nil))) (pe_call (okLdraw T) (hr.mono (by decide)) rfl T.gLdraw T.fLdraw.kp T.bLdraw .nil pass0 (pa_cons (pv 2) (pa_cons pe_int pa_nil))) (fun _ _ => rfl)) pa_nil))) (fun _ _ => rfl)))
      (pss_cons (ps_set (i := 9) sclaw.nd rfl (by first | exact Or.inl rfl | exact Or.inr rfl) (pe_call (okLamounts T) (hr.mono (by decide)) rfl T.gLamounts T.fLamounts.kp T.bLamounts .nil pass0 (pa_cons (pv 2) (pa_cons (pv 3) (pa_cons (pe_callB (call_max2 rfl) rfl T.nmax (by decide +kernel) (pa_cons pe_int (pa_cons (pv 8) pa_nil))) pa_nil)))))
      (C8.pss_cut (ps_if (pt_cmpR op_eq (pe_call (okLdraw T) (hr.mono (by decide)) rfl T.gLdraw T.fLdraw.kp T.bLdraw .nil pass0 (pa_cons (pv 2) (pa_cons pe_int pa_nil))) pe_int (nomark _)) (pss_one (ps_set (i := 9) sclaw.nd rfl (by first | exact Or.inl rfl | exact Or.inr rfl) (pe_call (okLspoilt T) (hr.mono (by decide)) rfl T.gLspoilt T.fLspoilt.kp T.bLspoilt .nil pass0 (pa_cons (pv 2) (pa_cons (pv 3) (pa_cons (pv 9) (pa_cons (pe_callB (call_max2 rfl) rfl T.nmax (by decide +kernel) (pa_cons pe_int (pa_cons (pv 8) pa_nil))) pa_nil))))))) pss_nil)
      (pss_cons (ps_set (i := 10) sclaw.nd rfl (by first | exact Or.inl rfl | exact Or.inr rfl) (pe_ix (r := rIxL K) ix_list (pe_lst (pa_cons pe_int (pa_cons pe_int (pa_cons pe_int (pa_cons pe_int (pa_cons pe_int (pa_cons (pe_un un_neg pe_int) (pa_cons (pe_op op_pow pe_int pe_int) pa_nil)))))))) (pe_call (okLdraw T) (hr.mono (by decide)) rfl T.gLdraw T.fLdraw.kp T.bLdraw .nil pass0 (pa_cons (pv 2) (pa_cons pe_int pa_nil))) (fun _ _ => rfl)))
      (pss_cons (ps_set (i := 11) sclaw.nd rfl (by first | exact Or.inl rfl | exact Or.inr rfl) (pe_call (okLdue T) (hr.mono (by decide)) rfl T.gLdue T.fLdue.kp T.bLdue .nil pass0 (pa_cons (pv 3) (pa_cons (pv 9) (pa_cons (pv 8) (pa_cons (pv 10) pa_nil))))))
      (C8.pss_cut (ps_if (pt_cmpR (op_neD hr.units) (pe_lamcall (x := "_law_said") (a := "_law_ask") (k := 8) rfl T.gLsaid T.fLsaid.kp lkS hcS bS scLsaid rfl (Or.inl rfl) (said_gives T) TB hcode hmT hu (hr.mono (by decide)) (lamS_by (show lamSB (defScope slaw) _ = true by decide +kernel)) rfl (fun _ _ _ _ _ => rfl) (fun A outer s H E f c' hr2 => (pe_callN (okbehind T) (hr2.mono (by decide)) rfl T.gbehind T.fbehind.kp kb_behind_parts_times (passes_call (W := fun c d _ H => E c d H) (takes_of rfl rfl rfl rfl) (fun _ _ _ _ h => h)) (pa_cons (pv 4) (pa_cons (pv 9) pa_nil)) (pk_cons (pv 8) (pk_cons (pv 10) pk_nil))))) (pv 11) (nomark _)) (pss_one (ps_ret pe_bl)) pss_nil)
      (C8.pss_cut (ps_if (pt_cmpR (r := rIn K false) op_in_seq (pe_ix (r := rIx K) ix_seq (pv 11) pe_int (fun _ _ => rfl)) (pe_tup (pa_cons pe_str (pa_cons pe_str (pa_cons pe_str pa_nil)))) (by rfl)) (C8.pss_cut (ps_if (pt_cmpR (op_neD hr.units) (pe_lamcall (x := "_law_said") (a := "_law_ask") (k := 8) rfl T.gLsaid T.fLsaid.kp lkS hcS bS scLsaid rfl (Or.inl rfl) (said_gives T) TB hcode hmT hu (hr.mono (by decide)) (lamS_by (show lamSB (defScope slaw) _ = true by decide +kernel)) rfl (fun _ _ _ _ _ => rfl) (fun A outer s H E f c' hr2 => (pe_callN (okfate T) (hr2.mono (by decide)) rfl T.gfate T.ffate.kp kb_fate_parts (passes_call (W := fun c d _ H => E c d H) (takes_of rfl rfl rfl rfl) (fun _ _ _ _ h => h)) (pa_cons (pv 4) (pa_cons (pv 9) pa_nil)) (pk_cons (pv 8) pk_nil)))) (pv 11) (nomark _)) (pss_one (ps_ret pe_bl)) pss_nil)
      (pss_one (ps_if (pt_cmpR (op_neD hr.units) (pe_lamcall (x := "_law_said") (a := "_law_ask") (k := 8) rfl T.gLsaid T.fLsaid.kp lkS hcS bS scLsaid rfl (Or.inl rfl) (said_gives T) TB hcode hmT hu (hr.mono (by decide)) (lamS_by (show lamSB (defScope slaw) _ = true by decide +kernel)) rfl (fun _ _ _ _ _ => rfl) (fun A outer s H E f c' hr2 => (pe_callN (okbehind T) (hr2.mono (by decide)) rfl T.gbehind T.fbehind.kp kb_behind_parts_times (passes_call (W := fun c d _ H => E c d H) (takes_of rfl rfl rfl rfl) (fun _ _ _ _ h => h)) (pa_cons (pv 4) (pa_cons (pe_callTy (show CallR _ (Value.type "tuple") (rTupOf K) from call_tuple_of) rfl T.ntuple (by decide +kernel) (pa_cons (pv 9) pa_nil)) pa_nil)) (pk_cons (pv 8) (pk_cons pe_int pk_nil))))) (pv 11) (nomark _)) (pss_one (ps_ret pe_bl)) pss_nil))) pss_nil)
      (pss_one (ps_if (pt_cmpR (op_neD hr.units) (pe_callN (okbehind T) (hr.mono (by decide)) rfl T.gbehind T.fbehind.kp kb_behind_parts passF (pa_cons (pv 4) (pa_cons (pv 5) pa_nil)) (pk_cons pe_int pk_nil)) (pv 6) (nomark _)) (pss_one (ps_ret pe_bl)) pss_nil)))))))))))))))))
      (pss_one (ps_ret pe_bl))), ?_⟩
    refine ⟨_, rfl, (by show 1 ≤ sizeLine; decide), fun z hz => ?_⟩
    have s1 : Same H (upd H z (.lst [V.int 0])) := same_new hz
    refine ⟨a, z, _, _, rfl, rfl, s1.seq hS, SqL.of upd_same, ?_, fun q hq0 => ?_⟩
    · rw [List.length_map]
      exact Nat.le_trans (by simp; omega : ns.length + [V.int 0].length ≤ 100) (by decide)
    have s2 := s1.trans (same_new (o := .lst (ns.map V.int ++ [V.int 0])) hq0)
    refine ⟨_, rfl, q, _, rfl, SqL.of upd_same, fun l hl => ?_⟩
    rw [show (4 : Int) = ((4 : Nat) : Int) from rfl, cut_take]
    refine ⟨l, rfl, ⟨_, SqL.of upd_same⟩, ?_⟩
    have allI : ∀ y ∈ (ns.map V.int ++ [V.int 0]).take 4, ∃ n, y = V.int n := fun y hy => by
      rcases List.mem_append.mp (List.mem_of_mem_take hy) with k | k
      · obtain ⟨n, _, e⟩ := List.mem_map.mp k
        exact ⟨n, e.symm⟩
      · exact ⟨0, by simpa using k⟩
    have tabL := tabs.ext (s2.trans (same_new (o := .lst ((ns.map V.int ++ [V.int 0]).take 4)) hl))
    generalize hxs : (ns.map V.int ++ [V.int 0]).take 4 = xs at *
    generalize hHl : upd (upd (upd H z (.lst [V.int 0])) q (.lst (ns.map V.int ++ [V.int 0]))) l (.lst xs) = Hl at *
    have gl : Hl l = some (.lst xs) := by rw [← hHl]; exact upd_same
    refine for_list (K := K) (a := l) (xs := xs) (fun i σ H' => ∃ v1 v2 v3 v4 v5 v6 v7 v8 v9 v10 v11 : Option V, σ = [some (.ref a), v1, v2, v3, v4, v5, v6, v7, v8, v9, v10, v11] ∧ H' l = some (.lst xs) ∧ Tabs [(tb, lamQ)] H')
      ⟨none, none, none, none, none, none, none, none, none, none, none, rfl, gl, tabL⟩ (fun i σ H' _ ⟨_, _, _, _, _, _, _, _, _, _, _, _, e, _⟩ => SqL.of e) ?_ ?_
    · rintro i y σ H0 hi ⟨v1, v2, v3, v4, v5, v6, v7, v8, v9, v10, v11, rfl, g0, t0⟩
      obtain ⟨n, rfl⟩ := allI y (List.mem_of_getElem? hi)
      refine ⟨_, rfl, n, rfl, fun H2 u u0 w2 s2 => ?_⟩
      have lu : l ≠ u := ne_of_none g0 u0
      refine ⟨_, rfl, u, 6, rfl, w2, by decide, by decide, fun H3 c caps c0 hc hC cl w3 f3 => ?_⟩
      have cu : c ≠ u := w2.ne c0
      refine ⟨_, rfl, _, rfl, _, rfl, _, rfl, u, 4, rfl, w3, by decide, by decide, fun H4 k1 l1 w4 f4 => ?_⟩
      have hc4 := f4 _ _ cu hc
      refine ⟨u, c, k1, caps, rfl, w4, hc4, cu, hC, by omega, fun H5 g ts ds z1 hg hA n1 ok w5 f5 => ?_⟩
      have hc5 := f5 _ _ cu hc4
      refine ⟨c, g, caps, ts, ds, rfl, SqL.of hc5, hC, SqL.of hg, hA, by omega, ok, fun H6 r r0 hR s6 => ?_⟩
      have w6 := w5.same s6
      have hc6 := s6 _ _ hc5
      refine ⟨_, rfl, _, rfl, u, c, 3, caps, rfl, w6, hc6, cu, hC, by decide, by decide, fun H7 gd sg gd0 hgd sst w7 f7 => ?_⟩
      have gu : gd ≠ u := w6.ne gd0
      obtain ⟨o6, ho6, hb6⟩ := w6.ex
      have hR7 := hR.fr f7 ho6 hb6
      have ck := chk_stand (by decide : (1 : Int) ≤ 3) sst
      refine ⟨_, rfl, _, rfl, rfl, rfl, r, gd, ds, caps, sg, 3, 1, rfl, hR7, ok, .inl (SqL.of hgd), (by decide), (fun rr e => by rw [ck] at e; cases e), (fun _ e => absurd ⟨by decide, by decide⟩ e), fun _ _ _ H8 kp kp0 hkp s8 => ?_⟩
      have ku : kp ≠ u := w7.ne kp0
      have k28 : Kn u H2 H8 := (((((Kn.fr f3).trans (Kn.fr f4)).trans (Kn.fr f5)).trans (Kn.fr (Fr.of s6))).trans (Kn.fr f7)).trans (Kn.fr (Fr.of s8))
      have tb8 : Tabs [(tb, lamQ)] H8 := (Tabs.fr ((Tabs.fr (Tabs.fr (Tabs.fr (t0.ext s2) w2 f3) w3 f4) w4 f5).ext s6) w6 f7).ext s8
      have m8 : Ms T tb u c r gd kp l caps sg ds xs H8 := ⟨w7.same s8, tb8, cu, gu, ku, lu, s8 _ _ (f7 _ _ cu hc6), hR7.same s8, s8 _ _ hgd, hkp, k28 _ _ lu (s2 _ _ g0) fun _ z => (by cases z)⟩
      clear k28 tb8 hR7 hR hkp hgd hc6 hc5 hc4 hc hA hg w2 w3 w4 w5 w6 w7 f3 f4 f5 f7 s6 s8 o6 ho6 hb6
      refine ⟨4, rfl, by decide, by decide, ?_⟩
      refine for_range (lo := 0) (n := (4 : Int).toNat) (fun i σ H' => ∃ v7 v8 v9 v10 v11 : Option V, σ = [some (.ref a), some (.int n), some (.ref u), some (.ref c), some (.ref r), some (.ref gd), some (.ref kp), v7, v8, v9, v10, v11] ∧ Ms T tb u c r gd kp l caps sg ds xs H')
        ⟨_, _, _, _, _, rfl, m8⟩ ?_ ?_
      · rintro i σ B0 hi ⟨v7, v8, v9, v10, v11, rfl, m0⟩
        -- portions
        refine ⟨_, rfl, _, rfl, (by show 6 ≤ sizeLine; decide), fun p1 hp1 => ?_⟩
        have m1 := m0.same (same_new (o := .lst (vi [1, 3, 10, 0, -1, -7])) hp1)
        have p1u : p1 ≠ u := m0.w.ne hp1
        refine ⟨_, rfl, (by show 2 ≤ sizeLine; decide), fun p2 hp2 => ?_⟩
        have m2 := m1.same (same_new (o := .lst (vi [3, 6])) hp2)
        have p2u : p2 ≠ u := m1.w.ne hp2
        have q1 := same_new (o := .lst (vi [3, 6])) hp2 p1 _ upd_same
        refine ⟨_, rfl, u, 2, rfl, m2.w, by decide, by decide, fun B1 k2 l2 x1 e1 => ?_⟩
        refine pickL (xs := [3, 6]) (SqL.of (e1 _ _ p2u upd_same)) (by simp; omega) ?_
        have m3 := m2.fr e1 x1
        obtain ⟨md, hm, mb⟩ : ∃ md : Int, at0 [3, 6] k2 = md ∧ 1 ≤ md ∧ md ≤ 6 := ⟨_, rfl, by
          match k2, l2 with
          | 0, _ => decide
          | 1, _ => decide⟩
        rw [hm]
        refine ⟨u, md, rfl, x1, mb.1, by omega, fun B2 k3 l3 x2 e2 => ?_⟩
        have m4 := m3.fr e2 x2
        refine pickL (xs := [1, 3, 10, 0, -1, -7]) (SqL.of (e2 _ _ p1u (e1 _ _ p1u q1))) (by simp; omega) ?_
        obtain ⟨p, hp, pb⟩ : ∃ p : Int, at0 [1, 3, 10, 0, -1, -7] k3 = p ∧ p ≤ 10 := ⟨_, rfl, partsC (by omega)⟩
        rw [hp]
        clear q1 m1 m2 m3 e1 e2
        -- amounts
        have mx1 : ∀ {A : Prop}, (1 ≤ (if (p : Int) > 1 then p else 1) ∧ (if (p : Int) > 1 then p else 1) ≤ 10 → A) → A := fun k => k ⟨by split <;> omega, by split <;> omega⟩
        refine ⟨_, rfl, _, rfl, _, rfl, _, _, rfl, u, c, _, caps, rfl, m4.w, m4.hc, cu, hC, (mx1 fun k => k.1), (mx1 fun k => Int.le_trans k.2 (by decide)), fun B3 am st am0 hst sst x3 e3 => ?_⟩
        have m5 := m4.fr e3 x3
        have amu : am ≠ u := m4.w.ne am0
        refine ⟨fun σ' H' => ∃ (am : Addr) (st : List Int), σ' = [some (.ref a), some (.int n), some (.ref u), some (.ref c), some (.ref r), some (.ref gd), some (.ref kp), some (.int (0 + (i : Int))), some (.int p), some (.ref am), v10, v11] ∧ am ≠ u ∧ H' am = some (.lst (vi st)) ∧ Ms T tb u c r gd kp l caps sg ds xs H', ?_, ?_⟩
        · refine ⟨_, rfl, u, 2, rfl, x3, by decide, by decide, fun B4 k4 l4 x4 e4 => ⟨rfl, _, rfl, ifD (fun _ => ?_) (fun _ => ?_)⟩⟩
          · refine ⟨_, rfl, _, rfl, _, rfl, _, rfl, _, _, rfl, u, c, am, caps, st, _, rfl, x4, (m5.fr e4 x4).hc, cu, hC, e4 _ _ amu hst, amu, sst.len, (mx1 fun k => k.1), (mx1 fun k => by omega), fun B5 q5 st5 q50 hq5 x5 e5 => ?_⟩
            exact ⟨q5, st5, rfl, x4.ne q50, hq5, (m5.fr e4 x4).fr e5 x5⟩
          · exact ⟨am, st, rfl, amu, e4 _ _ amu hst, m5.fr e4 x4⟩
        · rintro σ' B6 ⟨am, st, rfl, amu, hst, m6⟩
          clear m4 m5 x1 x2 x3 e3 sst
          -- many
          refine ⟨_, rfl, _, _, rfl, rfl, ⟨by decide, by decide, by decide⟩, (by show 7 ≤ sizeLine; decide), fun p3 hp3 => ?_⟩
          have p3u : p3 ≠ u := m6.w.ne hp3
          have m7 := m6.same (same_new (o := .lst (vi [0, 1, 2, 1000, 1001, -1, 10 ^ (20 : Int).toNat])) hp3)
          have hst7 := same_new (o := .lst (vi [0, 1, 2, 1000, 1001, -1, 10 ^ (20 : Int).toNat])) hp3 _ _ hst
          refine ⟨_, rfl, u, 7, rfl, m7.w, by decide, by decide, fun B7 k5 l5 x7 e7 => ?_⟩
          refine pickL (xs := [0, 1, 2, 1000, 1001, -1, 10 ^ (20 : Int).toNat]) (SqL.of (e7 _ _ p3u upd_same)) (by simp; omega) ?_
          have m8 := m7.fr e7 x7
          have hst8 := e7 _ _ amu hst7
          generalize at0 [0, 1, 2, 1000, 1001, -1, 10 ^ (20 : Int).toNat] k5 = nn
          have pw : p < 2 ^ 62 := by have : ((2 : Int) ^ 62) > 100 := by decide
                                     omega
          refine ⟨_, rfl, _, rfl, _, rfl, _, rfl, c, am, caps, st, p, nn, rfl, SqL.of m8.hc, hC.l6, SqL.of hst8, pw, fun B8 dv hD s8 => ?_⟩
          have m9 := m8.same s8
          have hst9 := s8 _ _ hst8
          -- said
          refine ⟨fun σ' H' => σ' = [some (.ref a), some (.int n), some (.ref u), some (.ref c), some (.ref r), some (.ref gd), some (.ref kp), some (.int (0 + (i : Int))), some (.int p), some (.ref am), some (.int nn), some dv] ∧ H' am = some (.lst (vi st)) ∧ OutAt H' dv (dueOf caps st p nn) ∧ Ms T tb u c r gd kp l caps sg ds xs H', ?_, ?_⟩
          · refine ⟨m9.t, fun B9 eN t9 E hE => ?_⟩
            have m10 := m9.ext eN t9
            have hst10 := eN _ _ hst9 fun _ z => (by cases z)
            refine ⟨_, rfl, _, rfl, _, rfl, _, rfl, rfl, rfl, said_behind m10.hr ok (.inl (SqL.of hst10)) pw hE fun H' x ho sm => ?_⟩
            refine ⟨_, rfl, ne_out due_words ho ((hD.ext eN).same sm) ⟨_, rfl, ifF rfl ?_⟩⟩
            exact ⟨rfl, sm _ _ hst10, (hD.ext eN).same sm, m10.same sm⟩
          · rintro σ' C0 ⟨rfl, hstC, hDC, mC⟩
            refine ⟨fun σ' H' => σ' = [some (.ref a), some (.int n), some (.ref u), some (.ref c), some (.ref r), some (.ref gd), some (.ref kp), some (.int (0 + (i : Int))), some (.int p), some (.ref am), some (.int nn), some dv] ∧ H' am = some (.lst (vi st)) ∧ OutAt H' dv (dueOf caps st p nn) ∧ Ms T tb u c r gd kp l caps sg ds xs H', ?_, ?_⟩
            · refine ⟨_, rfl, ix_out hDC ⟨(by show 3 ≤ sizeLine; decide), fun t ht => ?_⟩⟩
              have sT := same_new (o := .tup [.str "parts", .str "start", .str "jar"]) ht
              have mT := mC.same sT
              have hstT := sT _ _ hstC
              have hDT := hDC.same sT
              refine ⟨t, _, rfl, .inr (SqT.of upd_same), rfl, rfl, _, rfl, ?_⟩
              generalize (upd C0 t (.tup [.str "parts", .str "start", .str "jar"])) = CT at sT mT hstT hDT ⊢
              cases hb : inV (.str (wordOf (dueOf caps st p nn))) [.str "parts", .str "start", .str "jar"] with
              | false => exact ifF rfl ⟨rfl, hstT, hDT, mT⟩
              | true =>
                refine ifT rfl ?_
                obtain ⟨rr, hrr, hall⟩ := word_in hb
                have wd : WordsOk (some rr) := by
                  rw [← hall nn]
                  exact due_words
                refine ⟨fun σ' H' => σ' = [some (.ref a), some (.int n), some (.ref u), some (.ref c), some (.ref r), some (.ref gd), some (.ref kp), some (.int (0 + (i : Int))), some (.int p), some (.ref am), some (.int nn), some dv] ∧ H' am = some (.lst (vi st)) ∧ OutAt H' dv (dueOf caps st p nn) ∧ Ms T tb u c r gd kp l caps sg ds xs H', ?_, ?_⟩
                · refine ⟨mT.t, fun B9 eN t9 E hE => ?_⟩
                  have m10 := mT.ext eN t9
                  have hst10 := eN _ _ hstT fun _ z => (by cases z)
                  have hD10 := hDT.ext eN
                  refine ⟨_, rfl, _, rfl, _, rfl, rfl, rfl, said_fate m10.hr (.inl (SqL.of hst10)) pw hrr hE fun H' x ho sm => ?_⟩
                  refine ⟨_, rfl, ne_out wd ho (by have z := hD10.same sm; rw [hall nn] at z; exact z) ⟨_, rfl, ifF rfl ?_⟩⟩
                  exact ⟨rfl, sm _ _ hst10, hD10.same sm, m10.same sm⟩
                · rintro σ' C2 ⟨rfl, hst2, hD2, mm2⟩
                  refine ⟨mm2.t, fun B9 eN t9 E hE => ?_⟩
                  have m10 := mm2.ext eN t9
                  have hst10 := eN _ _ hst2 fun _ z => (by cases z)
                  have hD10 := hD2.ext eN
                  refine ⟨_, rfl, _, rfl, am, _, rfl, .inl ⟨SqL.of hst10, fun tt htt => ?_⟩⟩
                  have s11 := same_new (o := .tup (vi st)) htt
                  refine ⟨_, rfl, rfl, rfl, said_behind (m10.same s11).hr ok (.inr (SqT.of upd_same)) pw hE fun H' x ho sm => ?_⟩
                  refine ⟨_, rfl, ne_out wd (by rw [hall 5] at ho; exact ho) (by have z := (hD10.same s11).same sm; rw [hall nn] at z; exact z) ⟨_, rfl, ifF rfl ?_⟩⟩
                  exact ⟨rfl, sm _ _ (s11 _ _ hst10), (hD10.same s11).same sm, (m10.same s11).same sm⟩
            · rintro σ' D0 ⟨rfl, _, _, mD⟩
              refine ⟨_, rfl, _, rfl, rfl, rfl, r, gd, ds, caps, sg, 3, 1, rfl, mD.hr, ok, .inl (SqL.of mD.hg), (by decide), (fun rr e => by rw [ck] at e; cases e), (fun _ e => absurd ⟨by decide, by decide⟩ e), fun _ _ _ D1 q q0 hq1 s => ?_⟩
              refine ⟨_, rfl, ne_ints (SqL.of hq1) (SqL.of (s _ _ mD.hk)) rfl ⟨_, rfl, ifF rfl ?_⟩⟩
              exact ⟨_, _, _, _, _, rfl, mD.same s⟩
      · rintro σ B0 ⟨v7, v8, v9, v10, v11, rfl, m⟩
        exact ⟨_, _, _, _, _, _, _, _, _, _, _, rfl, m.hl, m.t⟩
    · rintro σ H0 _
      exact hq _
end
end Kp

namespace Kp
open PySem PySem.Spec PyProof.Rows L2 KpR
theorem funD1 {K : PySem.W.Frag} {f D : Addr} {x qual p1 : Str} {n1 : Int} {st : Stmt} {oc doc pm cdv ct : Value} {od an : Option Addr} {osl : Array (Option Value)} {t1 : Tok}
    (l : K.lookup f = some ⟨oc, od, .func (PySem.W.fnOf x qual (defArgs st) (defBody st) (defScope st) .none (.ref D) doc pm an cdv ct), osl⟩) (c : PySem.W.codeIn K cdv qual = true) (k : PySem.W.keepIn K (.ref f) = true)
    (w1 : PySem.W.nsIn K D p1 = some (some (.int n1 t1))) :
    FunD K x qual (defArgs st) (defBody st) (defScope st) [] [(p1, .int n1)] f (PySem.W.fnOf x qual (defArgs st) (defBody st) (defScope st) .none (.ref D) doc pm an cdv ct) := by
  refine ⟨⟨oc, od, .none, .ref D, doc, pm, an, cdv, ct, osl, rfl, l, c, .inl ⟨rfl, rfl⟩, .inr ⟨D, rfl, fun q hq => ?_⟩⟩, k⟩
  rcases List.mem_cons.mp hq with e | hq
  · rw [e]
    exact ⟨_, w1, _, rfl⟩
  · cases hq
theorem funD2 {K : PySem.W.Frag} {f D : Addr} {x qual : Str} {st : Stmt} {oc doc pm cdv ct : Value} {od an : Option Addr} {osl : Array (Option Value)} {t1 t2 : Tok}
    (l : K.lookup f = some ⟨oc, od, .func (PySem.W.fnOf x qual (defArgs st) (defBody st) (defScope st) .none (.ref D) doc pm an cdv ct), osl⟩) (c : PySem.W.codeIn K cdv qual = true) (k : PySem.W.keepIn K (.ref f) = true)
    (w1 : PySem.W.nsIn K D "parts" = some (some (.int 1 t1))) (w2 : PySem.W.nsIn K D "times" = some (some (.int 1 t2))) :
    FunD K x qual (defArgs st) (defBody st) (defScope st) [] [("parts", .int 1), ("times", .int 1)] f (PySem.W.fnOf x qual (defArgs st) (defBody st) (defScope st) .none (.ref D) doc pm an cdv ct) := by
  refine ⟨⟨oc, od, .none, .ref D, doc, pm, an, cdv, ct, osl, rfl, l, c, .inl ⟨rfl, rfl⟩, .inr ⟨D, rfl, fun q hq => ?_⟩⟩, k⟩
  rcases List.mem_cons.mp hq with e | hq
  · rw [e]
    exact ⟨_, w1, _, rfl⟩
  · rcases List.mem_cons.mp hq with e | hq
    · rw [e]
      exact ⟨_, w2, _, rfl⟩
    · cases hq
theorem kit_tyV {K : PySem.W.Frag} {T : String} {A : Addr} {b : Bool} (h : PySem.W.subIn K (.ref A) (.type T) = some b) (m : PySem.W.kitMeta T = true := by decide +kernel) : PySem.W.kitOne K (.ref A) (.type T) = some b := by
  have ne : ¬ (Value.ref A == Value.type T) = true := fun z => nomatch eq_of_beq z
  unfold PySem.W.kitOne
  rw [if_neg ne]
  show (if PySem.W.kitMeta T = true then PySem.W.subIn K (.ref A) (.type T) else none) = some b
  rw [if_pos m]
  exact h
theorem all_mk {l : PySem.W.OpenLaw} {w : World} {K : PySem.W.Frag} {h : Heap} {mg : Str → Option Value} {fa CJars CPour CPut CDraw CChange CRow CBadCount CBadStart fcheckmuch fcheckjar fcheckdeed fBadCountInit fBadStartInit fJarsInit fPourInit fPutInit fDrawInit fChangeInit fRowInit fcheckstart fbehinddeed fbehindround fbehind ffate fLwell fLdraw fLcaps fLfacts fLdeed fLrow fLamounts fLsaid fLspoilt fLdue flaw CNoJar Dbehind Dfate : Addr} (X : K.In h) (G : h.Ns mainGlobals mg) (hfa : mg "law" = some (.ref fa))
    {odcheckmuch ancheckmuch odcheckjar ancheckjar odcheckdeed ancheckdeed odBadCountInit anBadCountInit odBadStartInit anBadStartInit odJarsInit anJarsInit odPourInit anPourInit odPutInit anPutInit odDrawInit anDrawInit odChangeInit anChangeInit odRowInit anRowInit odcheckstart ancheckstart odbehinddeed anbehinddeed odbehindround anbehindround odbehind anbehind odfate anfate odLwell anLwell odLdraw anLdraw odLcaps anLcaps odLfacts anLfacts odLdeed anLdeed odLrow anLrow odLamounts anLamounts odLsaid anLsaid odLspoilt anLspoilt odLdue anLdue odlaw anlaw : Option Addr} {slcheckmuch slcheckjar slcheckdeed slBadCountInit slBadStartInit slJarsInit slPourInit slPutInit slDrawInit slChangeInit slRowInit slcheckstart slbehinddeed slbehindround slbehind slfate slLwell slLdraw slLcaps slLfacts slLdeed slLrow slLamounts slLsaid slLspoilt slLdue sllaw : Array (Option Value)} {occheckmuch dccheckmuch pmcheckmuch cdcheckmuch ctcheckmuch kVcheckmuch occheckjar dccheckjar pmcheckjar cdcheckjar ctcheckjar kVcheckjar occheckdeed dccheckdeed pmcheckdeed cdcheckdeed ctcheckdeed kVcheckdeed ocBadCountInit dcBadCountInit pmBadCountInit cdBadCountInit ctBadCountInit kVBadCountInit ocBadStartInit dcBadStartInit pmBadStartInit cdBadStartInit ctBadStartInit kVBadStartInit ocJarsInit dcJarsInit pmJarsInit cdJarsInit ctJarsInit kVJarsInit ocPourInit dcPourInit pmPourInit cdPourInit ctPourInit kVPourInit ocPutInit dcPutInit pmPutInit cdPutInit ctPutInit kVPutInit ocDrawInit dcDrawInit pmDrawInit cdDrawInit ctDrawInit kVDrawInit ocChangeInit dcChangeInit pmChangeInit cdChangeInit ctChangeInit kVChangeInit ocRowInit dcRowInit pmRowInit cdRowInit ctRowInit kVRowInit occheckstart dccheckstart pmcheckstart cdcheckstart ctcheckstart kVcheckstart ocbehinddeed dcbehinddeed pmbehinddeed cdbehinddeed ctbehinddeed kVbehinddeed ocbehindround dcbehindround pmbehindround cdbehindround ctbehindround kVbehindround ocbehind dcbehind pmbehind cdbehind ctbehind ocfate dcfate pmfate cdfate ctfate ocLwell dcLwell pmLwell cdLwell ctLwell kVLwell ocLdraw dcLdraw pmLdraw cdLdraw ctLdraw kVLdraw ocLcaps dcLcaps pmLcaps cdLcaps ctLcaps kVLcaps ocLfacts dcLfacts pmLfacts cdLfacts ctLfacts kVLfacts ocLdeed dcLdeed pmLdeed cdLdeed ctLdeed kVLdeed ocLrow dcLrow pmLrow cdLrow ctLrow kVLrow ocLamounts dcLamounts pmLamounts cdLamounts ctLamounts kVLamounts ocLsaid dcLsaid pmLsaid cdLsaid ctLsaid kVLsaid ocLspoilt dcLspoilt pmLspoilt cdLspoilt ctLspoilt kVLspoilt ocLdue dcLdue pmLdue cdLdue ctLdue kVLdue oclaw dclaw pmlaw cdlaw ctlaw kVlaw : Value} {tkMOSTJARS tkMOSTDEEDS tkMOSTMUCH tkMOSTTIMES tkMOSTROUNDS tbehind_parts tbehind_times tfate_parts : Tok}
    (own : LamX.OwnTab K fa h) {CL TL : Addr} {ddL : Option Addr} {vsL : Array Value} {slL : Array (Option Value)}
    {nmXBadCount qXBadCount : Str} {NXBadCount : Addr} {bsXBadCount bmXBadCount : List Value} {abXBadCount : Bool} {snXBadCount : List Str} {subXBadCount : List Value} {colXBadCount : Option Bool} {ddXBadCount : Option Addr} {r0XBadCount r1XBadCount r2XBadCount r3XBadCount r5XBadCount : Option Value}
    {nmXBadStart qXBadStart : Str} {NXBadStart : Addr} {bsXBadStart bmXBadStart : List Value} {abXBadStart : Bool} {snXBadStart : List Str} {subXBadStart : List Value} {colXBadStart : Option Bool} {ddXBadStart : Option Addr} {r0XBadStart r1XBadStart r2XBadStart r3XBadStart r5XBadStart : Option Value}
    (xJars : PySem.W.nsIn K mainGlobals "Jars" = some (some (.ref CJars)))
    (xPour : PySem.W.nsIn K mainGlobals "Pour" = some (some (.ref CPour)))
    (xPut : PySem.W.nsIn K mainGlobals "Put" = some (some (.ref CPut)))
    (xDraw : PySem.W.nsIn K mainGlobals "Draw" = some (some (.ref CDraw)))
    (xChange : PySem.W.nsIn K mainGlobals "Change" = some (some (.ref CChange)))
    (xRow : PySem.W.nsIn K mainGlobals "Row" = some (some (.ref CRow)))
    (xBadCount : PySem.W.nsIn K mainGlobals "BadCount" = some (some (.ref CBadCount)))
    (xBadStart : PySem.W.nsIn K mainGlobals "BadStart" = some (some (.ref CBadStart)))
    (acheckmuch : PySem.W.nsIn K mainGlobals "check_much" = some (some (.ref fcheckmuch)))
    (lcheckmuch : K.lookup fcheckmuch = some ⟨occheckmuch, odcheckmuch, .func (PySem.W.fnOf "check_much" "check_much" (defArgs scheckmuch) (defBody scheckmuch) (defScope scheckmuch) .none kVcheckmuch dccheckmuch pmcheckmuch ancheckmuch cdcheckmuch ctcheckmuch), slcheckmuch⟩)
    (qcheckmuch : PySem.W.codeIn K cdcheckmuch "check_much" = true)
    (kcheckmuch : PySem.W.keepIn K (.ref fcheckmuch) = true)
    (acheckjar : PySem.W.nsIn K mainGlobals "check_jar" = some (some (.ref fcheckjar)))
    (lcheckjar : K.lookup fcheckjar = some ⟨occheckjar, odcheckjar, .func (PySem.W.fnOf "check_jar" "check_jar" (defArgs scheckjar) (defBody scheckjar) (defScope scheckjar) .none kVcheckjar dccheckjar pmcheckjar ancheckjar cdcheckjar ctcheckjar), slcheckjar⟩)
    (qcheckjar : PySem.W.codeIn K cdcheckjar "check_jar" = true)
    (kcheckjar : PySem.W.keepIn K (.ref fcheckjar) = true)
    (acheckdeed : PySem.W.nsIn K mainGlobals "check_deed" = some (some (.ref fcheckdeed)))
    (lcheckdeed : K.lookup fcheckdeed = some ⟨occheckdeed, odcheckdeed, .func (PySem.W.fnOf "check_deed" "check_deed" (defArgs scheckdeed) (defBody scheckdeed) (defScope scheckdeed) .none kVcheckdeed dccheckdeed pmcheckdeed ancheckdeed cdcheckdeed ctcheckdeed), slcheckdeed⟩)
    (qcheckdeed : PySem.W.codeIn K cdcheckdeed "check_deed" = true)
    (kcheckdeed : PySem.W.keepIn K (.ref fcheckdeed) = true)
    (aBadCountInit : PySem.W.findIn K (.ref CBadCount) "__init__" = some (some (.ref fBadCountInit)))
    (iBadCountInit : PySem.W.isFn K (.ref fBadCountInit) = true)
    (lBadCountInit : K.lookup fBadCountInit = some ⟨ocBadCountInit, odBadCountInit, .func (PySem.W.fnOf "__init__" "BadCount.__init__" (defArgs sBadCountInit) (defBody sBadCountInit) (defScope sBadCountInit) .none kVBadCountInit dcBadCountInit pmBadCountInit anBadCountInit cdBadCountInit ctBadCountInit), slBadCountInit⟩)
    (qBadCountInit : PySem.W.codeIn K cdBadCountInit "BadCount.__init__" = true)
    (kBadCountInit : PySem.W.keepIn K (.ref fBadCountInit) = true)
    (aBadStartInit : PySem.W.findIn K (.ref CBadStart) "__init__" = some (some (.ref fBadStartInit)))
    (iBadStartInit : PySem.W.isFn K (.ref fBadStartInit) = true)
    (lBadStartInit : K.lookup fBadStartInit = some ⟨ocBadStartInit, odBadStartInit, .func (PySem.W.fnOf "__init__" "BadStart.__init__" (defArgs sBadStartInit) (defBody sBadStartInit) (defScope sBadStartInit) .none kVBadStartInit dcBadStartInit pmBadStartInit anBadStartInit cdBadStartInit ctBadStartInit), slBadStartInit⟩)
    (qBadStartInit : PySem.W.codeIn K cdBadStartInit "BadStart.__init__" = true)
    (kBadStartInit : PySem.W.keepIn K (.ref fBadStartInit) = true)
    (aJarsInit : PySem.W.findIn K (.ref CJars) "__init__" = some (some (.ref fJarsInit)))
    (iJarsInit : PySem.W.isFn K (.ref fJarsInit) = true)
    (lJarsInit : K.lookup fJarsInit = some ⟨ocJarsInit, odJarsInit, .func (PySem.W.fnOf "__init__" "Jars.__init__" (defArgs sJarsInit) (defBody sJarsInit) (defScope sJarsInit) .none kVJarsInit dcJarsInit pmJarsInit anJarsInit cdJarsInit ctJarsInit), slJarsInit⟩)
    (qJarsInit : PySem.W.codeIn K cdJarsInit "Jars.__init__" = true)
    (kJarsInit : PySem.W.keepIn K (.ref fJarsInit) = true)
    (aPourInit : PySem.W.findIn K (.ref CPour) "__init__" = some (some (.ref fPourInit)))
    (iPourInit : PySem.W.isFn K (.ref fPourInit) = true)
    (lPourInit : K.lookup fPourInit = some ⟨ocPourInit, odPourInit, .func (PySem.W.fnOf "__init__" "Pour.__init__" (defArgs sPourInit) (defBody sPourInit) (defScope sPourInit) .none kVPourInit dcPourInit pmPourInit anPourInit cdPourInit ctPourInit), slPourInit⟩)
    (qPourInit : PySem.W.codeIn K cdPourInit "Pour.__init__" = true)
    (kPourInit : PySem.W.keepIn K (.ref fPourInit) = true)
    (aPutInit : PySem.W.findIn K (.ref CPut) "__init__" = some (some (.ref fPutInit)))
    (iPutInit : PySem.W.isFn K (.ref fPutInit) = true)
    (lPutInit : K.lookup fPutInit = some ⟨ocPutInit, odPutInit, .func (PySem.W.fnOf "__init__" "Put.__init__" (defArgs sPutInit) (defBody sPutInit) (defScope sPutInit) .none kVPutInit dcPutInit pmPutInit anPutInit cdPutInit ctPutInit), slPutInit⟩)
    (qPutInit : PySem.W.codeIn K cdPutInit "Put.__init__" = true)
    (kPutInit : PySem.W.keepIn K (.ref fPutInit) = true)
    (aDrawInit : PySem.W.findIn K (.ref CDraw) "__init__" = some (some (.ref fDrawInit)))
    (iDrawInit : PySem.W.isFn K (.ref fDrawInit) = true)
    (lDrawInit : K.lookup fDrawInit = some ⟨ocDrawInit, odDrawInit, .func (PySem.W.fnOf "__init__" "Draw.__init__" (defArgs sDrawInit) (defBody sDrawInit) (defScope sDrawInit) .none kVDrawInit dcDrawInit pmDrawInit anDrawInit cdDrawInit ctDrawInit), slDrawInit⟩)
    (qDrawInit : PySem.W.codeIn K cdDrawInit "Draw.__init__" = true)
    (kDrawInit : PySem.W.keepIn K (.ref fDrawInit) = true)
    (aChangeInit : PySem.W.findIn K (.ref CChange) "__init__" = some (some (.ref fChangeInit)))
    (iChangeInit : PySem.W.isFn K (.ref fChangeInit) = true)
    (lChangeInit : K.lookup fChangeInit = some ⟨ocChangeInit, odChangeInit, .func (PySem.W.fnOf "__init__" "Change.__init__" (defArgs sChangeInit) (defBody sChangeInit) (defScope sChangeInit) .none kVChangeInit dcChangeInit pmChangeInit anChangeInit cdChangeInit ctChangeInit), slChangeInit⟩)
    (qChangeInit : PySem.W.codeIn K cdChangeInit "Change.__init__" = true)
    (kChangeInit : PySem.W.keepIn K (.ref fChangeInit) = true)
    (aRowInit : PySem.W.findIn K (.ref CRow) "__init__" = some (some (.ref fRowInit)))
    (iRowInit : PySem.W.isFn K (.ref fRowInit) = true)
    (lRowInit : K.lookup fRowInit = some ⟨ocRowInit, odRowInit, .func (PySem.W.fnOf "__init__" "Row.__init__" (defArgs sRowInit) (defBody sRowInit) (defScope sRowInit) .none kVRowInit dcRowInit pmRowInit anRowInit cdRowInit ctRowInit), slRowInit⟩)
    (qRowInit : PySem.W.codeIn K cdRowInit "Row.__init__" = true)
    (kRowInit : PySem.W.keepIn K (.ref fRowInit) = true)
    (acheckstart : PySem.W.nsIn K mainGlobals "check_start" = some (some (.ref fcheckstart)))
    (lcheckstart : K.lookup fcheckstart = some ⟨occheckstart, odcheckstart, .func (PySem.W.fnOf "check_start" "check_start" (defArgs scheckstart) (defBody scheckstart) (defScope scheckstart) .none kVcheckstart dccheckstart pmcheckstart ancheckstart cdcheckstart ctcheckstart), slcheckstart⟩)
    (qcheckstart : PySem.W.codeIn K cdcheckstart "check_start" = true)
    (kcheckstart : PySem.W.keepIn K (.ref fcheckstart) = true)
    (abehinddeed : PySem.W.nsIn K mainGlobals "behind_deed" = some (some (.ref fbehinddeed)))
    (lbehinddeed : K.lookup fbehinddeed = some ⟨ocbehinddeed, odbehinddeed, .func (PySem.W.fnOf "behind_deed" "behind_deed" (defArgs sbehinddeed) (defBody sbehinddeed) (defScope sbehinddeed) .none kVbehinddeed dcbehinddeed pmbehinddeed anbehinddeed cdbehinddeed ctbehinddeed), slbehinddeed⟩)
    (qbehinddeed : PySem.W.codeIn K cdbehinddeed "behind_deed" = true)
    (kbehinddeed : PySem.W.keepIn K (.ref fbehinddeed) = true)
    (abehindround : PySem.W.nsIn K mainGlobals "behind_round" = some (some (.ref fbehindround)))
    (lbehindround : K.lookup fbehindround = some ⟨ocbehindround, odbehindround, .func (PySem.W.fnOf "behind_round" "behind_round" (defArgs sbehindround) (defBody sbehindround) (defScope sbehindround) .none kVbehindround dcbehindround pmbehindround anbehindround cdbehindround ctbehindround), slbehindround⟩)
    (qbehindround : PySem.W.codeIn K cdbehindround "behind_round" = true)
    (kbehindround : PySem.W.keepIn K (.ref fbehindround) = true)
    (abehind : PySem.W.nsIn K mainGlobals "behind" = some (some (.ref fbehind)))
    (lbehind : K.lookup fbehind = some ⟨ocbehind, odbehind, .func (PySem.W.fnOf "behind" "behind" (defArgs sbehind) (defBody sbehind) (defScope sbehind) .none (.ref Dbehind) dcbehind pmbehind anbehind cdbehind ctbehind), slbehind⟩)
    (qbehind : PySem.W.codeIn K cdbehind "behind" = true)
    (kbehind : PySem.W.keepIn K (.ref fbehind) = true)
    (wbehind_parts : PySem.W.nsIn K Dbehind "parts" = some (some (.int 1 tbehind_parts)))
    (wbehind_times : PySem.W.nsIn K Dbehind "times" = some (some (.int 1 tbehind_times)))
    (afate : PySem.W.nsIn K mainGlobals "fate" = some (some (.ref ffate)))
    (lfate : K.lookup ffate = some ⟨ocfate, odfate, .func (PySem.W.fnOf "fate" "fate" (defArgs sfate) (defBody sfate) (defScope sfate) .none (.ref Dfate) dcfate pmfate anfate cdfate ctfate), slfate⟩)
    (qfate : PySem.W.codeIn K cdfate "fate" = true)
    (kfate : PySem.W.keepIn K (.ref ffate) = true)
    (wfate_parts : PySem.W.nsIn K Dfate "parts" = some (some (.int 1 tfate_parts)))
    (aLwell : PySem.W.nsIn K mainGlobals "_law_well" = some (some (.ref fLwell)))
    (lLwell : K.lookup fLwell = some ⟨ocLwell, odLwell, .func (PySem.W.fnOf "_law_well" "_law_well" (defArgs sLwell) (defBody sLwell) (defScope sLwell) .none kVLwell dcLwell pmLwell anLwell cdLwell ctLwell), slLwell⟩)
    (qLwell : PySem.W.codeIn K cdLwell "_law_well" = true)
    (kLwell : PySem.W.keepIn K (.ref fLwell) = true)
    (aLdraw : PySem.W.nsIn K mainGlobals "_law_draw" = some (some (.ref fLdraw)))
    (lLdraw : K.lookup fLdraw = some ⟨ocLdraw, odLdraw, .func (PySem.W.fnOf "_law_draw" "_law_draw" (defArgs sLdraw) (defBody sLdraw) (defScope sLdraw) .none kVLdraw dcLdraw pmLdraw anLdraw cdLdraw ctLdraw), slLdraw⟩)
    (qLdraw : PySem.W.codeIn K cdLdraw "_law_draw" = true)
    (kLdraw : PySem.W.keepIn K (.ref fLdraw) = true)
    (aLcaps : PySem.W.nsIn K mainGlobals "_law_caps" = some (some (.ref fLcaps)))
    (lLcaps : K.lookup fLcaps = some ⟨ocLcaps, odLcaps, .func (PySem.W.fnOf "_law_caps" "_law_caps" (defArgs sLcaps) (defBody sLcaps) (defScope sLcaps) .none kVLcaps dcLcaps pmLcaps anLcaps cdLcaps ctLcaps), slLcaps⟩)
    (qLcaps : PySem.W.codeIn K cdLcaps "_law_caps" = true)
    (kLcaps : PySem.W.keepIn K (.ref fLcaps) = true)
    (aLfacts : PySem.W.nsIn K mainGlobals "_law_facts" = some (some (.ref fLfacts)))
    (lLfacts : K.lookup fLfacts = some ⟨ocLfacts, odLfacts, .func (PySem.W.fnOf "_law_facts" "_law_facts" (defArgs sLfacts) (defBody sLfacts) (defScope sLfacts) .none kVLfacts dcLfacts pmLfacts anLfacts cdLfacts ctLfacts), slLfacts⟩)
    (qLfacts : PySem.W.codeIn K cdLfacts "_law_facts" = true)
    (kLfacts : PySem.W.keepIn K (.ref fLfacts) = true)
    (aLdeed : PySem.W.nsIn K mainGlobals "_law_deed" = some (some (.ref fLdeed)))
    (lLdeed : K.lookup fLdeed = some ⟨ocLdeed, odLdeed, .func (PySem.W.fnOf "_law_deed" "_law_deed" (defArgs sLdeed) (defBody sLdeed) (defScope sLdeed) .none kVLdeed dcLdeed pmLdeed anLdeed cdLdeed ctLdeed), slLdeed⟩)
    (qLdeed : PySem.W.codeIn K cdLdeed "_law_deed" = true)
    (kLdeed : PySem.W.keepIn K (.ref fLdeed) = true)
    (aLrow : PySem.W.nsIn K mainGlobals "_law_row" = some (some (.ref fLrow)))
    (lLrow : K.lookup fLrow = some ⟨ocLrow, odLrow, .func (PySem.W.fnOf "_law_row" "_law_row" (defArgs sLrow) (defBody sLrow) (defScope sLrow) .none kVLrow dcLrow pmLrow anLrow cdLrow ctLrow), slLrow⟩)
    (qLrow : PySem.W.codeIn K cdLrow "_law_row" = true)
    (kLrow : PySem.W.keepIn K (.ref fLrow) = true)
    (aLamounts : PySem.W.nsIn K mainGlobals "_law_amounts" = some (some (.ref fLamounts)))
    (lLamounts : K.lookup fLamounts = some ⟨ocLamounts, odLamounts, .func (PySem.W.fnOf "_law_amounts" "_law_amounts" (defArgs sLamounts) (defBody sLamounts) (defScope sLamounts) .none kVLamounts dcLamounts pmLamounts anLamounts cdLamounts ctLamounts), slLamounts⟩)
    (qLamounts : PySem.W.codeIn K cdLamounts "_law_amounts" = true)
    (kLamounts : PySem.W.keepIn K (.ref fLamounts) = true)
    (aLsaid : PySem.W.nsIn K mainGlobals "_law_said" = some (some (.ref fLsaid)))
    (lLsaid : K.lookup fLsaid = some ⟨ocLsaid, odLsaid, .func (PySem.W.fnOf "_law_said" "_law_said" (defArgs sLsaid) (defBody sLsaid) (defScope sLsaid) .none kVLsaid dcLsaid pmLsaid anLsaid cdLsaid ctLsaid), slLsaid⟩)
    (qLsaid : PySem.W.codeIn K cdLsaid "_law_said" = true)
    (kLsaid : PySem.W.keepIn K (.ref fLsaid) = true)
    (aLspoilt : PySem.W.nsIn K mainGlobals "_law_spoilt" = some (some (.ref fLspoilt)))
    (lLspoilt : K.lookup fLspoilt = some ⟨ocLspoilt, odLspoilt, .func (PySem.W.fnOf "_law_spoilt" "_law_spoilt" (defArgs sLspoilt) (defBody sLspoilt) (defScope sLspoilt) .none kVLspoilt dcLspoilt pmLspoilt anLspoilt cdLspoilt ctLspoilt), slLspoilt⟩)
    (qLspoilt : PySem.W.codeIn K cdLspoilt "_law_spoilt" = true)
    (kLspoilt : PySem.W.keepIn K (.ref fLspoilt) = true)
    (aLdue : PySem.W.nsIn K mainGlobals "_law_due" = some (some (.ref fLdue)))
    (lLdue : K.lookup fLdue = some ⟨ocLdue, odLdue, .func (PySem.W.fnOf "_law_due" "_law_due" (defArgs sLdue) (defBody sLdue) (defScope sLdue) .none kVLdue dcLdue pmLdue anLdue cdLdue ctLdue), slLdue⟩)
    (qLdue : PySem.W.codeIn K cdLdue "_law_due" = true)
    (kLdue : PySem.W.keepIn K (.ref fLdue) = true)
    (alaw : PySem.W.nsIn K mainGlobals "law" = some (some (.ref flaw)))
    (llaw : K.lookup flaw = some ⟨oclaw, odlaw, .func (PySem.W.fnOf "law" "law" (defArgs slaw) (defBody slaw) (defScope slaw) .none kVlaw dclaw pmlaw anlaw cdlaw ctlaw), sllaw⟩)
    (qlaw : PySem.W.codeIn K cdlaw "law" = true)
    (klaw : PySem.W.keepIn K (.ref flaw) = true)
    (pgJars : PySem.W.plainGet K CJars Str.empty = true)
    (hdJars : PySem.W.hasDictIn K CJars = true)
    (poJars : PySem.W.plainOver K CJars = true)
    (saJars : PySem.W.findIn K (.ref CJars) "__setattr__" = some (some (.builtin "object.__setattr__")))
    (mkJars : PySem.W.makesIn K CJars = true)
    (kcJars : PySem.W.keepIn K (.ref CJars) = true)
    (nJars_sizes : PySem.W.findIn K (.ref CJars) "sizes" = some none)
    (pgPour : PySem.W.plainGet K CPour Str.empty = true)
    (hdPour : PySem.W.hasDictIn K CPour = true)
    (poPour : PySem.W.plainOver K CPour = true)
    (saPour : PySem.W.findIn K (.ref CPour) "__setattr__" = some (some (.builtin "object.__setattr__")))
    (mkPour : PySem.W.makesIn K CPour = true)
    (kcPour : PySem.W.keepIn K (.ref CPour) = true)
    (nPour_a : PySem.W.findIn K (.ref CPour) "a" = some none)
    (nPour_b : PySem.W.findIn K (.ref CPour) "b" = some none)
    (pgPut : PySem.W.plainGet K CPut Str.empty = true)
    (hdPut : PySem.W.hasDictIn K CPut = true)
    (poPut : PySem.W.plainOver K CPut = true)
    (saPut : PySem.W.findIn K (.ref CPut) "__setattr__" = some (some (.builtin "object.__setattr__")))
    (mkPut : PySem.W.makesIn K CPut = true)
    (kcPut : PySem.W.keepIn K (.ref CPut) = true)
    (nPut_a : PySem.W.findIn K (.ref CPut) "a" = some none)
    (nPut_k : PySem.W.findIn K (.ref CPut) "k" = some none)
    (pgDraw : PySem.W.plainGet K CDraw Str.empty = true)
    (hdDraw : PySem.W.hasDictIn K CDraw = true)
    (poDraw : PySem.W.plainOver K CDraw = true)
    (saDraw : PySem.W.findIn K (.ref CDraw) "__setattr__" = some (some (.builtin "object.__setattr__")))
    (mkDraw : PySem.W.makesIn K CDraw = true)
    (kcDraw : PySem.W.keepIn K (.ref CDraw) = true)
    (nDraw_a : PySem.W.findIn K (.ref CDraw) "a" = some none)
    (nDraw_k : PySem.W.findIn K (.ref CDraw) "k" = some none)
    (pgChange : PySem.W.plainGet K CChange Str.empty = true)
    (hdChange : PySem.W.hasDictIn K CChange = true)
    (poChange : PySem.W.plainOver K CChange = true)
    (saChange : PySem.W.findIn K (.ref CChange) "__setattr__" = some (some (.builtin "object.__setattr__")))
    (mkChange : PySem.W.makesIn K CChange = true)
    (kcChange : PySem.W.keepIn K (.ref CChange) = true)
    (nChange_a : PySem.W.findIn K (.ref CChange) "a" = some none)
    (nChange_b : PySem.W.findIn K (.ref CChange) "b" = some none)
    (pgRow : PySem.W.plainGet K CRow Str.empty = true)
    (hdRow : PySem.W.hasDictIn K CRow = true)
    (poRow : PySem.W.plainOver K CRow = true)
    (saRow : PySem.W.findIn K (.ref CRow) "__setattr__" = some (some (.builtin "object.__setattr__")))
    (mkRow : PySem.W.makesIn K CRow = true)
    (kcRow : PySem.W.keepIn K (.ref CRow) = true)
    (nRow_jars : PySem.W.findIn K (.ref CRow) "jars" = some none)
    (nRow_deeds : PySem.W.findIn K (.ref CRow) "deeds" = some none)
    (yaChange : PySem.W.findIn K (.ref CChange) "__class__" = some (some (.builtin "object.__class__")))
    (ymChange : PySem.W.mroIn K CChange (.type "object") = some true)
    (yaDraw : PySem.W.findIn K (.ref CDraw) "__class__" = some (some (.builtin "object.__class__")))
    (ymDraw : PySem.W.mroIn K CDraw (.type "object") = some true)
    (yaPour : PySem.W.findIn K (.ref CPour) "__class__" = some (some (.builtin "object.__class__")))
    (ymPour : PySem.W.mroIn K CPour (.type "object") = some true)
    (yaPut : PySem.W.findIn K (.ref CPut) "__class__" = some (some (.builtin "object.__class__")))
    (ymPut : PySem.W.mroIn K CPut (.type "object") = some true)
    (yn : PySem.W.specialIn K (.builtin "object.__class__") "__get__" = some (some (.builtin "getset_descriptor.__get__")))
    (yt : PySem.W.takesIn K (.builtin "object.__class__") = some true)
    (isPour_Put : PySem.W.kitOne K (.ref CPour) (.ref CPut) = some false)
    (isPour_Draw : PySem.W.kitOne K (.ref CPour) (.ref CDraw) = some false)
    (isPour_Pour : PySem.W.kitOne K (.ref CPour) (.ref CPour) = some true)
    (isPour_Change : PySem.W.kitOne K (.ref CPour) (.ref CChange) = some false)
    (isPut_Put : PySem.W.kitOne K (.ref CPut) (.ref CPut) = some true)
    (isPut_Draw : PySem.W.kitOne K (.ref CPut) (.ref CDraw) = some false)
    (isPut_Pour : PySem.W.kitOne K (.ref CPut) (.ref CPour) = some false)
    (isPut_Change : PySem.W.kitOne K (.ref CPut) (.ref CChange) = some false)
    (isDraw_Put : PySem.W.kitOne K (.ref CDraw) (.ref CPut) = some false)
    (isDraw_Draw : PySem.W.kitOne K (.ref CDraw) (.ref CDraw) = some true)
    (isDraw_Pour : PySem.W.kitOne K (.ref CDraw) (.ref CPour) = some false)
    (isDraw_Change : PySem.W.kitOne K (.ref CDraw) (.ref CChange) = some false)
    (isChange_Put : PySem.W.kitOne K (.ref CChange) (.ref CPut) = some false)
    (isChange_Draw : PySem.W.kitOne K (.ref CChange) (.ref CDraw) = some false)
    (isChange_Pour : PySem.W.kitOne K (.ref CChange) (.ref CPour) = some false)
    (isChange_Change : PySem.W.kitOne K (.ref CChange) (.ref CChange) = some true)
    (tyBadCount : PySem.W.typeIn K (.ref fBadCountInit) = some (.type "function"))
    (oxBadCount : K.lookup CBadCount = some (PySem.excClassObj nmXBadCount qXBadCount CBadCount NXBadCount bsXBadCount bmXBadCount true snXBadCount subXBadCount abXBadCount colXBadCount ddXBadCount r0XBadCount r1XBadCount r2XBadCount r3XBadCount r5XBadCount "ValueError.__new__"))
    (orBadCount : PySem.HandSPX.refsVE bmXBadCount = true)
    (osBadCount : PySem.W.findIn K (.ref CBadCount) "__setattr__" = some (some (.builtin "object.__setattr__")))
    (obBadCount : PySem.W.subIn K (.ref CBadCount) (.type "BaseException") = some true)
    (otBadCount : PySem.W.typeIn K (.ref CBadCount) = some (.type "type"))
    (okBadCount : PySem.W.keepIn K (.ref CBadCount) = true)
    (xgBadCount : PySem.W.findIn K (.ref CBadCount) "__getattribute__" = some (some (.builtin "BaseException.__getattribute__")))
    (xnBadCount : PySem.W.findIn K (.ref CBadCount) "__getattr__" = some none)
    (xdBadCount : PySem.W.hasDictIn K CBadCount = true)
    (nBadCount_what : PySem.W.findIn K (.ref CBadCount) "what" = some none)
    (nBadCount_count : PySem.W.findIn K (.ref CBadCount) "count" = some none)
    (euBadCount_BadCount : PySem.W.subIn K (.ref CBadCount) (.ref CBadCount) = some true)
    (euBadCount_BadStart : PySem.W.subIn K (.ref CBadCount) (.ref CBadStart) = some false)
    (tyBadStart : PySem.W.typeIn K (.ref fBadStartInit) = some (.type "function"))
    (oxBadStart : K.lookup CBadStart = some (PySem.excClassObj nmXBadStart qXBadStart CBadStart NXBadStart bsXBadStart bmXBadStart true snXBadStart subXBadStart abXBadStart colXBadStart ddXBadStart r0XBadStart r1XBadStart r2XBadStart r3XBadStart r5XBadStart "ValueError.__new__"))
    (orBadStart : PySem.HandSPX.refsVE bmXBadStart = true)
    (osBadStart : PySem.W.findIn K (.ref CBadStart) "__setattr__" = some (some (.builtin "object.__setattr__")))
    (obBadStart : PySem.W.subIn K (.ref CBadStart) (.type "BaseException") = some true)
    (otBadStart : PySem.W.typeIn K (.ref CBadStart) = some (.type "type"))
    (okBadStart : PySem.W.keepIn K (.ref CBadStart) = true)
    (xgBadStart : PySem.W.findIn K (.ref CBadStart) "__getattribute__" = some (some (.builtin "BaseException.__getattribute__")))
    (xnBadStart : PySem.W.findIn K (.ref CBadStart) "__getattr__" = some none)
    (xdBadStart : PySem.W.hasDictIn K CBadStart = true)
    (nBadStart_jar : PySem.W.findIn K (.ref CBadStart) "jar" = some none)
    (euBadStart_BadCount : PySem.W.subIn K (.ref CBadStart) (.ref CBadCount) = some false)
    (euBadStart_BadStart : PySem.W.subIn K (.ref CBadStart) (.ref CBadStart) = some true)
    (yaBadStart : PySem.W.findIn K (.ref CBadStart) "__class__" = some (some (.builtin "object.__class__")))
    (ymBadStart : PySem.W.mroIn K CBadStart (.type "object") = some true)
    (xNoJar : PySem.W.nsIn K mainGlobals "NoJar" = some (some (.ref CNoJar)))
    (ixBadStart_NoJar : PySem.W.kitOne K (.ref CBadStart) (.ref CNoJar) = some false)
    (gMOSTJARS : PySem.W.nsIn K mainGlobals "MOST_JARS" = some (some (.int 6 tkMOSTJARS)))
    (gMOSTDEEDS : PySem.W.nsIn K mainGlobals "MOST_DEEDS" = some (some (.int 20 tkMOSTDEEDS)))
    (gMOSTMUCH : PySem.W.nsIn K mainGlobals "MOST_MUCH" = some (some (.int 1000000000000 tkMOSTMUCH)))
    (gMOSTTIMES : PySem.W.nsIn K mainGlobals "MOST_TIMES" = some (some (.int 1000 tkMOSTTIMES)))
    (gMOSTROUNDS : PySem.W.nsIn K mainGlobals "MOST_ROUNDS" = some (some (.int 20000 tkMOSTROUNDS)))
    (zabs : PySem.W.nsIn K mainGlobals "abs" = some none)
    (zenumerate : PySem.W.nsIn K mainGlobals "enumerate" = some none)
    (zint : PySem.W.nsIn K mainGlobals "int" = some none)
    (zisinstance : PySem.W.nsIn K mainGlobals "isinstance" = some none)
    (zlen : PySem.W.nsIn K mainGlobals "len" = some none)
    (zlist : PySem.W.nsIn K mainGlobals "list" = some none)
    (zmax : PySem.W.nsIn K mainGlobals "max" = some none)
    (zmin : PySem.W.nsIn K mainGlobals "min" = some none)
    (zrange : PySem.W.nsIn K mainGlobals "range" = some none)
    (ztuple : PySem.W.nsIn K mainGlobals "tuple" = some none)
    (cdL : cdlaw = .ref CL)
    (coL : K.lookup CL = some ⟨.type "code", ddL, .fields vsL, slL⟩)
    (vtL : vsL[11]? = some (.ref TL))
    (ntL : K.lookup TL = none)
    (chL : PySem.W.codeHdIn K CL TL = true) :
    LamX.LawAtS l w K CX0 12 63 "_law_script" mg fa h := by
  have e := hfa.symm.trans (PySem.W.mg_of X G alaw)
  cases e
  have tab := own CL TL _ _ _ _ _ _ llaw rfl cdL coL vtL
  exact ⟨PySem.W.fnOf "law" "law" (defArgs slaw) (defBody slaw) (defScope slaw) .none kVlaw dclaw pmlaw anlaw cdlaw ctlaw, [(CL, TL)], spLaw K TL, fun p hp => by rw [List.mem_singleton.mp hp]; exact tab, fun p hp => by rw [List.mem_singleton.mp hp]; exact ntL, fun p hp => by rw [List.mem_singleton.mp hp]; exact PySem.W.codeHd_of_K X chL, fun s v => .of_eq rfl,
    fun H a ns hl _ hH hS => ⟨a, ns, rfl, hS, hl, hH _ (List.mem_singleton.mpr rfl), fun _ => rfl⟩, fun base _ _ hT => oklaw {
    cJars := CJars
    mJars := PySem.W.mg_of X G xJars
    cPour := CPour
    mPour := PySem.W.mg_of X G xPour
    cPut := CPut
    mPut := PySem.W.mg_of X G xPut
    cDraw := CDraw
    mDraw := PySem.W.mg_of X G xDraw
    cChange := CChange
    mChange := PySem.W.mg_of X G xChange
    cRow := CRow
    mRow := PySem.W.mg_of X G xRow
    cBadCount := CBadCount
    mBadCount := PySem.W.mg_of X G xBadCount
    cBadStart := CBadStart
    mBadStart := PySem.W.mg_of X G xBadStart
    gcheckmuch := PySem.W.mg_of X G acheckmuch
    acheckmuch := fcheckmuch
    dcheckmuch := PySem.W.fnOf "check_much" "check_much" (defArgs scheckmuch) (defBody scheckmuch) (defScope scheckmuch) .none kVcheckmuch dccheckmuch pmcheckmuch ancheckmuch cdcheckmuch ctcheckmuch
    fcheckmuch := fun_mk (st := scheckmuch) lcheckmuch qcheckmuch kcheckmuch
    bcheckmuch := (fun_mk (st := scheckmuch) lcheckmuch qcheckmuch kcheckmuch).binds (ps := ["what", "much"]) fun _ _ _ _ _ _ us hl => match us, hl with | [_, _], _ => rfl
    gcheckjar := PySem.W.mg_of X G acheckjar
    acheckjar := fcheckjar
    dcheckjar := PySem.W.fnOf "check_jar" "check_jar" (defArgs scheckjar) (defBody scheckjar) (defScope scheckjar) .none kVcheckjar dccheckjar pmcheckjar ancheckjar cdcheckjar ctcheckjar
    fcheckjar := fun_mk (st := scheckjar) lcheckjar qcheckjar kcheckjar
    bcheckjar := (fun_mk (st := scheckjar) lcheckjar qcheckjar kcheckjar).binds (ps := ["jars", "jar"]) fun _ _ _ _ _ _ us hl => match us, hl with | [_, _], _ => rfl
    gcheckdeed := PySem.W.mg_of X G acheckdeed
    acheckdeed := fcheckdeed
    dcheckdeed := PySem.W.fnOf "check_deed" "check_deed" (defArgs scheckdeed) (defBody scheckdeed) (defScope scheckdeed) .none kVcheckdeed dccheckdeed pmcheckdeed ancheckdeed cdcheckdeed ctcheckdeed
    fcheckdeed := fun_mk (st := scheckdeed) lcheckdeed qcheckdeed kcheckdeed
    bcheckdeed := (fun_mk (st := scheckdeed) lcheckdeed qcheckdeed kcheckdeed).binds (ps := ["jars", "deed"]) fun _ _ _ _ _ _ us hl => match us, hl with | [_, _], _ => rfl
    aBadCountInit := fBadCountInit
    dBadCountInit := PySem.W.fnOf "__init__" "BadCount.__init__" (defArgs sBadCountInit) (defBody sBadCountInit) (defScope sBadCountInit) .none kVBadCountInit dcBadCountInit pmBadCountInit anBadCountInit cdBadCountInit ctBadCountInit
    fBadCountInit := fun_mk (st := sBadCountInit) lBadCountInit qBadCountInit kBadCountInit
    bBadCountInit := (fun_mk (st := sBadCountInit) lBadCountInit qBadCountInit kBadCountInit).binds (ps := ["self", "what", "count"]) fun _ _ _ _ _ _ us hl => match us, hl with | [_, _, _], _ => rfl
    aBadStartInit := fBadStartInit
    dBadStartInit := PySem.W.fnOf "__init__" "BadStart.__init__" (defArgs sBadStartInit) (defBody sBadStartInit) (defScope sBadStartInit) .none kVBadStartInit dcBadStartInit pmBadStartInit anBadStartInit cdBadStartInit ctBadStartInit
    fBadStartInit := fun_mk (st := sBadStartInit) lBadStartInit qBadStartInit kBadStartInit
    bBadStartInit := (fun_mk (st := sBadStartInit) lBadStartInit qBadStartInit kBadStartInit).binds (ps := ["self", "jar"]) fun _ _ _ _ _ _ us hl => match us, hl with | [_, _], _ => rfl
    aJarsInit := fJarsInit
    dJarsInit := PySem.W.fnOf "__init__" "Jars.__init__" (defArgs sJarsInit) (defBody sJarsInit) (defScope sJarsInit) .none kVJarsInit dcJarsInit pmJarsInit anJarsInit cdJarsInit ctJarsInit
    fJarsInit := fun_mk (st := sJarsInit) lJarsInit qJarsInit kJarsInit
    bJarsInit := (fun_mk (st := sJarsInit) lJarsInit qJarsInit kJarsInit).binds (ps := ["self", "sizes"]) fun _ _ _ _ _ _ us hl => match us, hl with | [_, _], _ => rfl
    aPourInit := fPourInit
    dPourInit := PySem.W.fnOf "__init__" "Pour.__init__" (defArgs sPourInit) (defBody sPourInit) (defScope sPourInit) .none kVPourInit dcPourInit pmPourInit anPourInit cdPourInit ctPourInit
    fPourInit := fun_mk (st := sPourInit) lPourInit qPourInit kPourInit
    bPourInit := (fun_mk (st := sPourInit) lPourInit qPourInit kPourInit).binds (ps := ["self", "a", "b"]) fun _ _ _ _ _ _ us hl => match us, hl with | [_, _, _], _ => rfl
    aPutInit := fPutInit
    dPutInit := PySem.W.fnOf "__init__" "Put.__init__" (defArgs sPutInit) (defBody sPutInit) (defScope sPutInit) .none kVPutInit dcPutInit pmPutInit anPutInit cdPutInit ctPutInit
    fPutInit := fun_mk (st := sPutInit) lPutInit qPutInit kPutInit
    bPutInit := (fun_mk (st := sPutInit) lPutInit qPutInit kPutInit).binds (ps := ["self", "a", "k"]) fun _ _ _ _ _ _ us hl => match us, hl with | [_, _, _], _ => rfl
    aDrawInit := fDrawInit
    dDrawInit := PySem.W.fnOf "__init__" "Draw.__init__" (defArgs sDrawInit) (defBody sDrawInit) (defScope sDrawInit) .none kVDrawInit dcDrawInit pmDrawInit anDrawInit cdDrawInit ctDrawInit
    fDrawInit := fun_mk (st := sDrawInit) lDrawInit qDrawInit kDrawInit
    bDrawInit := (fun_mk (st := sDrawInit) lDrawInit qDrawInit kDrawInit).binds (ps := ["self", "a", "k"]) fun _ _ _ _ _ _ us hl => match us, hl with | [_, _, _], _ => rfl
    aChangeInit := fChangeInit
    dChangeInit := PySem.W.fnOf "__init__" "Change.__init__" (defArgs sChangeInit) (defBody sChangeInit) (defScope sChangeInit) .none kVChangeInit dcChangeInit pmChangeInit anChangeInit cdChangeInit ctChangeInit
    fChangeInit := fun_mk (st := sChangeInit) lChangeInit qChangeInit kChangeInit
    bChangeInit := (fun_mk (st := sChangeInit) lChangeInit qChangeInit kChangeInit).binds (ps := ["self", "a", "b"]) fun _ _ _ _ _ _ us hl => match us, hl with | [_, _, _], _ => rfl
    aRowInit := fRowInit
    dRowInit := PySem.W.fnOf "__init__" "Row.__init__" (defArgs sRowInit) (defBody sRowInit) (defScope sRowInit) .none kVRowInit dcRowInit pmRowInit anRowInit cdRowInit ctRowInit
    fRowInit := fun_mk (st := sRowInit) lRowInit qRowInit kRowInit
    bRowInit := (fun_mk (st := sRowInit) lRowInit qRowInit kRowInit).binds (ps := ["self", "jars", "deeds"]) fun _ _ _ _ _ _ us hl => match us, hl with | [_, _, _], _ => rfl
    gcheckstart := PySem.W.mg_of X G acheckstart
    acheckstart := fcheckstart
    dcheckstart := PySem.W.fnOf "check_start" "check_start" (defArgs scheckstart) (defBody scheckstart) (defScope scheckstart) .none kVcheckstart dccheckstart pmcheckstart ancheckstart cdcheckstart ctcheckstart
    fcheckstart := fun_mk (st := scheckstart) lcheckstart qcheckstart kcheckstart
    bcheckstart := (fun_mk (st := scheckstart) lcheckstart qcheckstart kcheckstart).binds (ps := ["jars", "start", "parts"]) fun _ _ _ _ _ _ us hl => match us, hl with | [_, _, _], _ => rfl
    gbehinddeed := PySem.W.mg_of X G abehinddeed
    abehinddeed := fbehinddeed
    dbehinddeed := PySem.W.fnOf "behind_deed" "behind_deed" (defArgs sbehinddeed) (defBody sbehinddeed) (defScope sbehinddeed) .none kVbehinddeed dcbehinddeed pmbehinddeed anbehinddeed cdbehinddeed ctbehinddeed
    fbehinddeed := fun_mk (st := sbehinddeed) lbehinddeed qbehinddeed kbehinddeed
    bbehinddeed := (fun_mk (st := sbehinddeed) lbehinddeed qbehinddeed kbehinddeed).binds (ps := ["jars", "deed", "stand", "parts"]) fun _ _ _ _ _ _ us hl => match us, hl with | [_, _, _, _], _ => rfl
    gbehindround := PySem.W.mg_of X G abehindround
    abehindround := fbehindround
    dbehindround := PySem.W.fnOf "behind_round" "behind_round" (defArgs sbehindround) (defBody sbehindround) (defScope sbehindround) .none kVbehindround dcbehindround pmbehindround anbehindround cdbehindround ctbehindround
    fbehindround := fun_mk (st := sbehindround) lbehindround qbehindround kbehindround
    bbehindround := (fun_mk (st := sbehindround) lbehindround qbehindround kbehindround).binds (ps := ["row", "stand", "parts"]) fun _ _ _ _ _ _ us hl => match us, hl with | [_, _, _], _ => rfl
    gbehind := PySem.W.mg_of X G abehind
    abehind := fbehind
    dbehind := PySem.W.fnOf "behind" "behind" (defArgs sbehind) (defBody sbehind) (defScope sbehind) .none (.ref Dbehind) dcbehind pmbehind anbehind cdbehind ctbehind
    fbehind := funD2 lbehind qbehind kbehind wbehind_parts wbehind_times
    gfate := PySem.W.mg_of X G afate
    afate := ffate
    dfate := PySem.W.fnOf "fate" "fate" (defArgs sfate) (defBody sfate) (defScope sfate) .none (.ref Dfate) dcfate pmfate anfate cdfate ctfate
    ffate := funD1 lfate qfate kfate wfate_parts
    gLwell := PySem.W.mg_of X G aLwell
    aLwell := fLwell
    dLwell := PySem.W.fnOf "_law_well" "_law_well" (defArgs sLwell) (defBody sLwell) (defScope sLwell) .none kVLwell dcLwell pmLwell anLwell cdLwell ctLwell
    fLwell := fun_mk (st := sLwell) lLwell qLwell kLwell
    bLwell := (fun_mk (st := sLwell) lLwell qLwell kLwell).binds (ps := ["_law_cell"]) fun _ _ _ _ _ _ us hl => match us, hl with | [_], _ => rfl
    gLdraw := PySem.W.mg_of X G aLdraw
    aLdraw := fLdraw
    dLdraw := PySem.W.fnOf "_law_draw" "_law_draw" (defArgs sLdraw) (defBody sLdraw) (defScope sLdraw) .none kVLdraw dcLdraw pmLdraw anLdraw cdLdraw ctLdraw
    fLdraw := fun_mk (st := sLdraw) lLdraw qLdraw kLdraw
    bLdraw := (fun_mk (st := sLdraw) lLdraw qLdraw kLdraw).binds (ps := ["_law_well_here", "_law_many"]) fun _ _ _ _ _ _ us hl => match us, hl with | [_, _], _ => rfl
    gLcaps := PySem.W.mg_of X G aLcaps
    aLcaps := fLcaps
    dLcaps := PySem.W.fnOf "_law_caps" "_law_caps" (defArgs sLcaps) (defBody sLcaps) (defScope sLcaps) .none kVLcaps dcLcaps pmLcaps anLcaps cdLcaps ctLcaps
    fLcaps := fun_mk (st := sLcaps) lLcaps qLcaps kLcaps
    bLcaps := (fun_mk (st := sLcaps) lLcaps qLcaps kLcaps).binds (ps := ["_law_well_here", "_law_most"]) fun _ _ _ _ _ _ us hl => match us, hl with | [_, _], _ => rfl
    gLfacts := PySem.W.mg_of X G aLfacts
    aLfacts := fLfacts
    dLfacts := PySem.W.fnOf "_law_facts" "_law_facts" (defArgs sLfacts) (defBody sLfacts) (defScope sLfacts) .none kVLfacts dcLfacts pmLfacts anLfacts cdLfacts ctLfacts
    fLfacts := fun_mk (st := sLfacts) lLfacts qLfacts kLfacts
    bLfacts := (fun_mk (st := sLfacts) lLfacts qLfacts kLfacts).binds (ps := ["_law_well_here", "_law_caps_here", "_law_many"]) fun _ _ _ _ _ _ us hl => match us, hl with | [_, _, _], _ => rfl
    gLdeed := PySem.W.mg_of X G aLdeed
    aLdeed := fLdeed
    dLdeed := PySem.W.fnOf "_law_deed" "_law_deed" (defArgs sLdeed) (defBody sLdeed) (defScope sLdeed) .none kVLdeed dcLdeed pmLdeed anLdeed cdLdeed ctLdeed
    fLdeed := fun_mk (st := sLdeed) lLdeed qLdeed kLdeed
    bLdeed := (fun_mk (st := sLdeed) lLdeed qLdeed kLdeed).binds (ps := ["_law_fact"]) fun _ _ _ _ _ _ us hl => match us, hl with | [_], _ => rfl
    gLrow := PySem.W.mg_of X G aLrow
    aLrow := fLrow
    dLrow := PySem.W.fnOf "_law_row" "_law_row" (defArgs sLrow) (defBody sLrow) (defScope sLrow) .none kVLrow dcLrow pmLrow anLrow cdLrow ctLrow
    fLrow := fun_mk (st := sLrow) lLrow qLrow kLrow
    bLrow := (fun_mk (st := sLrow) lLrow qLrow kLrow).binds (ps := ["_law_caps_here", "_law_facts_here"]) fun _ _ _ _ _ _ us hl => match us, hl with | [_, _], _ => rfl
    gLamounts := PySem.W.mg_of X G aLamounts
    aLamounts := fLamounts
    dLamounts := PySem.W.fnOf "_law_amounts" "_law_amounts" (defArgs sLamounts) (defBody sLamounts) (defScope sLamounts) .none kVLamounts dcLamounts pmLamounts anLamounts cdLamounts ctLamounts
    fLamounts := fun_mk (st := sLamounts) lLamounts qLamounts kLamounts
    bLamounts := (fun_mk (st := sLamounts) lLamounts qLamounts kLamounts).binds (ps := ["_law_well_here", "_law_caps_here", "_law_portions"]) fun _ _ _ _ _ _ us hl => match us, hl with | [_, _, _], _ => rfl
    gLsaid := PySem.W.mg_of X G aLsaid
    aLsaid := fLsaid
    dLsaid := PySem.W.fnOf "_law_said" "_law_said" (defArgs sLsaid) (defBody sLsaid) (defScope sLsaid) .none kVLsaid dcLsaid pmLsaid anLsaid cdLsaid ctLsaid
    fLsaid := fun_mk (st := sLsaid) lLsaid qLsaid kLsaid
    bLsaid := (fun_mk (st := sLsaid) lLsaid qLsaid kLsaid).binds (ps := ["_law_ask"]) fun _ _ _ _ _ _ us hl => match us, hl with | [_], _ => rfl
    gLspoilt := PySem.W.mg_of X G aLspoilt
    aLspoilt := fLspoilt
    dLspoilt := PySem.W.fnOf "_law_spoilt" "_law_spoilt" (defArgs sLspoilt) (defBody sLspoilt) (defScope sLspoilt) .none kVLspoilt dcLspoilt pmLspoilt anLspoilt cdLspoilt ctLspoilt
    fLspoilt := fun_mk (st := sLspoilt) lLspoilt qLspoilt kLspoilt
    bLspoilt := (fun_mk (st := sLspoilt) lLspoilt qLspoilt kLspoilt).binds (ps := ["_law_well_here", "_law_caps_here", "_law_amounts_here", "_law_portions"]) fun _ _ _ _ _ _ us hl => match us, hl with | [_, _, _, _], _ => rfl
    gLdue := PySem.W.mg_of X G aLdue
    aLdue := fLdue
    dLdue := PySem.W.fnOf "_law_due" "_law_due" (defArgs sLdue) (defBody sLdue) (defScope sLdue) .none kVLdue dcLdue pmLdue anLdue cdLdue ctLdue
    fLdue := fun_mk (st := sLdue) lLdue qLdue kLdue
    bLdue := (fun_mk (st := sLdue) lLdue qLdue kLdue).binds (ps := ["_law_caps_here", "_law_amounts_here", "_law_portions", "_law_many"]) fun _ _ _ _ _ _ us hl => match us, hl with | [_, _, _, _], _ => rfl
    glaw := PySem.W.mg_of X G alaw
    alaw := fa
    dlaw := PySem.W.fnOf "law" "law" (defArgs slaw) (defBody slaw) (defScope slaw) .none kVlaw dclaw pmlaw anlaw cdlaw ctlaw
    flaw := fun_mk (st := slaw) llaw qlaw klaw
    blaw := (fun_mk (st := slaw) llaw qlaw klaw).binds (ps := ["_law_script"]) fun _ _ _ _ _ _ us hl => match us, hl with | [_], _ => rfl
    lJars := ⟨pgJars, hdJars, poJars, saJars⟩
    kJars := ⟨mkJars, aJarsInit, iJarsInit, kcJars⟩
    nJars_sizes := nJars_sizes
    lPour := ⟨pgPour, hdPour, poPour, saPour⟩
    kPour := ⟨mkPour, aPourInit, iPourInit, kcPour⟩
    nPour_a := nPour_a
    nPour_b := nPour_b
    lPut := ⟨pgPut, hdPut, poPut, saPut⟩
    kPut := ⟨mkPut, aPutInit, iPutInit, kcPut⟩
    nPut_a := nPut_a
    nPut_k := nPut_k
    lDraw := ⟨pgDraw, hdDraw, poDraw, saDraw⟩
    kDraw := ⟨mkDraw, aDrawInit, iDrawInit, kcDraw⟩
    nDraw_a := nDraw_a
    nDraw_k := nDraw_k
    lChange := ⟨pgChange, hdChange, poChange, saChange⟩
    kChange := ⟨mkChange, aChangeInit, iChangeInit, kcChange⟩
    nChange_a := nChange_a
    nChange_b := nChange_b
    lRow := ⟨pgRow, hdRow, poRow, saRow⟩
    kRow := ⟨mkRow, aRowInit, iRowInit, kcRow⟩
    nRow_jars := nRow_jars
    nRow_deeds := nRow_deeds
    yChange := ⟨yaChange, yn, yt, ymChange⟩
    yDraw := ⟨yaDraw, yn, yt, ymDraw⟩
    yPour := ⟨yaPour, yn, yt, ymPour⟩
    yPut := ⟨yaPut, yn, yt, ymPut⟩
    iPour_Put := isPour_Put
    iPour_Draw := isPour_Draw
    iPour_Pour := isPour_Pour
    iPour_Change := isPour_Change
    iPut_Put := isPut_Put
    iPut_Draw := isPut_Draw
    iPut_Pour := isPut_Pour
    iPut_Change := isPut_Change
    iDraw_Put := isDraw_Put
    iDraw_Draw := isDraw_Draw
    iDraw_Pour := isDraw_Pour
    iDraw_Change := isDraw_Change
    iChange_Put := isChange_Put
    iChange_Draw := isChange_Draw
    iChange_Pour := isChange_Pour
    iChange_Change := isChange_Change
    iBadCount := aBadCountInit
    tBadCount := tyBadCount
    oBadCount := ⟨⟨nmXBadCount, qXBadCount, NXBadCount, bsXBadCount, bmXBadCount, snXBadCount, subXBadCount, abXBadCount, colXBadCount, ddXBadCount, r0XBadCount, r1XBadCount, r2XBadCount, r3XBadCount, r5XBadCount, oxBadCount, orBadCount⟩, osBadCount, obBadCount, otBadCount, okBadCount⟩
    xfBadCount := ⟨xgBadCount, xnBadCount, obBadCount, xdBadCount⟩
    nBadCount_what := nBadCount_what
    nBadCount_count := nBadCount_count
    emBadCount_BadCount := PySem.W.exm_ref obBadCount xdBadCount otBadCount euBadCount_BadCount
    emBadCount_BadStart := PySem.W.exm_ref obBadStart xdBadStart otBadStart euBadCount_BadStart
    iBadStart := aBadStartInit
    tBadStart := tyBadStart
    oBadStart := ⟨⟨nmXBadStart, qXBadStart, NXBadStart, bsXBadStart, bmXBadStart, snXBadStart, subXBadStart, abXBadStart, colXBadStart, ddXBadStart, r0XBadStart, r1XBadStart, r2XBadStart, r3XBadStart, r5XBadStart, oxBadStart, orBadStart⟩, osBadStart, obBadStart, otBadStart, okBadStart⟩
    xfBadStart := ⟨xgBadStart, xnBadStart, obBadStart, xdBadStart⟩
    nBadStart_jar := nBadStart_jar
    emBadStart_BadCount := PySem.W.exm_ref obBadCount xdBadCount otBadCount euBadStart_BadCount
    emBadStart_BadStart := PySem.W.exm_ref obBadStart xdBadStart otBadStart euBadStart_BadStart
    xcBadStart := ⟨xgBadStart, xnBadStart, obBadStart, xdBadStart, yaBadStart, yn, yt, ymBadStart⟩
    cNoJar := CNoJar
    mNoJar := PySem.W.mg_of X G xNoJar
    ixBadStart_NoJar := ixBadStart_NoJar
    tMOSTJARS := tkMOSTJARS
    cMOSTJARS := PySem.W.mg_of X G gMOSTJARS
    tMOSTDEEDS := tkMOSTDEEDS
    cMOSTDEEDS := PySem.W.mg_of X G gMOSTDEEDS
    tMOSTMUCH := tkMOSTMUCH
    cMOSTMUCH := PySem.W.mg_of X G gMOSTMUCH
    tMOSTTIMES := tkMOSTTIMES
    cMOSTTIMES := PySem.W.mg_of X G gMOSTTIMES
    tMOSTROUNDS := tkMOSTROUNDS
    cMOSTROUNDS := PySem.W.mg_of X G gMOSTROUNDS
    nabs := PySem.W.mg_none_of X G zabs
    nenumerate := PySem.W.mg_none_of X G zenumerate
    nint := PySem.W.mg_none_of X G zint
    nisinstance := PySem.W.mg_none_of X G zisinstance
    nlen := PySem.W.mg_none_of X G zlen
    nlist := PySem.W.mg_none_of X G zlist
    nmax := PySem.W.mg_none_of X G zmax
    nmin := PySem.W.mg_none_of X G zmin
    nrange := PySem.W.mg_none_of X G zrange
    ntuple := PySem.W.mg_none_of X G ztuple } (hT _ (List.mem_singleton.mpr rfl)) cdL⟩
theorem walk {l : PySem.W.OpenLaw} {q : Program} {loose : List Str} {XP : (Str → Option Value) → Heap → Prop} {YP : World → Heap → Prop} {d : DefRec} {K : Params → PySem.W.Frag} (hn : l.most = some 63) (hdf : d.params.defaults = []) (hrec : ((recsOf q).any fun e => e.name == d.name) = true)
    (hY : ∀ (w : World) (h : Heap), YP w h → (K w.params).In h)
    (F : ∀ (w : World) (mg : Str → Option Value) (fa : Addr) (h : Heap), (K w.params).In h → h.Ns mainGlobals mg → mg d.name = some (.ref fa) → LamX.OwnTab (K w.params) fa h → LamX.LawAtS l w (K w.params) CX0 12 63 "_law_script" mg fa h) :
    PySem.W.WalkO q loose XP YP l.row.toRowW d [] (fun f vs => PySem.call f vs) :=
  LamX.walk_ofOwn (n := 63) (k := 12) (x := "_law_script") (CX := fun _ => CX0) hn (by decide) hdf ⟨rfl, by decide, by decide⟩ hrec hY (fun w mg fa h _ => F w mg fa h) fun _ _ _ _ _ z => z
end Kp


open PySem PySem.W PyProof.Rows
set_option maxRecDepth 100000 in
set_option maxHeartbeats 0 in
theorem PySem.Challenge.cw_wholedrops_k04_what_is_no_start_holds : PySem.Challenge.rw_wholedrops_k04_what_is_no_start.Holds := by
  w_on; o_law; k_head; (case hw => w_witness2)
  k_fill
  refine Kp.walk (l := PySem.Challenge.rw_wholedrops_k04_what_is_no_start) rfl rfl (by decide +kernel) (fun w h Y => PySem.W.km_in_of Y) ?F
  case F =>
    intro w mg fa h KX G hmg own
    refine' Kp.all_mk KX G hmg own ?xJars ?xPour ?xPut ?xDraw ?xChange ?xRow ?xBadCount ?xBadStart ?acheckmuch ?lcheckmuch ?qcheckmuch ?kcheckmuch ?acheckjar ?lcheckjar ?qcheckjar ?kcheckjar ?acheckdeed ?lcheckdeed ?qcheckdeed ?kcheckdeed ?aBadCountInit ?iBadCountInit ?lBadCountInit ?qBadCountInit ?kBadCountInit ?aBadStartInit ?iBadStartInit ?lBadStartInit ?qBadStartInit ?kBadStartInit ?aJarsInit ?iJarsInit ?lJarsInit ?qJarsInit ?kJarsInit ?aPourInit ?iPourInit ?lPourInit ?qPourInit ?kPourInit ?aPutInit ?iPutInit ?lPutInit ?qPutInit ?kPutInit ?aDrawInit ?iDrawInit ?lDrawInit ?qDrawInit ?kDrawInit ?aChangeInit ?iChangeInit ?lChangeInit ?qChangeInit ?kChangeInit ?aRowInit ?iRowInit ?lRowInit ?qRowInit ?kRowInit ?acheckstart ?lcheckstart ?qcheckstart ?kcheckstart ?abehinddeed ?lbehinddeed ?qbehinddeed ?kbehinddeed ?abehindround ?lbehindround ?qbehindround ?kbehindround ?abehind ?lbehind ?qbehind ?kbehind ?wbehind_parts ?wbehind_times ?afate ?lfate ?qfate ?kfate ?wfate_parts ?aLwell ?lLwell ?qLwell ?kLwell ?aLdraw ?lLdraw ?qLdraw ?kLdraw ?aLcaps ?lLcaps ?qLcaps ?kLcaps ?aLfacts ?lLfacts ?qLfacts ?kLfacts ?aLdeed ?lLdeed ?qLdeed ?kLdeed ?aLrow ?lLrow ?qLrow ?kLrow ?aLamounts ?lLamounts ?qLamounts ?kLamounts ?aLsaid ?lLsaid ?qLsaid ?kLsaid ?aLspoilt ?lLspoilt ?qLspoilt ?kLspoilt ?aLdue ?lLdue ?qLdue ?kLdue ?alaw ?llaw ?qlaw ?klaw ?pgJars ?hdJars ?poJars ?saJars ?mkJars ?kcJars ?nJars_sizes ?pgPour ?hdPour ?poPour ?saPour ?mkPour ?kcPour ?nPour_a ?nPour_b ?pgPut ?hdPut ?poPut ?saPut ?mkPut ?kcPut ?nPut_a ?nPut_k ?pgDraw ?hdDraw ?poDraw ?saDraw ?mkDraw ?kcDraw ?nDraw_a ?nDraw_k ?pgChange ?hdChange ?poChange ?saChange ?mkChange ?kcChange ?nChange_a ?nChange_b ?pgRow ?hdRow ?poRow ?saRow ?mkRow ?kcRow ?nRow_jars ?nRow_deeds ?yaChange ?ymChange ?yaDraw ?ymDraw ?yaPour ?ymPour ?yaPut ?ymPut ?yn ?yt ?isPour_Put ?isPour_Draw ?isPour_Pour ?isPour_Change ?isPut_Put ?isPut_Draw ?isPut_Pour ?isPut_Change ?isDraw_Put ?isDraw_Draw ?isDraw_Pour ?isDraw_Change ?isChange_Put ?isChange_Draw ?isChange_Pour ?isChange_Change ?tyBadCount ?oxBadCount ?orBadCount ?osBadCount ?obBadCount ?otBadCount ?okBadCount ?xgBadCount ?xnBadCount ?xdBadCount ?nBadCount_what ?nBadCount_count ?euBadCount_BadCount ?euBadCount_BadStart ?tyBadStart ?oxBadStart ?orBadStart ?osBadStart ?obBadStart ?otBadStart ?okBadStart ?xgBadStart ?xnBadStart ?xdBadStart ?nBadStart_jar ?euBadStart_BadCount ?euBadStart_BadStart ?yaBadStart ?ymBadStart ?xNoJar ?ixBadStart_NoJar ?gMOSTJARS ?gMOSTDEEDS ?gMOSTMUCH ?gMOSTTIMES ?gMOSTROUNDS ?zabs ?zenumerate ?zint ?zisinstance ?zlen ?zlist ?zmax ?zmin ?zrange ?ztuple ?cdL ?coL ?vtL ?ntL ?chL
    (case xJars => k_is)
    (case xPour => k_is)
    (case xPut => k_is)
    (case xDraw => k_is)
    (case xChange => k_is)
    (case xRow => k_is)
    (case xBadCount => k_is)
    (case xBadStart => k_is)
    (case acheckmuch => k_is)
    (case lcheckmuch => k_is)
    (case qcheckmuch => k_is)
    (case kcheckmuch => k_is)
    (case acheckjar => k_is)
    (case lcheckjar => k_is)
    (case qcheckjar => k_is)
    (case kcheckjar => k_is)
    (case acheckdeed => k_is)
    (case lcheckdeed => k_is)
    (case qcheckdeed => k_is)
    (case kcheckdeed => k_is)
    (case aBadCountInit => k_is)
    (case iBadCountInit => k_is)
    (case lBadCountInit => k_is)
    (case qBadCountInit => k_is)
    (case kBadCountInit => k_is)
    (case aBadStartInit => k_is)
    (case iBadStartInit => k_is)
    (case lBadStartInit => k_is)
    (case qBadStartInit => k_is)
    (case kBadStartInit => k_is)
    (case aJarsInit => k_is)
    (case iJarsInit => k_is)
    (case lJarsInit => k_is)
    (case qJarsInit => k_is)
    (case kJarsInit => k_is)
    (case aPourInit => k_is)
    (case iPourInit => k_is)
    (case lPourInit => k_is)
    (case qPourInit => k_is)
    (case kPourInit => k_is)
    (case aPutInit => k_is)
    (case iPutInit => k_is)
    (case lPutInit => k_is)
    (case qPutInit => k_is)
    (case kPutInit => k_is)
    (case aDrawInit => k_is)
    (case iDrawInit => k_is)
    (case lDrawInit => k_is)
    (case qDrawInit => k_is)
    (case kDrawInit => k_is)
    (case aChangeInit => k_is)
    (case iChangeInit => k_is)
    (case lChangeInit => k_is)
    (case qChangeInit => k_is)
    (case kChangeInit => k_is)
    (case aRowInit => k_is)
    (case iRowInit => k_is)
    (case lRowInit => k_is)
    (case qRowInit => k_is)
    (case kRowInit => k_is)
    (case acheckstart => k_is)
    (case lcheckstart => k_is)
    (case qcheckstart => k_is)
    (case kcheckstart => k_is)
    (case abehinddeed => k_is)
    (case lbehinddeed => k_is)
    (case qbehinddeed => k_is)
    (case kbehinddeed => k_is)
    (case abehindround => k_is)
    (case lbehindround => k_is)
    (case qbehindround => k_is)
    (case kbehindround => k_is)
    (case abehind => k_is)
    (case lbehind => k_is)
    (case qbehind => k_is)
    (case kbehind => k_is)
    (case wbehind_parts => k_is)
    (case wbehind_times => k_is)
    (case afate => k_is)
    (case lfate => k_is)
    (case qfate => k_is)
    (case kfate => k_is)
    (case wfate_parts => k_is)
    (case aLwell => k_is)
    (case lLwell => k_is)
    (case qLwell => k_is)
    (case kLwell => k_is)
    (case aLdraw => k_is)
    (case lLdraw => k_is)
    (case qLdraw => k_is)
    (case kLdraw => k_is)
    (case aLcaps => k_is)
    (case lLcaps => k_is)
    (case qLcaps => k_is)
    (case kLcaps => k_is)
    (case aLfacts => k_is)
    (case lLfacts => k_is)
    (case qLfacts => k_is)
    (case kLfacts => k_is)
    (case aLdeed => k_is)
    (case lLdeed => k_is)
    (case qLdeed => k_is)
    (case kLdeed => k_is)
    (case aLrow => k_is)
    (case lLrow => k_is)
    (case qLrow => k_is)
    (case kLrow => k_is)
    (case aLamounts => k_is)
    (case lLamounts => k_is)
    (case qLamounts => k_is)
    (case kLamounts => k_is)
    (case aLsaid => k_is)
    (case lLsaid => k_is)
    (case qLsaid => k_is)
    (case kLsaid => k_is)
    (case aLspoilt => k_is)
    (case lLspoilt => k_is)
    (case qLspoilt => k_is)
    (case kLspoilt => k_is)
    (case aLdue => k_is)
    (case lLdue => k_is)
    (case qLdue => k_is)
    (case kLdue => k_is)
    (case alaw => k_is)
    (case llaw => k_is)
    (case qlaw => k_is)
    (case klaw => k_is)
    (case pgJars => k_is)
    (case hdJars => k_is)
    (case poJars => k_is)
    (case saJars => k_is)
    (case mkJars => k_is)
    (case kcJars => k_is)
    (case nJars_sizes => k_is)
    (case pgPour => k_is)
    (case hdPour => k_is)
    (case poPour => k_is)
    (case saPour => k_is)
    (case mkPour => k_is)
    (case kcPour => k_is)
    (case nPour_a => k_is)
    (case nPour_b => k_is)
    (case pgPut => k_is)
    (case hdPut => k_is)
    (case poPut => k_is)
    (case saPut => k_is)
    (case mkPut => k_is)
    (case kcPut => k_is)
    (case nPut_a => k_is)
    (case nPut_k => k_is)
    (case pgDraw => k_is)
    (case hdDraw => k_is)
    (case poDraw => k_is)
    (case saDraw => k_is)
    (case mkDraw => k_is)
    (case kcDraw => k_is)
    (case nDraw_a => k_is)
    (case nDraw_k => k_is)
    (case pgChange => k_is)
    (case hdChange => k_is)
    (case poChange => k_is)
    (case saChange => k_is)
    (case mkChange => k_is)
    (case kcChange => k_is)
    (case nChange_a => k_is)
    (case nChange_b => k_is)
    (case pgRow => k_is)
    (case hdRow => k_is)
    (case poRow => k_is)
    (case saRow => k_is)
    (case mkRow => k_is)
    (case kcRow => k_is)
    (case nRow_jars => k_is)
    (case nRow_deeds => k_is)
    (case yaChange => k_is)
    (case ymChange => k_is)
    (case yaDraw => k_is)
    (case ymDraw => k_is)
    (case yaPour => k_is)
    (case ymPour => k_is)
    (case yaPut => k_is)
    (case ymPut => k_is)
    (case yn => k_is)
    (case yt => k_is)
    (case isPour_Put => (exact KpR.kit_cls (by k_is) (by k_is) (by k_is) (by decide)))
    (case isPour_Draw => (exact KpR.kit_cls (by k_is) (by k_is) (by k_is) (by decide)))
    (case isPour_Pour => exact KpR.kit_self (by simp))
    (case isPour_Change => (exact KpR.kit_cls (by k_is) (by k_is) (by k_is) (by decide)))
    (case isPut_Put => exact KpR.kit_self (by simp))
    (case isPut_Draw => (exact KpR.kit_cls (by k_is) (by k_is) (by k_is) (by decide)))
    (case isPut_Pour => (exact KpR.kit_cls (by k_is) (by k_is) (by k_is) (by decide)))
    (case isPut_Change => (exact KpR.kit_cls (by k_is) (by k_is) (by k_is) (by decide)))
    (case isDraw_Put => (exact KpR.kit_cls (by k_is) (by k_is) (by k_is) (by decide)))
    (case isDraw_Draw => exact KpR.kit_self (by simp))
    (case isDraw_Pour => (exact KpR.kit_cls (by k_is) (by k_is) (by k_is) (by decide)))
    (case isDraw_Change => (exact KpR.kit_cls (by k_is) (by k_is) (by k_is) (by decide)))
    (case isChange_Put => (exact KpR.kit_cls (by k_is) (by k_is) (by k_is) (by decide)))
    (case isChange_Draw => (exact KpR.kit_cls (by k_is) (by k_is) (by k_is) (by decide)))
    (case isChange_Pour => (exact KpR.kit_cls (by k_is) (by k_is) (by k_is) (by decide)))
    (case isChange_Change => exact KpR.kit_self (by simp))
    (case tyBadCount => k_is)
    (case oxBadCount => k_is)
    (case orBadCount => rfl)
    (case osBadCount => k_is)
    (case obBadCount => k_is)
    (case otBadCount => k_is)
    (case okBadCount => k_is)
    (case xgBadCount => k_is)
    (case xnBadCount => k_is)
    (case xdBadCount => k_is)
    (case nBadCount_what => k_is)
    (case nBadCount_count => k_is)
    (case euBadCount_BadCount => k_is)
    (case euBadCount_BadStart => k_is)
    (case tyBadStart => k_is)
    (case oxBadStart => k_is)
    (case orBadStart => rfl)
    (case osBadStart => k_is)
    (case obBadStart => k_is)
    (case otBadStart => k_is)
    (case okBadStart => k_is)
    (case xgBadStart => k_is)
    (case xnBadStart => k_is)
    (case xdBadStart => k_is)
    (case nBadStart_jar => k_is)
    (case euBadStart_BadCount => k_is)
    (case euBadStart_BadStart => k_is)
    (case yaBadStart => k_is)
    (case ymBadStart => k_is)
    (case xNoJar => k_is)
    (case ixBadStart_NoJar => (exact KpR.kit_cls (by k_is) (by k_is) (by k_is) (by decide)))
    (case gMOSTJARS => k_is)
    (case gMOSTDEEDS => k_is)
    (case gMOSTMUCH => k_is)
    (case gMOSTTIMES => k_is)
    (case gMOSTROUNDS => k_is)
    (case zabs => k_is)
    (case zenumerate => k_is)
    (case zint => k_is)
    (case zisinstance => k_is)
    (case zlen => k_is)
    (case zlist => k_is)
    (case zmax => k_is)
    (case zmin => k_is)
    (case zrange => k_is)
    (case ztuple => k_is)
    (case cdL => rfl)
    (case coL => k_is)
    (case vtL => rfl)
    (case ntL => kernel_rfl)
    (case chL => kernel_rfl)


