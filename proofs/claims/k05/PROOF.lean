import PyProof.Rows.All
import Wide.All
import OpenK.AllK
import Wide.FinOn
import HandS.ForMost
import HandS.Defaults
import HandS.MakeKwOnly
import HandS.IsInst
import HandS.Wide
import HandS.Style
import HandS.Zip
import HandS.Codes
import HandS.OwnEq
import HandS.TupAny
import HandS.More
import HandS.Exc
import HandS.TryMany
import HandS.ExcInit
import HandS.ExcField
import HandS.ExcIs
import HandS.ExcValue
import HandS.WordsExc
import PyProof.InstNe
import PyProof.NeKinds
import PySem.Challenge.RW_wholedrops_k05_refusals_made_by_hand
set_option Elab.async false
set_option linter.all false
set_option maxRecDepth 100000
set_option maxHeartbeats 4000000
namespace Kp
/-! ### an if whose test is a Bool -/
theorem ifT {c : Bool} {A B : Prop} (hc : c = true) (h : A) : if c = true then A else B := by
  rw [if_pos hc]
  exact h
theorem ifF {c : Bool} {A B : Prop} (hc : c = false) (h : B) : if c = true then A else B := by
  rw [hc, if_neg Bool.false_ne_true]
  exact h
theorem ifD {P A B : Prop} [Decidable P] (h1 : P → A) (h2 : ¬ P → B) : if decide P = true then A else B := by
  by_cases h : P
  · exact ifT (decide_eq_true h) (h1 h)
  · exact ifF (decide_eq_false h) (h2 h)
theorem ifN {P A B : Prop} [Decidable P] (h1 : P → B) (h2 : ¬ P → A) : if (!decide P) = true then A else B := by
  by_cases h : P
  · exact ifF (by rw [decide_eq_true h]; rfl) (h1 h)
  · exact ifT (by rw [decide_eq_false h]; rfl) (h2 h)
/-! ### lists of ints -/
def at0 (l : List Int) (i : Nat) : Int := l.getD i 0
theorem at0_get {l : List Int} {i : Nat} (h : i < l.length) : l[i]? = some (at0 l i) := by
  unfold at0
  rw [List.getD_eq_getElem?_getD, List.getElem?_eq_getElem h]
  rfl
theorem at0_of {l : List Int} {i : Nat} {v : Int} (h : l[i]? = some v) : at0 l i = v := by
  unfold at0
  rw [List.getD_eq_getElem?_getD, h]
  rfl
theorem at0_set {l : List Int} {i j : Nat} {v : Int} (h : i < l.length) : at0 (l.set i v) j = if i = j then v else at0 l j := by
  unfold at0
  rw [List.getD_eq_getElem?_getD, List.getD_eq_getElem?_getD, List.getElem?_set]
  by_cases e : i = j
  · subst e
    simp [h]
  · simp [e]
theorem at0_map {l : List Int} {f : Int → Int} {i : Nat} (h : i < l.length) : at0 (l.map f) i = f (at0 l i) := by
  have := at0_get h
  exact at0_of (by rw [List.getElem?_map, this]; rfl)
theorem ext0 {l m : List Int} (h : l.length = m.length) (e : ∀ i, i < l.length → at0 l i = at0 m i) : l = m := by
  apply List.ext_getElem? 
  intro i
  by_cases hi : i < l.length
  · rw [at0_get hi, at0_get (h ▸ hi), e i hi]
  · rw [List.getElem?_eq_none (by omega), List.getElem?_eq_none (by omega)]
/-! ### the deeds -/
inductive D where
  | pour (a b : Nat) | put (a : Nat) (k : Int) | draw (a : Nat) (k : Int) | change (a b : Nat)
  deriving DecidableEq
/-- what a deed must be for jars of these sizes -/
def D.ok (caps : List Int) : D → Prop
  | .pour a b => a < caps.length ∧ b < caps.length ∧ a ≠ b
  | .put a k => a < caps.length ∧ 1 ≤ k ∧ k ≤ 1000000000000
  | .draw a k => a < caps.length ∧ 1 ≤ k ∧ k ≤ 1000000000000
  | .change a b => a < caps.length ∧ b < caps.length ∧ a ≠ b ∧ at0 caps a = at0 caps b
/-- one deed, as behind_deed reckons it -/
def D.act (caps : List Int) (p : Int) (st : List Int) : D → List Int
  | .pour a b =>
    let m := if at0 caps b * p - at0 st b < at0 st a then at0 caps b * p - at0 st b else at0 st a
    (st.set a (at0 st a - m)).set b (at0 st b + m)
  | .put a k => st.set a (if at0 caps a * p < at0 st a + k * p then at0 caps a * p else at0 st a + k * p)
  | .draw a k => st.set a (if 0 > at0 st a - k * p then 0 else at0 st a - k * p)
  | .change a b => (st.set a (at0 st b)).set b (at0 st a)
def run (caps : List Int) (p : Int) (ds : List D) (st : List Int) : List Int := ds.foldl (D.act caps p) st
def runs (caps : List Int) (p : Int) (ds : List D) : Nat → List Int → List Int
  | 0, st => st
  | n + 1, st => run caps p ds (runs caps p ds n st)
/-- a start that can be -/
structure Stand (caps : List Int) (p : Int) (st : List Int) : Prop where
  len : st.length = caps.length
  lo : ∀ i, i < caps.length → 0 ≤ at0 st i
  hi : ∀ i, i < caps.length → at0 st i ≤ at0 caps i * p
structure Caps (caps : List Int) : Prop where
  l1 : 1 ≤ caps.length
  l6 : caps.length ≤ 6
  lo : ∀ i, i < caps.length → 1 ≤ at0 caps i
  hi : ∀ i, i < caps.length → at0 caps i ≤ 1000000000000
theorem act_len {caps st : List Int} {p : Int} {d : D} : (d.act caps p st).length = st.length := by
  cases d <;> simp [D.act]
theorem act_stand {caps st : List Int} {p : Int} {d : D} (hp : 1 ≤ p) (h : Stand caps p st) (hd : d.ok caps) : Stand caps p (d.act caps p st) := by
  have hl := h.len
  refine ⟨by rw [act_len, hl], ?_, ?_⟩
  all_goals
    intro i hi
    have z0 := h.lo i hi
    have z1 := h.hi i hi
    cases d with
    | pour a b =>
      obtain ⟨ha, hb, hab⟩ := hd
      have a0 := h.lo a ha
      have a1 := h.hi a ha
      have b0 := h.lo b hb
      have b1 := h.hi b hb
      simp only [D.act]
      rw [at0_set (by rw [List.length_set]; omega), at0_set (by omega)]
      by_cases e1 : b = i
      · subst e1
        rw [if_pos rfl]
        split <;> omega
      · rw [if_neg e1]
        by_cases e2 : a = i
        · subst e2
          rw [if_pos rfl]
          split <;> omega
        · rw [if_neg e2]
          omega
    | put a k =>
      obtain ⟨ha, hk, _⟩ := hd
      have a0 := h.lo a ha
      have a1 := h.hi a ha
      have kp : 0 ≤ k * p := Int.mul_nonneg (by omega) (by omega)
      simp only [D.act]
      rw [at0_set (by omega)]
      by_cases e1 : a = i
      · subst e1
        rw [if_pos rfl]
        split <;> omega
      · rw [if_neg e1]
        omega
    | draw a k =>
      obtain ⟨ha, hk, _⟩ := hd
      have a0 := h.lo a ha
      have a1 := h.hi a ha
      have kp : 0 ≤ k * p := Int.mul_nonneg (by omega) (by omega)
      simp only [D.act]
      rw [at0_set (by omega)]
      by_cases e1 : a = i
      · subst e1
        rw [if_pos rfl]
        split <;> omega
      · rw [if_neg e1]
        omega
    | change a b =>
      obtain ⟨ha, hb, hab, hs⟩ := hd
      have a0 := h.lo a ha
      have a1 := h.hi a ha
      have b0 := h.lo b hb
      have b1 := h.hi b hb
      simp only [D.act]
      rw [at0_set (by rw [List.length_set]; omega), at0_set (by omega)]
      by_cases e1 : b = i
      · subst e1
        rw [if_pos rfl]
        rw [hs] at a1
        omega
      · rw [if_neg e1]
        by_cases e2 : a = i
        · subst e2
          rw [if_pos rfl]
          rw [← hs] at b1
          omega
        · rw [if_neg e2]
          omega
theorem run_len {caps : List Int} {p : Int} : ∀ {ds : List D} {st : List Int}, (run caps p ds st).length = st.length
  | [], _ => rfl
  | d :: ds, st => (run_len (ds := ds) (st := d.act caps p st)).trans act_len
theorem run_stand {caps : List Int} {p : Int} (hp : 1 ≤ p) : ∀ {ds : List D} {st : List Int}, Stand caps p st → (∀ d ∈ ds, d.ok caps) → Stand caps p (run caps p ds st)
  | [], _, h, _ => h
  | d :: ds, st, h, hd => run_stand (ds := ds) hp (act_stand hp h (hd d (List.mem_cons_self ..))) fun e he => hd e (List.mem_cons_of_mem _ he)
theorem runs_stand {caps : List Int} {p : Int} (hp : 1 ≤ p) {ds : List D} (hd : ∀ d ∈ ds, d.ok caps) : ∀ {n : Nat} {st : List Int}, Stand caps p st → Stand caps p (runs caps p ds n st)
  | 0, _, h => h
  | n + 1, _, h => run_stand hp (runs_stand hp hd (n := n) h) hd
theorem run_app {caps : List Int} {p : Int} {ds es : List D} {st : List Int} : run caps p (ds ++ es) st = run caps p es (run caps p ds st) := List.foldl_append ..
theorem runs_add {caps : List Int} {p : Int} {ds : List D} : ∀ (m n : Nat) (st : List Int), runs caps p ds m (runs caps p ds n st) = runs caps p ds (n + m) st
  | 0, _, _ => rfl
  | m + 1, n, st => congrArg (run caps p ds) (runs_add m n st)
theorem runs_nil {caps : List Int} {p : Int} : ∀ (n : Nat) (st : List Int), runs caps p [] n st = st
  | 0, _ => rfl
  | n + 1, st => runs_nil n st
theorem run_snoc {caps : List Int} {p : Int} {ds : List D} {d : D} {i : Nat} {st : List Int} (h : ds[i]? = some d) : run caps p (ds.take (i + 1)) st = d.act caps p (run caps p (ds.take i) st) := by
  rw [List.take_add_one, h, run_app]
  rfl
end Kp

namespace Kp
theorem at0_app {l : List Int} {z : Int} {i : Nat} : at0 (l ++ [z]) i = if i < l.length then at0 l i else if i = l.length then z else 0 := by
  unfold at0
  rw [List.getD_eq_getElem?_getD, List.getD_eq_getElem?_getD]
  by_cases h : i < l.length
  · rw [if_pos h, List.getElem?_append_left h]
  · rw [if_neg h, List.getElem?_append_right (by omega)]
    by_cases e : i = l.length
    · subst e
      simp
    · rw [if_neg e, List.getElem?_eq_none (by simp; omega)]
      rfl
/-- sizes that are none too small, none too big -/
def Mid (caps : List Int) : Prop := ∀ c ∈ caps, 1 ≤ c ∧ c ≤ 1000000000000
theorem Mid.nil : Mid [] := fun c h => by cases h
theorem Mid.app {caps : List Int} {z : Int} (h : Mid caps) (h1 : 1 ≤ z) (h2 : z ≤ 1000000000000) : Mid (caps ++ [z]) := fun c hc => by
  rcases List.mem_append.mp hc with q | q
  · exact h c q
  · have : c = z := by simpa using q
    subst this
    exact ⟨h1, h2⟩
theorem at0_mem {l : List Int} {i : Nat} (h : i < l.length) : at0 l i ∈ l := List.mem_of_getElem? (at0_get h)
theorem Mid.set {caps : List Int} {i j : Nat} (h : Mid caps) (hj : j < caps.length) : Mid (caps.set i (at0 caps j)) := fun c hc => by
  rcases List.mem_or_eq_of_mem_set hc with q | q
  · exact h c q
  · rw [q]
    exact h _ (at0_mem hj)
theorem Mid.caps {caps : List Int} (h : Mid caps) (h1 : 1 ≤ caps.length) (h6 : caps.length ≤ 6) : Caps caps :=
  ⟨h1, h6, fun i hi => (h _ (at0_mem hi)).1, fun i hi => (h _ (at0_mem hi)).2⟩
/-- starts as far as they are made -/
structure Part (caps : List Int) (p : Int) (st : List Int) : Prop where
  lo : ∀ i, i < st.length → 0 ≤ at0 st i
  hi : ∀ i, i < st.length → at0 st i ≤ at0 caps i * p
theorem Part.nil {caps : List Int} {p : Int} : Part caps p [] := ⟨fun i h => absurd h (Nat.not_lt_zero _), fun i h => absurd h (Nat.not_lt_zero _)⟩
theorem Part.app {caps st : List Int} {p z : Int} (h : Part caps p st) (h0 : 0 ≤ z) (h1 : z ≤ at0 caps st.length * p) : Part caps p (st ++ [z]) := by
  refine ⟨fun i hi => ?_, fun i hi => ?_⟩
  all_goals
    rw [List.length_append] at hi
    rw [at0_app]
    by_cases q : i < st.length
    · rw [if_pos q]
      first | exact h.lo i q | exact h.hi i q
    · have e : i = st.length := by simp at hi; omega
      subst e
      rw [if_neg q, if_pos rfl]
      first | exact h0 | exact h1
theorem Part.stand {caps st : List Int} {p : Int} (h : Part caps p st) (hl : st.length = caps.length) : Stand caps p st :=
  ⟨hl, fun i hi => h.lo i (by omega), fun i hi => h.hi i (by omega)⟩
/-- the words of the deeds -/
inductive Wd where
  | pour | put | draw | change
  deriving DecidableEq
def sixW : List Wd := [.pour, .pour, .pour, .put, .draw, .change]
theorem unit_ok {n : Nat} (h : n < 6) : 1 ≤ at0 [1, 1, 1, 7, 1000000, 100000000000] n ∧ at0 [1, 1, 1, 7, 1000000, 100000000000] n ≤ 100000000000 := by
  have : ∀ n : Fin 6, 1 ≤ at0 [1, 1, 1, 7, 1000000, 100000000000] n.1 ∧ at0 [1, 1, 1, 7, 1000000, 100000000000] n.1 ≤ 100000000000 := by decide
  exact this ⟨n, h⟩
theorem pick4 {a b c d lo hi : Int} {n : Nat} (h : n < 4) (ha : lo ≤ a ∧ a ≤ hi) (hb : lo ≤ b ∧ b ≤ hi) (hc : lo ≤ c ∧ c ≤ hi) (hd : lo ≤ d ∧ d ≤ hi) : lo ≤ at0 [a, b, c, d] n ∧ at0 [a, b, c, d] n ≤ hi := by
  match n, h with
  | 0, _ => exact ha
  | 1, _ => exact hb
  | 2, _ => exact hc
  | 3, _ => exact hd
theorem pick5 {a b c d e lo hi : Int} {n : Nat} (h : n < 5) (ha : lo ≤ a ∧ a ≤ hi) (hb : lo ≤ b ∧ b ≤ hi) (hc : lo ≤ c ∧ c ≤ hi) (hd : lo ≤ d ∧ d ≤ hi) (he : lo ≤ e ∧ e ≤ hi) : lo ≤ at0 [a, b, c, d, e] n ∧ at0 [a, b, c, d, e] n ≤ hi := by
  match n, h with
  | 0, _ => exact ha
  | 1, _ => exact hb
  | 2, _ => exact hc
  | 3, _ => exact hd
  | 4, _ => exact he
end Kp

namespace KpR
open PySem PySem.Spec PyProof.Rows L2
open AutoSeq1 (wpAny_loadPart')
/-! ### xs + ys, each a list that can be read -/
theorem addMeets (l b : Addr) (xs ys : Array Value) (n m : Nat) (sl tl : Array (Option Value)) (hsz : xs.size + ys.size ≤ sizeLine) :
    Meets (Builtin.«list.__add__» ⟨[.ref l, .ref b], []⟩) (fun _ R s =>
      s.heap.get? l = some { cls := .type "list", dict := none, data := .seq xs n, slots := sl } ∧
      s.heap.get? b = some { cls := .type "list", dict := none, data := .seq ys m, slots := tl } ∧
      R (.ok (.ret (.ref s.heap.objs.size))) { s with heap := s.heap.push { cls := .type "list", data := .seq (xs ++ ys) } }) :=
  .of_wp fun prog w A R s h => by
    obtain ⟨hp, g, d, tk, os⟩ := s
    obtain ⟨e1, e2, h⟩ := h
    have z1 := AutoSeq1.idx_int
    have z2 := AutoSeq1.sub_tuple_tuple
    have z3 := AutoSeq1.sub_list_list
    have z4 := AutoSeq1.sub_tuple_list
    have z5 := AutoSeq1.sub_list_tuple
    wp_walk using wpAny_loadPart' e1, wpAny_loadPart' e2
    exact ⟨_, rfl, h⟩
theorem enumNewT (l : Addr) (its : Array Value) (n : Nat) (dct : Option Addr) (sl : Array (Option Value)) :
    Meets (Builtin.«enumerate.__new__» ⟨[.type "enumerate", .ref l], []⟩) (fun _ R s =>
      s.heap.get? l = some { cls := .type "tuple", dict := dct, data := .seq its n, slots := sl } ∧
      R (.ok (.ret (.ref (s.heap.push { cls := .type "tuple_iterator", data := .fields #[.ref l, .int 0 0] }).objs.size)))
        { s with heap := Heap.push (Heap.push s.heap { cls := .type "tuple_iterator", data := .fields #[.ref l, .int 0 0] }) { cls := .type "enumerate", data := .fields #[.none, .bool false, .ref s.heap.objs.size, rawInt 0, .none, .none] } }) :=
  .of_wp fun prog w A R s h => by
    obtain ⟨hp, g, d, tk, os⟩ := s
    obtain ⟨hl, h⟩ := h
    have hsub := sub_enumerate
    have hL : Heap.IsTuple (Shared.heap ⟨hp, g, d, tk, os⟩) l its := ⟨_, hl, rfl, n, rfl⟩
    wp_walk using wpAny_loadPart' hl
    refine wpAny_stack_any fun st => wpAny_pure ?_
    split
    · rename_i c _ _ _ _ _
      cases (c == Value.type "enumerate") <;>
        (wp_walk using wpAny_loadPart' hl, wpAny_pyIter_tuple hL
         exact ⟨_, rfl, h⟩)
    · wp_walk using wpAny_loadPart' hl, wpAny_pyIter_tuple hL
      exact ⟨_, rfl, h⟩
end KpR

namespace KpR
open PySem PySem.Spec PyProof.Rows L2
open AutoSeq1 (wpAny_loadPart')
def rCatR (K : PySem.W.Frag) : R2 := fun x y H Q => ∃ l b xs zs, x = .ref l ∧ y = .ref b ∧ SqL K H l xs ∧ SqL K H b zs ∧ xs.length + zs.length ≤ sizeLine ∧ ∀ q, H q = none → Q (.ref q) (upd H q (.lst (xs ++ zs)))
section
variable {X : Cx}
theorem op_catR : OpR X (binaryOp .Add) (rCatR X.K) := by
  intro pins s σ H x y v u Q I rx ry h
  obtain ⟨l, b, xs, zs, rfl, rfl, h1, h2, hz, q⟩ := h
  cases rx
  cases ry
  obtain ⟨its, r1, p1, _⟩ := I.list h1
  obtain ⟨jts, r2, p2, _⟩ := I.list h2
  obtain ⟨⟨c1, d1, t1, s1⟩, n1, g1, k1, k2, k3⟩ := p1
  obtain ⟨⟨c2, d2, t2, s2⟩, n2, g2, k4, k5, k6⟩ := p2
  cases k1; cases k2; cases k3; cases k4; cases k5; cases k6
  have e1 := r1.length
  have e2 := r2.length
  refine concat_meets ⟨_, g1, rfl⟩ ⟨_, g2, rfl⟩ noFill_list_add seq_list_add F.slot_list_add F.entry_list_add (F.args_list_add_2 _ _)
    (addMeets l b its.toArray jts.toArray n1 n2 s1 s2 (by rw [List.size_toArray, List.size_toArray]; omega)) ⟨g1, g2, ?_⟩
  have ea : its.toArray ++ jts.toArray = (its ++ jts).toArray := by simp
  rw [ea]
  exact ⟨.ref _, _, I.lnew (t' := s.toks) (r1.append r2) (by rw [List.length_append]; omega), rfl, q _ I.fresh⟩
end
/-! ### enumerate(tuple) -/
theorem drawsT {prog : Program} {w : World} {A : Around} (hh : A.handled = none) (it l : Addr) (hne : l ≠ it) (its : Array Value) :
    Draws prog w A it [it, l] its.size (fun i v => its[i]? = some v) (fun i h => h.IsTupleIter it l i ∧ h.IsTuple l its) where
  live := fun _ _ st => by
    obtain ⟨⟨o, ho, _⟩, _⟩ := st
    exact ⟨o, ho⟩
  frame := fun _ _ _ st kp => ⟨st.1.at fun o e => kp it (by simp) o e, st.2.at fun o e => kp l (by simp) o e⟩
  item := fun i s Q E hi st hQ => by
    refine RZ.nextOf_tuple_item st.1 st.2 (x := its[i]) (by simp [hi]) fun h1 hit1 hs1 => ?_
    exact hQ _ h1 s.toks (by simp [hi]) ⟨hit1, st.2.extBut hs1.extBut hne⟩ hs1
  done := fun s Q E st hE => RZ.nextOf_tuple_end hh st.1 st.2 (by simp) hE
section
variable {prog : Program} {w : World} {A : Around} {E : Value → Shared → Prop} {s : Shared}
theorem callEnumT {l : Addr} {its : Array Value} {Q : Value → Shared → Prop} (hL : s.heap.IsTuple l its)
    (h : ∀ h', IsEnum h' (s.heap.objs.size + 1) s.heap.objs.size 0 .none → h'.IsTupleIter s.heap.objs.size l 0 → h'.IsTuple l its →
      (∀ b o, s.heap.get? b = some o → h'.get? b = some o) → Q (.ref (s.heap.objs.size + 1)) { s with heap := h' }) :
    wpAny (model prog w) A (call (.type "enumerate") [.ref l]) Q E s := by
  obtain ⟨⟨c, dct, dt, sl⟩, hl, hc, n, hd⟩ := id hL
  cases hc
  cases hd
  refine callType_new F.called_enumerate (by decide) (F.typeCall_enumerate_1 _) (F.newCall_enumerate_1 _) (fun obj => F.args_object_init_2 obj _) F.entry_enumerate_new
    (enumNewT l its n dct sl) ⟨hl, ?_⟩
  have hz : (s.heap.push { cls := .type "tuple_iterator", data := .fields #[.ref l, .int 0 0] }).objs.size = s.heap.objs.size + 1 := Heap.size_push ..
  show _ ∧ _
  rw [hz]
  have he : IsEnum ((s.heap.push { cls := .type "tuple_iterator", data := .fields #[.ref l, .int 0 0] }).push
      { cls := .type "enumerate", data := .fields #[.none, .bool false, .ref s.heap.objs.size, rawInt 0, .none, .none] }) (s.heap.objs.size + 1) s.heap.objs.size 0 .none := by
    have q := Heap.get?_push_size (s.heap.push { cls := .type "tuple_iterator", data := .fields #[.ref l, .int 0 0] })
      (o := { cls := .type "enumerate", data := .fields #[.none, .bool false, .ref s.heap.objs.size, rawInt 0, .none, .none] }) rfl
    rw [hz] at q
    exact q
  exact ⟨⟨_, he, rfl⟩, h _ he ⟨_, Heap.get?_push_of_some _ (Heap.get?_push_size _ (by rfl)), by rfl, by rfl⟩ ((hL.push _).push _) fun b o x => Heap.get?_push_of_some _ (Heap.get?_push_of_some _ x)⟩
end
/-- the tuple at a: each item in a new pair -/
def IteT (K : PySem.W.Frag) (a : Addr) : It where
  go := fun i H => ∃ (xs : List V) (x : V), SqT K H a xs ∧ xs[i]? = some x
  yld := fun i H v H' => ∃ T x, v = .ref T ∧ H T = none ∧ H' = upd H T (.tup [.int (i : Nat), x]) ∧ ∀ xs, SqT K H a xs → xs[i]? = some x
  stop := fun i H => ∃ xs : List V, SqT K H a xs ∧ xs.length = i
theorem turnEnumT {P : Program} {w : World} {K : PySem.W.Frag} {elts : List Expr} {kk : Nat} {tpos : Pos} (a e it : Addr) :
    Turn P w K (.Tuple elts kk tpos) (IteT K a) [e, it] e (fun i h => (∃ old, IsEnum h e it ((i : Nat) : Int) old) ∧ h.IsTupleIter it a i ∧ e ≠ it ∧ a ≠ it ∧ e ≠ a) where
  mem := by simp
  obj := fun i h st b hb => by
    obtain ⟨⟨old, he⟩, ⟨o, ho, hc, hd⟩, _⟩ := st
    rcases (show b = e ∨ b = it by simpa using hb) with z | z
    · subst z
      exact ⟨_, he, fun v q => nomatch q⟩
    · subst z
      exact ⟨o, ho, fun v q => by rw [hd] at q; cases q⟩
  keep := fun i h h' st k => by
    obtain ⟨⟨old, he⟩, hi, r⟩ := st
    exact ⟨⟨old, k e (by simp) _ he⟩, hi.at fun o q => k it (by simp) o q, r⟩
  item := by
    intro X hP hw hK hc i pins s σ H E I hf st hg
    subst hP hw hK
    obtain ⟨⟨old, he⟩, hit, hne, hai, hea⟩ := st
    obtain ⟨xs, x, hq, hx⟩ := hg
    obtain ⟨its, rv, p, hz⟩ := I.tuple hq
    obtain ⟨u, hu, ru⟩ := rv.get hx
    have el : e < s.heap.objs.size := Heap.lt_size he
    have il : it < s.heap.objs.size := by
      obtain ⟨_, q, _⟩ := hit
      exact Heap.lt_size q
    have hlt : i < its.toArray.size := by
      have := (List.getElem?_eq_some_iff.mp hu).1
      simpa using this
    refine wpAny_pyNext_enum_itemD (drawsT (A := X.A.in1) (I.ok.hd hc) it a hai its.toArray) he ⟨hit, p⟩ hlt hne (by simp; exact ⟨hne, hea⟩) fun y h' tk hy ho st' hT hsz hk => ?_
    obtain rfl : y = u := by
      have q : its.toArray[i]? = some u := by simpa using hu
      rw [q] at hy
      exact (Option.some.inj hy).symm
    refine ⟨_, rfl, wpAny_letOwnedTupleGo_enum (s := { s with heap := h', toks := tk + 1 }) ho fun h2 he2 sb => ?_⟩
    have hT2 : h2.get? s.heap.objs.size = some { cls := .type "tuple", data := .seq #[.int i tk, y] } := (sb.2 _ (Nat.ne_of_gt el)).trans hT
    have new : ObjOk X.prog X.w (upd H s.heap.objs.size (.tup [.int (i : Nat), x])) h2 s.heap.objs.size (.tup [.int (i : Nat), x]) :=
      ⟨by show 2 ≤ sizeLine; decide, [.int i tk, y], .cons ⟨_, rfl⟩ (.cons ru .nil), ⟨_, hT2, rfl, _, rfl⟩⟩
    have I1 : Inv X pins σ (upd H s.heap.objs.size (.tup [.int (i : Nat), x])) { s with heap := h2, toks := tk + 1 } :=
      I.turnedNew (ch := [e, it]) (fun b ob hb q => (sb.2 b (fun z => hb (by simp [z]))).trans (hk b ob (fun z => hb (by simp [z])) (fun z => hb (by simp [z])) q)) hf (Nat.le_refl _) new
    refine ⟨.ref s.heap.objs.size, _, I1, rfl, ⟨_, x, rfl, I.hok.fresh (Nat.le_refl _), rfl, fun ys hy2 => by rw [I.tuple_inj hy2 hq]; exact hx⟩, ⟨⟨y, ?_⟩, st'.1.at fun o q => (sb.2 it (Ne.symm hne)).trans q, hne, hai, hea⟩, fun b hb => ?_⟩
    · have e1 : ((i + 1 : Nat) : Int) = (i : Int) + 1 := by omega
      rw [e1]
      exact he2
    · have hb2 : b < s.heap.objs.size := by
        rcases (show b = e ∨ b = it by simpa using hb) with z | z
        · rw [z]; exact el
        · rw [z]; exact il
      rw [upd_ne (Nat.ne_of_lt hb2)]
      exact (hf b hb).1
  done := by
    intro X hP hw hK hc i pins s σ H E I hf st hg
    subst hP hw hK
    obtain ⟨⟨old, he⟩, hit, hne, hai, hea⟩ := st
    obtain ⟨xs, hq, hx⟩ := hg
    obtain ⟨its, rv, p, hz⟩ := I.tuple hq
    obtain ⟨f0, f1, f2, f3, f4, f5⟩ := hf it (by simp)
    have hl := rv.length
    have hiEq : i = its.toArray.size := by
      rw [List.size_toArray]
      omega
    subst hiEq
    exact wpAny_pyNext_enum_endD (drawsT (A := X.A.in1) (I.ok.hd hc) it a hai its.toArray) he ⟨hit, p⟩ fun h' eb => ⟨rfl, I.turned (t' := s.toks) (fun b o hb q => eb b o hb q) f0 f1 f3 f4 f5⟩
  self := fun A i s Q E st h => by
    obtain ⟨⟨_, he⟩, _⟩ := st
    exact wpAny_pyIter_enum he h
def iEnumT (K : PySem.W.Frag) (ta : TA) : TI := fun σ H R => ta σ H fun vs H1 => ∃ a xs, vs = [.ref a] ∧ SqT K H1 a xs ∧ R (IteT K a) H1
theorem pi_enumT {X : Cx} {e : Expr} {ta : TA} {p pos tpos : Pos} {elts : List Expr} {kk : Nat} (hg : Gl X "enumerate") (hm : X.mg "enumerate" = none) (ha : PA X [e] ta) (hs : starEach [e] X.env = [(false, eval e X.env)] := by rfl) :
    PI X (.Tuple elts kk tpos) (.Call (.Name "enumerate" p) [e] [] pos) (iEnumT X.K ta) := by
  refine ⟨fun pins s σ H R I h => ?_⟩
  refine Call_ (ld_blt I hg hm boot_enumerate (PyProof.Rows.callWith_type1 (thn (ha.run pos pins s σ H _ I h) fun us s1 ⟨vs, H1, I1, r1, a, xs, ex, hq, q⟩ => ?_) hs rfl))
  subst ex
  cases r1 with
  | cons r rr =>
    cases rr
    cases r
    obtain ⟨its, rv, p1, hz⟩ := I1.tuple hq
    refine callEnumT p1 fun h1 he hit hT hk => wpAny_pyIter_enum he ?_
    have al : a < s1.heap.objs.size := by
      obtain ⟨o, ho, _⟩ := p1
      exact Heap.lt_size ho
    have I2 : Inv X pins σ H1 { s1 with heap := h1 } := I1.kept (t' := s1.toks) hk
    refine ⟨s1.heap.objs.size + 1, [s1.heap.objs.size + 1, s1.heap.objs.size], _, _, H1, rfl, I2, turnEnumT a (s1.heap.objs.size + 1) s1.heap.objs.size, ⟨⟨.none, he⟩, hit, Nat.succ_ne_self _, Nat.ne_of_lt al, Nat.ne_of_gt (Nat.lt_succ_of_lt al)⟩, fun b hb => ?_, q⟩
    have le : s1.heap.objs.size ≤ b := by
      rcases (show b = s1.heap.objs.size + 1 ∨ b = s1.heap.objs.size by simpa using hb) with z | z
      · rw [z]
        exact Nat.le_succ _
      · rw [z]
        exact Nat.le_refl _
    exact I1.fpOk le (I1.hok.fresh le)
/-- the loop's bookkeeping: the pair is a new tuple at T -/
theorem for_enumT {K : PySem.W.Frag} {a : Addr} {xs : List V} {g : TG} {tb : TS} {D : Ends} {σ : L2.St} {H : Hp} (Pv : Nat → L2.St → Hp → Prop) (h0 : Pv 0 σ H) (hl : ∀ i σ H, i ≤ xs.length → Pv i σ H → SqT K H a xs)
    (hs : ∀ i x T σ H, xs[i]? = some x → Pv i σ H → H T = none → g (.ref T) σ (upd H T (.tup [.int (i : Nat), x])) fun σ2 H2 => tb { D with nx := Pv (i + 1), ct := Pv (i + 1), bk := D.nx } σ2 H2) (hd : ∀ σ H, Pv xs.length σ H → D.nx σ H) :
    ∃ W : Nat → Nat → L2.St → Hp → Prop, (∃ m, W 0 m σ H) ∧ ∀ i m σ H, W i m σ H →
      ((IteT K a).stop i H ∧ D.nx σ H) ∨ ((IteT K a).go i H ∧ ∃ N : L2.St → Hp → Prop, (∀ σ' H', N σ' H' → ∃ m', m' < m ∧ W (i + 1) m' σ' H') ∧ ∀ x H', (IteT K a).yld i H x H' → g x σ H' fun σ2 H2 => tb { D with nx := N, ct := N, bk := D.nx } σ2 H2) := by
  refine ⟨fun i m σ H => m = xs.length - i ∧ i ≤ xs.length ∧ Pv i σ H, ⟨xs.length, by simp, Nat.zero_le _, h0⟩, ?_⟩
  rintro i m σ1 H1 ⟨rfl, hi, p⟩
  by_cases e : i = xs.length
  · subst e
    exact .inl ⟨⟨xs, hl _ _ _ hi p, rfl⟩, hd _ _ p⟩
  · have lt : i < xs.length := by omega
    have ge : xs[i]? = some xs[i] := List.getElem?_eq_getElem lt
    refine .inr ⟨⟨xs, xs[i], hl _ _ _ hi p, ge⟩, Pv (i + 1), fun σ2 H2 q => ⟨xs.length - (i + 1), by omega, rfl, by omega, q⟩, ?_⟩
    rintro x H2 ⟨T, y, rfl, hT, rfl, hy⟩
    have q := hy xs (hl _ _ _ hi p)
    exact hs i y T σ1 H1 q p hT
/-! ### f(k = v, ..): keywords alone -/
theorem pe_callN0 {X : Cx} {CX : CXT} {k : Nat} {f : Addr} {fd : FuncData} {ps ks : List Str} {sp : Sp} {E : XK} {x : Str} {p pos : Pos} {kws : List Keyword} {tk : TA} {g : List Value → List Value → List Value} {gV : List V → List V → List V}
    (F : FnOk X.prog X.w X.K X.mg X.base CX k f fd ps sp) (hr : Room k X.A) (hg : Gl X x) (hm : X.mg x = some (.ref f)) (hk : PySem.W.keepIn X.K (.ref f) = true) (hb : KBn X.K fd ps 0 ks g gV) (hx : Passes CX X E) (hkw : PK X kws tk)
    (hall : (backToKw pos (keywordEach kws X.env)).all (·.1.isSome) = true := by rfl) (hks : (backToKw pos (keywordEach kws X.env)).filterMap (·.1) = ks := by rfl) (hdb : (x == ("__debug__" : Str)) = false := by decide)
    (hpl : ((backTo pos (starEach [] X.env)).any (·.1) || (backToKw pos (keywordEach kws X.env)).any (·.1.isNone)) = false := by rfl) :
    PE X (.Call (.Name x p) [] kws pos) (tCallN 0 ks.length sp gV E tNil tk) := by
  refine ⟨fun pins s σ H Q I h => ?_⟩
  refine wpAny_Call_Name_kw (ld_glob I hg hm ?_ hdb)
  refine PySem.W.callWith_KW0 (h₀ := X.base) I.ok.mod.kin hk hall (thn (hkw.run pos pins s σ H _ I h) fun ws s2 ⟨zs, H2, I2, rz, l1, l2, q2⟩ => ⟨I2.kIn, ?_⟩) hpl
  rw [hks]
  exact run_fnN (us := []) (vs := []) F hr hb hx I2 .nil rz rfl l2 q2
/-! ### isinstance's answers -/
theorem kit_self {K : PySem.W.Frag} {t : Value} (h : (t == t) = true) : PySem.W.kitOne K t t = some true := by
  unfold PySem.W.kitOne
  rw [if_pos h]
theorem kit_cls {K : PySem.W.Frag} {A C : Addr} {b : Bool} (h1 : PySem.W.isClsIn K C = true) (h2 : PySem.W.typeIn K (.ref C) = some (.type "type")) (h3 : PySem.W.subIn K (.ref A) (.ref C) = some b) (ne : (Value.ref A == Value.ref C) = false) :
    PySem.W.kitOne K (.ref A) (.ref C) = some b := by
  unfold PySem.W.kitOne
  rw [if_neg (by rw [ne]; exact Bool.false_ne_true)]
  show (if ((PySem.W.clsIn K C).isSome && PySem.W.typeIn K (.ref C) == some (.type "type")) = true then PySem.W.subIn K (.ref A) (.ref C) else none) = some b
  have h1' : (PySem.W.clsIn K C).isSome = true := h1
  rw [h1', h2, if_pos (by rfl)]
  exact h3
/-! ### lists of things that stand in the heap -/
def A2 {α : Type} (R : V → α → Prop) : List V → List α → Prop
  | [], [] => True
  | v :: vs, d :: ds => R v d ∧ A2 R vs ds
  | _, _ => False
section
variable {α : Type} {R S : V → α → Prop}
theorem A2.len : ∀ {vs : List V} {ds : List α}, A2 R vs ds → vs.length = ds.length
  | [], [], _ => rfl
  | _ :: _, _ :: _, h => congrArg (· + 1) (A2.len h.2)
  | [], _ :: _, h => h.elim
  | _ :: _, [], h => h.elim
theorem A2.mono (f : ∀ v d, R v d → S v d) : ∀ {vs : List V} {ds : List α}, A2 R vs ds → A2 S vs ds
  | [], [], _ => trivial
  | _ :: _, _ :: _, h => ⟨f _ _ h.1, A2.mono f h.2⟩
  | [], _ :: _, h => h.elim
  | _ :: _, [], h => h.elim
theorem A2.get : ∀ {vs : List V} {ds : List α} {i : Nat} {v : V}, A2 R vs ds → vs[i]? = some v → ∃ d, ds[i]? = some d ∧ R v d
  | [], [], i, v, _, e => by simp at e
  | w :: _, d :: _, 0, v, h, e => by
    have : w = v := by simpa using e
    exact ⟨d, rfl, this ▸ h.1⟩
  | _ :: _, _ :: _, i + 1, v, h, e => by
    obtain ⟨d, e1, r⟩ := A2.get (i := i) h.2 (by simpa using e)
    exact ⟨d, by simpa using e1, r⟩
  | [], _ :: _, _, _, h, _ => h.elim
  | _ :: _, [], _, _, h, _ => h.elim
theorem A2.app : ∀ {vs ws : List V} {ds es : List α}, A2 R vs ds → A2 R ws es → A2 R (vs ++ ws) (ds ++ es)
  | [], _, [], _, _, k => k
  | _ :: _, _, _ :: _, _, h, k => ⟨h.1, A2.app h.2 k⟩
  | [], _, _ :: _, _, h, _ => h.elim
  | _ :: _, _, [], _, h, _ => h.elim
theorem A2.take : ∀ {vs : List V} {ds : List α} (n : Nat), A2 R vs ds → A2 R (vs.take n) (ds.take n)
  | vs, ds, 0, _ => by simp [A2]
  | [], [], n + 1, _ => trivial
  | _ :: _, _ :: _, n + 1, h => ⟨h.1, A2.take n h.2⟩
  | [], _ :: _, _ + 1, h => h.elim
  | _ :: _, [], _ + 1, h => h.elim
theorem A2.drop : ∀ {vs : List V} {ds : List α} (n : Nat), A2 R vs ds → A2 R (vs.drop n) (ds.drop n)
  | vs, ds, 0, h => by simpa using h
  | [], [], n + 1, _ => trivial
  | _ :: _, _ :: _, n + 1, h => A2.drop n h.2
  | [], _ :: _, _ + 1, h => h.elim
  | _ :: _, [], _ + 1, h => h.elim
end
/-! ### heaps -/
/-- all that was tracked, but what stands at w, is as it was -/
def Fr (w : Addr) (H H' : Hp) : Prop := ∀ b o, b ≠ w → H b = some o → H' b = some o
theorem Fr.refl (w : Addr) (H : Hp) : Fr w H H := fun _ _ _ h => h
theorem Fr.trans {w : Addr} {H H1 H2 : Hp} (a : Fr w H H1) (b : Fr w H1 H2) : Fr w H H2 := fun c o n h => b c o n (a c o n h)
theorem Fr.of {w : Addr} {H H1 : Hp} (a : Same H H1) : Fr w H H1 := fun b o _ h => a b o h
theorem Fr.sqL {K : PySem.W.Frag} {w : Addr} {H H' : Hp} {a : Addr} {xs : List V} (e : Fr w H H') (n : a ≠ w) (h : SqL K H a xs) : SqL K H' a xs := by
  rcases h with h | h
  · refine Or.inl ?_
    rcases h with h | ⟨o, h⟩
    · exact Or.inl (e a _ n h)
    · exact Or.inr ⟨o, e a _ n h⟩
  · exact Or.inr h
theorem Fr.sqT {K : PySem.W.Frag} {w : Addr} {H H' : Hp} {a : Addr} {xs : List V} (e : Fr w H H') (n : a ≠ w) (h : SqT K H a xs) : SqT K H' a xs := by
  rcases h with h | h
  · refine Or.inl ?_
    rcases h with h | ⟨o, h⟩
    · exact Or.inl (e a _ n h)
    · exact Or.inr ⟨o, e a _ n h⟩
  · exact Or.inr h
theorem sameT {K : PySem.W.Frag} {H H' : Hp} {a : Addr} {xs : List V} (e : Same H H') (h : SqT K H a xs) : SqT K H' a xs := by
  rcases h with h | h
  · refine Or.inl ?_
    rcases h with h | ⟨o, h⟩
    · exact Or.inl (e a _ h)
    · exact Or.inr ⟨o, e a _ h⟩
  · exact Or.inr h
theorem same_new {H : Hp} {p : Addr} {o : HO} (h : H p = none) : Same H (upd H p o) := fun b u e => by
  rw [upd_ne (ne_of_none e h)]
  exact e
theorem same_mut {H H' : Hp} {p : Addr} {o : HO} (e : Same H H') (h : H p = none) : Same H (upd H' p o) := fun b u ha => by
  rw [upd_ne (ne_of_none ha h)]
  exact e b u ha
theorem fr_mut {w : Addr} {H H' : Hp} {o : HO} (e : Fr w H H') : Fr w H (upd H' w o) := fun b u n h => by
  rw [upd_ne n]
  exact e b u n h
theorem fr_new {w : Addr} {H H' : Hp} {p : Addr} {o : HO} (e : Fr w H H') (h : H p = none) : Fr w H (upd H' p o) := fun b u n ha => by
  rw [upd_ne (ne_of_none ha h)]
  exact e b u n ha
theorem fr_free {w : Addr} {H H' : Hp} {p : Addr} (e : Fr w H H') (n : p ≠ w) (h : H' p = none) : H p = none := by
  cases z : H p with
  | none => rfl
  | some o =>
    rw [e p o n z] at h
    cases h
/-- ints as values -/
abbrev vi (l : List Int) : List V := l.map V.int
theorem vi_get {l : List Int} {i : Nat} {y : V} (h : (vi l)[i]? = some y) : ∃ z, l[i]? = some z ∧ y = .int z := by
  rw [List.getElem?_map] at h
  cases e : l[i]? with
  | none =>
    rw [e] at h
    cases h
  | some z =>
    rw [e] at h
    exact ⟨z, rfl, (Option.some.inj h).symm⟩
theorem vi_at {l : List Int} {i : Nat} (h : i < l.length) : atI (vi l) (i : Int) = some (.int (l.getD i 0)) := by
  refine atI_nat ?_
  rw [List.getElem?_map, List.getElem?_eq_getElem h, List.getD_eq_getElem?_getD, List.getElem?_eq_getElem h]
  rfl
end KpR

namespace KpR
open PySem PySem.Spec PyProof.Rows L2
def strB (es : Array DictEntry) : Bool := es.toList.all fun e => match e.key with
  | .str _ _ => true
  | _ => false
theorem strB_keys {es : Array DictEntry} (h : strB es = true) : StrKeys es := fun e he => by
  have q := List.all_eq_true.mp h e (by simpa using he)
  cases k : e.key <;> rw [k] at q <;> first | exact ⟨_, _, rfl⟩ | cases q
theorem ns_at {K : PySem.W.Frag} {h : Heap} {N : Addr} {c : Value} {d : Option Addr} {es : Array DictEntry} {m : Nat} {sl : Array (Option Value)} (X : K.In h) (l : K.lookup N = some ⟨c, d, .dict es m, sl⟩) (ok : strB es = true) :
    h.Ns N fun x => nsFind es x := ⟨_, es, m, X _ _ l, rfl, strB_keys ok, fun _ => rfl⟩
theorem find_some {K : PySem.W.Frag} {N : Addr} {c : Value} {d : Option Addr} {es : Array DictEntry} {m : Nat} {sl : Array (Option Value)} {x : Str} {v : Value} (l : K.lookup N = some ⟨c, d, .dict es m, sl⟩)
    (e : PySem.W.nsIn K N x = some (some v)) : nsFind es x = some v := by
  unfold PySem.W.nsIn at e
  rw [l] at e
  dsimp only at e
  unfold nsFind findBy
  rw [← Array.find?_toList]
  cases q : es.toList.find? (fun en => en.key.isStr x) with
  | none =>
    rw [q] at e
    dsimp only at e
    split at e <;> cases e
  | some en =>
    rw [q] at e
    cases e
    rfl
theorem find_none {K : PySem.W.Frag} {N : Addr} {c : Value} {d : Option Addr} {es : Array DictEntry} {m : Nat} {sl : Array (Option Value)} {x : Str} (l : K.lookup N = some ⟨c, d, .dict es m, sl⟩)
    (e : PySem.W.nsIn K N x = some none) : nsFind es x = none := by
  unfold PySem.W.nsIn at e
  rw [l] at e
  dsimp only at e
  unfold nsFind findBy
  rw [← Array.find?_toList]
  cases q : es.toList.find? (fun en => en.key.isStr x) with
  | none => rfl
  | some en =>
    rw [q] at e
    cases e
/-- what the written part says of such a class -/
structure NeCls (K : PySem.W.Frag) (C f : Addr) : Prop where
  ob : ∃ (nm q : Str) (N : Addr) (bs : List Value) (hd : Bool) (sn : List Str) (sub : List Value) (ab : Bool) (col : Option Bool) (dd : Option Addr) (k0 k1 k2 k3 k5 : Option Value) (nid : String),
    K.lookup C = some (excClassObj nm q C N bs [.type "object"] hd sn sub ab col dd k0 k1 k2 k3 k5 nid) ∧
    ∃ (c : Value) (d : Option Addr) (es : Array DictEntry) (m : Nat) (sl : Array (Option Value)), K.lookup N = some ⟨c, d, .dict es m, sl⟩ ∧ strB es = true ∧ PySem.W.nsIn K N "__eq__" = some (some (.ref f)) ∧ PySem.W.nsIn K N "__ne__" = some none
  fn : ∃ of : Obj, K.lookup f = some of ∧ of.cls = .type "function"
def rNeG (D : Eqv) : R2 := fun x y H Q => D x y H ∧ ∀ H', Ext H H' → Q (.bl false) H'
section
variable {X : Cx} {CX : CXT} {n : Nat} {C f : Addr} {fd : FuncData} {ps : List Str} {R : Addr → Addr → Hp → Prop} {E : XK}
theorem op_neOwn (G : FnOk X.prog X.w X.K X.mg X.base CX n f fd ps (spEq R)) (hc : NeCls X.K C f) (hb : Binds X.K fd ps []) (hx : Passes CX X E) (hr : Room (n + 1) X.A) :
    OpR X (compareOp .NotEq) (rNeG (DIns C R)) := by
  intro pins s σ H x y v u Q I rx ry hq
  obtain ⟨⟨a, b, dx, dy, fs, gs, rfl, rfl, ha, hb1, hR⟩, q⟩ := hq
  cases rx
  cases ry
  obtain ⟨mA, J, _⟩ := ins_get I.hok ha
  obtain ⟨mB, J1, _⟩ := ins_get I.hok hb1
  obtain ⟨od, J, _⟩ := J.look
  obtain ⟨od1, J1, _⟩ := J1.look
  obtain ⟨nm, qn, N, bs, hd, sn, sub, ab, col, dd, k0, k1, k2, k3, k5, nid, lC, c1, d1, es, m, sl, lN, sb, lE, lNe⟩ := hc.ob
  obtain ⟨of, lf, cf⟩ := hc.fn
  have KI := I.kIn
  obtain ⟨mN, hn, e1, e2⟩ : ∃ mN : Str → Option Value, s.heap.Ns N mN ∧ mN "__eq__" = some (.ref f) ∧ mN "__ne__" = none := ⟨_, ns_at KI lN sb, find_some lN lE, find_none lN lNe⟩
  have XX : s.heap.OwnEqNoNe a C f "object" [.type "object"] :=
    ⟨_, of, nm, qn, N, bs, hd, sn, sub, ab, col, dd, k0, k1, k2, k3, k5, nid, mN, _, J.at_, J.cls, KI _ _ lC, hn, e1, KI _ _ lf, cf, rfl, rfl, e2⟩
  have e0 := I.env0
  have sp1 : spEq R [.ref a, .ref b] H (fun v H' => v = .bl true ∧ Ext H H') E := ⟨a, b, rfl, hR, fun H' e => ⟨rfl, e⟩⟩
  have ln := G.len _ _ _ _ sp1
  have vals : Vals [V.ref a, V.ref b] [Value.ref a, Value.ref b] := .cons rfl (.cons rfl .nil)
  have hr1 : Room n X.A.in1 := hr.in1
  have f0 : Env0 X.prog X.w X.K X.mg X.base X.A.in1 X.stack s H := ⟨e0.frames, e0.mod, e0.bs, e0.bsz, e0.funs, e0.frf, e0.hok, e0.bare⟩
  have bd := hb s [.ref a, .ref b] KI (by simpa using ln)
  obtain ⟨hp, g, dr, tk, os⟩ := s
  refine compareOp_ne_ownEq F.cmp_object XX J1.at_ J1.cls (hu_of hr) ?_
  refine wpAny_call (codeAny_mono (G.run X.A.in1 X.stack _ H ⟨[.ref a, .ref b], []⟩ [.ref a, .ref b] [.ref a, .ref b] _ E hr1 f0 (by simpa using bd) vals sp1) fun r s1 hq1 => ?_)
  cases r with
  | error e => exact hx pins σ H _ e s1 I hq1
  | ok fl =>
    cases fl with
    | ret w1 =>
      obtain ⟨z, H1, I1, rz, ez, ex⟩ := I.after hq1
      subst ez
      cases rz
      exact ⟨true, rfl, .bl false, H1, I1, rfl, q H1 ex⟩
    | next => exact False.elim hq1
    | brk => exact False.elim hq1
    | cont => exact False.elim hq1
end
end KpR

namespace KpR
open PySem PySem.Spec PyProof.Rows L2
section
variable {prog : Program} {w : World} {A : Around} {E : Value → Shared → Prop} {s : Shared} {K : PySem.W.Frag} {x C f : Addr} {ox : Obj} {od : Option Obj}
theorem dec_tup {l : Addr} {its : Array Value} {n : Nat} {dd : Option Addr} {sl : Array (Option Value)} {Q : Value → Shared → Prop} (hl : s.heap.get? l = some { cls := .type "tuple", dict := dd, data := .seq its n, slots := sl })
    (hx : s.heap.get? x = some ox) (hc : ox.cls = .ref C) (hs : PySem.W.Looks (model prog w) s.heap (isSubtype (.ref C) (.type "tuple")) false) (q : Q .notImplemented s) :
    wpAny (model prog w) A (call (.builtin "tuple.__eq__") [.ref l, .ref x]) Q E s := by
  refine GQ.call_here F.slot_tuple_eq ⟨_, hl, rfl⟩ F.entry_tuple_eq (F.args_tuple_eq_2 _ _) ?_
  obtain ⟨hp, g, d, tk, os⟩ := s
  wp_walk using PySem.AutoSeq1.wpAny_loadPart' hx
  rw [hc]
  refine hs.at ?_
  wp_walk
  exact q
theorem dec_int {i : Int} {t : Tok} {Q : Value → Shared → Prop}
    (hx : s.heap.get? x = some ox) (hd : ∀ p, ox.data ≠ .prim p) (q : Q .notImplemented s) :
    wpAny (model prog w) A (call (.builtin "int.__eq__") [.int i t, .ref x]) Q E s := by
  refine GQ.call_here F.slot_int_eq (typeIs_int s i t) F.entry_int_eq (F.args_int_eq_2 _ _) ?_
  obtain ⟨hp, g, d, tk, os⟩ := s
  wp_walk using PySem.AutoSeq1.wpAny_loadPart' hx, wpAny_load hx
  split
  · rename_i i' t' e
    exact absurd e (hd _)
  · wp_walk
    exact q
theorem dec_non {Q : Value → Shared → Prop} (q : Q .notImplemented s) :
    wpAny (model prog w) A (call (.builtin "NoneType.__eq__") [.none, .ref x]) Q E s :=
  call_gives F.slot_NoneType_eq rfl F.entry_NoneType_eq (F.args_NoneType_eq_2 _ _) (SeqAt.NoneType___eq___none_ref_0 x) q
/-- a value that declines, then the own == of the other side -/
theorem rc_behind {v : Value} {T id : String} {Q : Value → Shared → Prop} (tv : s.TypeIs v T) (X : K.In s.heap) (I : PySem.W.InstAt s.heap x ox C od) (hsub : PySem.W.subIn K (.ref C) (.type T) = some false)
    (h1 : Slot T "__eq__" id) (dec : ∀ Q' : Value → Shared → Prop, Q' .notImplemented s → wpAny (model prog w) A (call (.builtin id) [v, .ref x]) Q' E s) (hs : PySem.W.findIn K (.ref C) "__eq__" = some (some (.ref f))) (hf : PySem.W.isFn K (.ref f) = true)
    (hu : A.units < cLine) (h : wpAny (model prog w) A (call (.ref f) [.ref x, v]) (PySem.W.CmpBack Q) E s) : wpAny (model prog w) A (richCompare .Eq v (.ref x)) Q E s := by
  have one : wpAny (model prog w) A (tryCompare (.ref x) "__eq__" v) (fun r s' => ∃ z, r = some z ∧ Q z s') E s := by
    unfold tryCompare
    refine wpAny_bind (PySem.W.ifBound_K X I hs hf (wpAny_mono h (fun z s' hz => ?_) fun _ _ e => e))
    cases z with
    | notImplemented => exact False.elim hz
    | _ => exact wpAny_pure ⟨_, rfl, hz⟩
  have nz : (Value.type T != Value.ref C) = true := rfl
  simp only [richCompare, cmpInfo_Eq, tv.oneThing_none]
  refine wpAny_holding (wpAny_bind (wpAny_cRoomFor hu ?_))
  refine wpAny_bind (wpAny_typeOf tv (wpAny_bind (I.type.here ?_)))
  rw [if_pos nz]
  refine wpAny_bind ((PySem.W.looks_subIn X hsub).here ?_)
  rw [if_neg Bool.false_ne_true]
  refine wpAny_bind (m := tryCompare v _ (.ref x)) (wpAny_tryCompare_declines tv h1 (dec _ ⟨rfl, ?_⟩))
  rw [if_pos (show (!false) = true from rfl)]
  refine wpAny_bind (m := tryCompare (.ref x) _ v) (wpAny_mono one (fun r s' z => ?_) fun _ _ e => e)
  obtain ⟨z, rfl, hq⟩ := z
  exact wpAny_pure hq
end
/-- an own == that answers b where R says so, and only makes objects -/
def spEqB (R : Addr → V → Bool → Hp → Prop) : Sp := fun vs H Q _ => ∃ a y b, vs = [.ref a, y] ∧ R a y b H ∧ ∀ H', Ext H H' → Q (.bl b) H'
/-- either answer, by the abstract heap -/
abbrev EqvB := V → V → Bool → Hp → Prop
def EqB (X : Cx) (n : Nat) (D : EqvB) : Prop :=
  ∀ (B : Around) (pins : List (Addr × Obj)) (s : Shared) (σ : L2.St) (H : Hp) (x y : V) (b : Bool) (u v : Value), Sub X n B → Inv X pins σ H s → RelV x u → RelV y v → D x y b H →
    wpAny (model X.prog X.w) B (eqBool u v) (fun r s' => r = b ∧ LoopI X pins σ H s') X.xe s
def RcB (X : Cx) (n : Nat) (D : EqvB) : Prop :=
  ∀ (B : Around) (pins : List (Addr × Obj)) (s : Shared) (σ : L2.St) (H : Hp) (x y : V) (b : Bool) (u v : Value), Sub X n B → Inv X pins σ H s → RelV x u → RelV y v → D x y b H →
    wpAny (model X.prog X.w) B (richCompare .Eq u v) (fun r s' => r = .bool b ∧ LoopI X pins σ H s') X.xe s
/-- what the written part says of a class with an own == -/
structure EqCls (K : PySem.W.Frag) (C f : Addr) : Prop where
  hs : PySem.W.findIn K (.ref C) "__eq__" = some (some (.ref f))
  hf : PySem.W.isFn K (.ref f) = true
/-- both are instances, the second of no class below the first one's -/
def DInsB (K : PySem.W.Frag) (C : Addr) (R : Addr → V → Bool → Hp → Prop) : EqvB := fun x y b H => ∃ a c C' dx dy fs gs, x = .ref a ∧ y = .ref c ∧ H a = some (.ins C dx fs) ∧ H c = some (.ins C' dy gs) ∧ PySem.W.notFirst K C (.ref C') = true ∧ R a (.ref c) b H
/-- the first one is none of the class -/
inductive Alien (K : PySem.W.Frag) (C : Addr) (H : Hp) : V → Prop
  | non (h : PySem.W.subIn K (.ref C) (.type "NoneType") = some false) : Alien K C H .non
  | int {i : Int} (h : PySem.W.subIn K (.ref C) (.type "int") = some false) : Alien K C H (.int i)
  | tup {a : Addr} {xs : List V} (h : PySem.W.subIn K (.ref C) (.type "tuple") = some false) (e : H a = some (.tup xs)) : Alien K C H (.ref a)
  | lst {a : Addr} {xs : List V} (h : PySem.W.subIn K (.ref C) (.type "list") = some false) (e : H a = some (.lst xs)) : Alien K C H (.ref a)
def DBehB (K : PySem.W.Frag) (C : Addr) (R : Addr → V → Bool → Hp → Prop) : EqvB := fun x y b H => ∃ a dx fs, y = .ref a ∧ H a = some (.ins C dx fs) ∧ Alien K C H x ∧ R a x b H
section
variable {prog : Program} {w : World} {A : Around} {E : Value → Shared → Prop} {s : Shared} {x C : Addr} {ox : Obj}
theorem dec_lst {l : Addr} {its : Array Value} {n : Nat} {dd : Option Addr} {sl : Array (Option Value)} {Q : Value → Shared → Prop} (hl : s.heap.get? l = some { cls := .type "list", dict := dd, data := .seq its n, slots := sl })
    (hx : s.heap.get? x = some ox) (hc : ox.cls = .ref C) (hs : PySem.W.Looks (model prog w) s.heap (isSubtype (.ref C) (.type "list")) false) (q : Q .notImplemented s) :
    wpAny (model prog w) A (call (.builtin "list.__eq__") [.ref l, .ref x]) Q E s := by
  refine GQ.call_here F.slot_list_eq ⟨_, hl, rfl⟩ F.entry_list_eq (F.args_list_eq_2 _ _) ?_
  obtain ⟨hp, g, d, tk, os⟩ := s
  wp_walk using PySem.AutoSeq1.wpAny_loadPart' hx
  rw [hc]
  refine hs.at ?_
  wp_walk
  exact q
end
section
variable {X : Cx} {CX : CXT} {n : Nat} {C f : Addr} {fd : FuncData} {ps : List Str} {R : Addr → V → Bool → Hp → Prop} {E : XK} {pins : List (Addr × Obj)} {σ : L2.St} {H : Hp} {s : Shared} {B : Around}
theorem own_runB (G : FnOk X.prog X.w X.K X.mg X.base CX n f fd ps (spEqB R)) (hb : Binds X.K fd ps []) (hx : Passes CX X E) (sb : Sub X n B) (I : Inv X pins σ H s) {a : Addr} {y : V} {v : Value} {b : Bool} (ry : RelV y v) (hr : R a y b H) :
    wpAny (model X.prog X.w) B (call (.ref f) [.ref a, v]) (PySem.W.CmpBack fun r s' => r = .bool b ∧ LoopI X pins σ H s') X.xe s := by
  have sp1 : spEqB R [.ref a, y] H (fun z H' => z = .bl b ∧ Ext H H') E := ⟨a, y, b, rfl, hr, fun H' e => ⟨rfl, e⟩⟩
  have e0 := I.env0
  have ln := G.len _ _ _ _ sp1
  have vals : Vals [V.ref a, y] [Value.ref a, v] := .cons rfl (.cons ry .nil)
  have f0 : Env0 X.prog X.w X.K X.mg X.base B X.stack s H := ⟨by rw [sb.fr]; exact e0.frames, e0.mod, e0.bs, e0.bsz, e0.funs, e0.frf, e0.hok, e0.bare⟩
  have bd := hb s [.ref a, v] I.kIn (by simpa using ln)
  refine wpAny_call (codeAny_mono (G.run B X.stack s H ⟨[.ref a, v], []⟩ [.ref a, v] [.ref a, y] _ E sb.room f0 (by simpa using bd) vals sp1) fun r s1 hq1 => ?_)
  cases r with
  | error e => exact hx pins σ H s e s1 I hq1
  | ok fl =>
    cases fl with
    | ret w1 =>
      obtain ⟨z, H1, I1, rz, ez, ex⟩ := I.after hq1
      subst ez
      cases rz
      exact ⟨rfl, H1, I1, ex⟩
    | next => exact False.elim hq1
    | brk => exact False.elim hq1
    | cont => exact False.elim hq1
theorem rcB_ins (hc : EqCls X.K C f) (G : FnOk X.prog X.w X.K X.mg X.base CX n f fd ps (spEqB R)) (hb : Binds X.K fd ps []) (hx : Passes CX X E) : RcB X n (DInsB X.K C R) := by
  intro B pins s σ H x y b u v sb I rx ry hd
  obtain ⟨a, c, C', dx, dy, fs, gs, rfl, rfl, ha, hc1, nf, hr⟩ := hd
  cases rx
  cases ry
  obtain ⟨mA, J, _⟩ := ins_get I.hok ha
  obtain ⟨mC, J1, _⟩ := ins_get I.hok hc1
  obtain ⟨od, J, _⟩ := J.look
  obtain ⟨od1, J1, _⟩ := J1.look
  obtain ⟨m, hF⟩ := I.fr
  exact PySem.W.cmp_K (op := .Eq) (tb := .ref C') sb.room.units0 hF I.ok.mod.kin J J1.type nf hc.hs hc.hf (own_runB (y := .ref c) (v := .ref c) G hb hx sb I rfl hr)
theorem rcB_beh (hc : EqCls X.K C f) (G : FnOk X.prog X.w X.K X.mg X.base CX n f fd ps (spEqB R)) (hb : Binds X.K fd ps []) (hx : Passes CX X E) : RcB X n (DBehB X.K C R) := by
  intro B pins s σ H x y b u v sb I rx ry hd
  obtain ⟨a, dx, fs, rfl, ha, al, hr⟩ := hd
  cases ry
  obtain ⟨mA, J, _⟩ := ins_get I.hok ha
  obtain ⟨od, J, _⟩ := J.look
  have go := fun {v : Value} (rv : RelV x v) => own_runB G hb hx sb I rv hr
  cases al with
  | non h =>
    cases (show u = Value.none from rx)
    exact rc_behind rfl I.kIn J h F.slot_NoneType_eq (fun _ q => dec_non q) hc.hs hc.hf sb.room.units0 (go rfl)
  | int h =>
    obtain ⟨t, e⟩ := (show ∃ t, u = Value.int _ t from rx)
    cases e
    exact rc_behind (typeIs_int s _ t) I.kIn J h F.slot_int_eq (fun _ q => dec_int J.at_ (fun _ z => nomatch z) q) hc.hs hc.hf sb.room.units0 (go ⟨t, rfl⟩)
  | tup h e =>
    cases (show u = Value.ref _ from rx)
    obtain ⟨its, r, ⟨⟨cl, dd, dt, sl⟩, e1, e2, k, e3⟩, _⟩ := I.tuple (SqT.of e)
    simp only at e2 e3
    subst e2 e3
    exact rc_behind ⟨_, e1, rfl⟩ I.kIn J h F.slot_tuple_eq (fun _ q => dec_tup e1 J.at_ rfl (PySem.W.looks_subIn I.kIn h) q) hc.hs hc.hf sb.room.units0 (go rfl)
  | lst h e =>
    cases (show u = Value.ref _ from rx)
    obtain ⟨z, its, k, r, e1⟩ := I.hok _ _ e
    exact rc_behind ⟨_, e1, rfl⟩ I.kIn J h F.slot_list_eq (fun _ q => dec_lst e1 J.at_ rfl (PySem.W.looks_subIn I.kIn h) q) hc.hs hc.hf sb.room.units0 (go rfl)
end
section
variable {X : Cx} {n m : Nat} {D D' : EqvB}
theorem RcB.or (h : RcB X n D) (h' : RcB X n D') : RcB X n (fun x y b H => D x y b H ∨ D' x y b H) := fun B pins s σ H x y b u v sb I rx ry d =>
  d.elim (h B pins s σ H x y b u v sb I rx ry) (h' B pins s σ H x y b u v sb I rx ry)
theorem EqB.or (h : EqB X n D) (h' : EqB X n D') : EqB X n (fun x y b H => D x y b H ∨ D' x y b H) := fun B pins s σ H x y b u v sb I rx ry d =>
  d.elim (h B pins s σ H x y b u v sb I rx ry) (h' B pins s σ H x y b u v sb I rx ry)
theorem RcB.mono (h : RcB X n D) (k : n ≤ m) : RcB X m D := fun B pins s σ H x y b u v sb => h B pins s σ H x y b u v (sb.mono k)
/-- inside a list or a tuple: the same object is itself -/
theorem RcB.eqB (h : RcB X n D) (hr : ∀ x y b H, D x y b H → (∃ c, x = .ref c ∧ ∃ a, y = .ref a ∧ (c = a → b = true)) ∨ ((x = .non ∨ ∃ i, x = .int i) ∧ ∃ a, y = .ref a)) : EqB X n D := by
  intro B pins s σ H x y b u v sb I rx ry d
  have go : u ≠ v → (∀ p q, ¬ (u = .float p q)) → wpAny (model X.prog X.w) B (eqBool u v) (fun r s' => r = b ∧ LoopI X pins σ H s') X.xe s := by
    intro ne nf
    unfold eqBool
    refine wpAny_holding ?_
    refine wpAny_ite_split (fun e => absurd (eq_of_beq e) ne) (fun _ => ?_)
    have k := h B pins s σ H x y b u v sb I rx ry d
    have k2 : wpAny (model X.prog X.w) B (do truthOfDropped (← richCompare .Eq u v)) (fun r s' => r = b ∧ LoopI X pins σ H s') X.xe s := by
      refine wpAny_bind (wpAny_mono k (fun z s' q => ?_) fun _ _ e => e)
      obtain ⟨rfl, q⟩ := q
      exact wpAny_truthy_bool ⟨rfl, q⟩
    cases u with
    | float p q => exact absurd rfl (nf p q)
    | _ => exact k2
  rcases hr x y b H d with ⟨c, rfl, a, rfl, q⟩ | ⟨hx, a, rfl⟩
  · cases (show u = Value.ref c from rx)
    cases (show v = Value.ref a from ry)
    by_cases e : c = a
    · have eb := q e
      subst e
      subst eb
      exact SeqAt.EqAt.same (A := B) (s := s) (.ref c) X.prog X.w X.xe _ ⟨rfl, H, I, Ext.rfl'⟩
    · exact go (fun z => e (Value.ref.inj z)) (fun _ _ z => nomatch z)
  · cases (show v = Value.ref a from ry)
    rcases hx with rfl | ⟨i, rfl⟩
    · cases (show u = Value.none from rx)
      exact go (fun z => nomatch z) (fun _ _ z => nomatch z)
    · obtain ⟨t, e⟩ := (show ∃ t, u = Value.int i t from rx)
      cases e
      exact go (fun z => nomatch z) (fun _ _ z => nomatch z)
/-- x == y -/
def rEqB (D : EqvB) : R2 := fun x y H Q => ∃ b, D x y b H ∧ ∀ H', Ext H H' → Q (.bl b) H'
theorem op_eqB (h : RcB X n D) (hr : Room n X.A) : OpR X (compareOp .Eq) (rEqB D) := by
  intro pins s σ H x y v u Q I rx ry hq
  obtain ⟨b, d, q⟩ := hq
  show wpAny (model X.prog X.w) X.A (richCompare .Eq v u) (EP X pins σ Q) X.xe s
  refine wpAny_mono (h X.A pins s σ H x y b v u ⟨hr, rfl⟩ I rx ry d) (fun r s1 z => ?_) fun _ _ e => e
  obtain ⟨rfl, H1, I1, e⟩ := z
  exact ⟨.bl b, H1, I1, rfl, q H1 e⟩
/-- x in a list none of whose items is equal to it -/
def rOutB (D : EqvB) : R2 := fun x y H Q => ∃ l ys, y = .ref l ∧ (∀ H', Ext H H' → H' l = some (.lst ys)) ∧ (∀ z, z ∈ ys → ∀ H', Ext H H' → D z x false H') ∧ ∀ H', Ext H H' → Q (.bl false) H'
theorem has_none (h : EqB X n D) {B : Around} (sb : Sub X (n + 1) B) {pins : List (Addr × Obj)} {σ : L2.St} {H : Hp} {x : V} {v : Value} {l : Addr} {ys : List V} (rx : RelV x v) (hl : ∀ H', Ext H H' → H' l = some (.lst ys)) (hd : ∀ z, z ∈ ys → ∀ H', Ext H H' → D z x false H')
    {Q : Value → Shared → Prop} (fin : ∀ s', LoopI X pins σ H s' → Q (.bool false) s') (k : Nat) : ∀ i : Nat, ys.length - i = k → ∀ s, LoopI X pins σ H s →
      wpAny (model X.prog X.w) B.in1 (Builtin.«list.__contains__.loop» ⟨[.ref l, v, rawInt i], []⟩) (GQ.FinOf X.prog X.w B (wants Q X.xe)) (fun e s' => wants Q X.xe (.error e) s') s := by
  induction k with
  | zero =>
    intro i hi s hs
    obtain ⟨H1, I1, e1⟩ := id hs
    obtain ⟨z, its, kk, r, eo⟩ := I1.hok _ _ (hl H1 e1)
    have out := fin s hs
    have no : its.toArray[((i : Nat) : Int).toNat]? = none := by
      have q := r.length
      simp
      omega
    obtain ⟨hp, g, d, tk, os⟩ := s
    wp_walk using PySem.AutoSeq1.wpAny_loadPart' eo
    rw [no]
    wp_walk
    exact out
  | succ k ih =>
    intro i hi s hs
    obtain ⟨H1, I1, e1⟩ := id hs
    obtain ⟨z, its, kk, r, eo⟩ := I1.hok _ _ (hl H1 e1)
    have lt : i < ys.length := by omega
    have lt2 : i < its.length := by rw [← r.length] <;> exact lt
    have so : its.toArray[((i : Nat) : Int).toNat]? = some its[i] := by simp [lt2]
    obtain ⟨u, hu, ru⟩ := r.get (List.getElem?_eq_getElem lt)
    have eu : its[i] = u := by
      rw [List.getElem?_eq_getElem lt2] at hu
      exact Option.some.inj hu
    have turn := h B.in1 pins s σ H1 _ x false u v sb.in1 I1 ru rx (hd _ (List.getElem_mem lt) H1 e1)
    obtain ⟨hp, g, d, tk, os⟩ := s
    wp_walk using PySem.AutoSeq1.wpAny_loadPart' eo
    rw [so, eu]
    refine wpAny_bind (wpAny_mono turn (fun rr s2 q => ?_) fun _ _ e => e)
    obtain ⟨rfl, H2, I2, e2⟩ := q
    have next := ih (i + 1) (by omega) s2 ⟨H2, I2, e1.trans e2⟩
    have up : ((i : Int) + 1) = ((i + 1 : Nat) : Int) := by omega
    obtain ⟨hp2, g2, d2, tk2, os2⟩ := s2
    wp_walk
    rw [up]
    exact ⟨plainId_quiet MeetsSeq.plain_contains_loop _, codeAny_builtin MeetsSeq.entry_contains_loop (by
      rw [Around.under_plainId MeetsSeq.plain_contains_loop _]
      exact next)⟩
theorem op_outB (h : EqB X n D) (hr : Room (n + 1) X.A) : OpR X (compareOp .In) (rOutB D) := by
  intro pins s σ H x y v u Q I rx ry hq
  obtain ⟨l, ys, rfl, hl, hd, q⟩ := hq
  cases (show u = Value.ref l from ry)
  obtain ⟨z, its, kk, r, eo⟩ := I.hok _ _ (hl H Ext.rfl')
  show wpAny (model X.prog X.w) X.A (do return .bool (← contains (.ref l) v)) (EP X pins σ Q) X.xe s
  have end_ : ∀ s', LoopI X pins σ H s' → EP X pins σ Q (.bool false) s' := fun s' ⟨H1, I1, e1⟩ => ⟨.bl false, H1, I1, rfl, q H1 e1⟩
  have run := has_none (B := X.A) h ⟨hr, rfl⟩ rx hl hd (Q := fun r s' => r = .bool false ∧ LoopI X pins σ H s') (fun s' z => ⟨rfl, z⟩) _ 0 rfl s ⟨H, I, Ext.rfl'⟩
  refine wpAny_bind (wpAny_contains_slot (id := "list.__contains__") ⟨_, eo, rfl⟩ F.slot_list_contains (wpAny_mono (GQ.call_here (Q := fun r s' => r = .bool false ∧ LoopI X pins σ H s') F.slot_list_contains ⟨_, eo, rfl⟩ F.entry_list_contains (F.args_list_contains_2 _ _) ?_) (fun r s' z => ?_) fun _ _ e => e))
  · obtain ⟨hp, g, d, tk, os⟩ := s
    wp_walk
    exact ⟨plainId_quiet MeetsSeq.plain_contains_loop _, codeAny_builtin MeetsSeq.entry_contains_loop (by
      rw [Around.under_plainId MeetsSeq.plain_contains_loop _]
      exact run)⟩
  · obtain ⟨rfl, z⟩ := z
    exact wpAny_truthy_bool (wpAny_pure (end_ s' z))
end
end KpR

namespace KpR
open PySem PySem.Spec PyProof.Rows L2
/-- a callee of which nothing comes -/
theorem passF {X : Cx} : Passes (L2.CX X.prog X.w) X (fun _ _ _ => False) := fun _ _ _ _ _ _ _ ⟨_, _, _, _, _, _, _, _, _, _, _, _, z⟩ => z.elim
/-- what a callee in a try's body may raise: whatever the locals are -/
def anyL (n : Nat) (W : WX) : XK := fun cls d H => ∀ σ : L2.St, σ.length = n → W cls d σ H
theorem passL {X : Cx} {W : WX} {n : Nat} (tk : Takes X W) (hn : X.N.length = n) : Passes (L2.CX X.prog X.w) X (anyL n W) := fun _ σ _ _ e s' I c => tk e s' (XE.of_call I (fun _ _ _ h => h σ (by rw [← hn] <;> exact I.len)) c)
/-- a call by keywords of a def without defaults -/
theorem kbOf {K : PySem.W.Frag} {fd : FuncData} {ps ks : List Str} {n : Nat} {g : List Value → List Value → List Value} {gV : List V → List V → List V}
    (h : ∀ us ws : List Value, us.length = n → ws.length = ks.length → bindArgs fd ⟨us, ks.zip ws⟩ = pure (ps.zip (g us ws))) (r : ∀ {vs : List V} {us : List Value} {zs : List V} {ws : List Value}, Vals vs us → Vals zs ws → Vals (gV vs zs) (g us ws)) : KBn K fd ps n ks g gV :=
  ⟨fun s us ws _ l1 l2 => .of_eq (h us ws l1 l2), r⟩
/-- a builtin's type against an own class -/
theorem kit_tc {K : PySem.W.Frag} {T : String} {C : Addr} {b : Bool} (h1 : PySem.W.isClsIn K C = true) (h2 : PySem.W.typeIn K (.ref C) = some (.type "type")) (h3 : PySem.W.subIn K (.type T) (.ref C) = some b) : PySem.W.kitOne K (.type T) (.ref C) = some b := by
  have ne : ¬ (Value.type T == Value.ref C) = true := fun z => nomatch eq_of_beq z
  unfold PySem.W.kitOne
  rw [if_neg ne]
  show (if ((PySem.W.clsIn K C).isSome && PySem.W.typeIn K (.ref C) == some (.type "type")) = true then PySem.W.subIn K (.type T) (.ref C) else none) = some b
  rw [show (PySem.W.clsIn K C).isSome = true from h1, h2, if_pos (by rfl)]
  exact h3
/-- the first clause takes it -/
def wFst (K : PySem.W.Frag) (c : Value) (i : Nat) (tz : Addr → Value → Option Addr → TS) (D : Ends) : WX := fun cls d σ H =>
  PySem.W.exmOne K cls c = some true ∧ ∀ a, H a = none → tz a cls d ⟨fun τ G => D.nx (τ.set i none) G, D.rt, fun τ G => D.bk (τ.set i none) G, fun τ G => D.ct (τ.set i none) G⟩ (σ.set i (some (.ref a))) H
section
variable {X : Cx} {x n : Str} {c : Value} {i : Nat} {body rest : List Stmt} {z₀ : Stmt} {more : List ExceptHandler} {pn pt pw : Pos} {tb : WX → TS} {tz : Addr → Value → Option Addr → TS}
theorem ps_try_fst (st : X.stack = X.env :: X.outer) (fr : X.env.frame = some X.env.locals) (nd : X.N.Nodup) (at_ : X.N[i]? = some n) (lo : X.env.kindOf n = some .local) (nm : Names X x c)
    (bd : ∀ (W : WX) (qn : List (Addr × Obj)) (xe : Value → Shared → Prop), Takes (X.tr qn xe) W → PassesOwn (model X.prog X.w) X.A X.env xe → PSs (X.tr qn xe) body (tb W))
    (su : ∀ (e : Addr) (oe : Obj) (cls : Value) (d : Option Addr) (qn : List (Addr × Obj)), Zc cls d oe → (∃ fs, oe.data = .fields fs) → PSs (X.suite e ((e, oe) :: qn)) (z₀ :: rest) (tz e cls d)) :
    PS X (.Try body (.ExceptHandler (some (.Name x pn)) (some n) (z₀ :: rest) pw :: more) [] [] pt) (fun D σ H => tb (wFst X.K c i tz D) D σ H) := by
  refine ⟨fun pins s σ H D I hyp => ?_⟩
  have okX := I.ok
  have afr : X.A.frames = some (X.env :: X.outer) := by rw [okX.frames, st]
  have lcl : Loc X.env.scope n := .inl lo
  let hs := ExceptHandler.ExceptHandler (some (.Name x pn)) (some n) (z₀ :: rest) pw :: more
  refine wpAny_Try_except ?_
  refine wpAny_mono ((bd (wFst X.K c i tz D) (X.pn ++ pins) (fun e t1 => wpAny (model X.prog X.w) X.A (noteFrame e X.env) (fun _ t2 => wpAny (model X.prog X.w) X.A (setFlight e none) (fun _ t3 =>
    wpAny (model X.prog X.w) X.A (handleBy e X.env hs) (SP X pins D) X.xe t3) X.xe t2) X.xe t1) (fun u t air => ?_) PassesOwn.looking).run [] s σ H D (I.toTry _) hyp) (fun f t done => ?_) (fun _ _ air => air)
  · obtain ⟨e, G, sI, pq, τ, H1, cls, d, rfl, J0, near, upS, sky0, free, osE, bare, hit, go⟩ := air
    have J : Inv X pins τ H1 sI := J0.ofTry okX
    have sky : Sky G (X.env :: X.outer) e (Zc cls d) X.env.locals t.heap := by rw [← st] <;> exact sky0
    show wpAny (model X.prog X.w) X.A (noteFrame (.ref e) X.env) _ _ _
    refine Sky.land Zc.steady afr fr sky fun hp1 fly1 up1 => ?_
    have J1 : Inv X pins τ H1 { t with heap := hp1 } := J.landed near fly1.1 (upS.trans up1) osE bare
    obtain ⟨o1, fs1, at1, z1, dat1⟩ := fly1.there
    have off : e ∉ frs (X.env :: X.outer) := fun mem => by
      obtain ⟨_, o2, at2, no2⟩ := fly1.2.2.1.mem mem
      have q : o1 = o2 := Option.some.inj (at1.symm.trans at2)
      subst q
      exact no2 _ dat1
    have offL : e ≠ X.env.locals := fun q => off (List.mem_filterMap.mpr ⟨X.env, List.mem_cons_self, by rw [fr, q]⟩)
    have offF : e ∉ X.fs := fun mem => by
      obtain ⟨y, hy, q⟩ := List.mem_filterMap.mp mem
      exact off (List.mem_filterMap.mpr ⟨y, List.mem_cons_of_mem _ hy, q⟩)
    have S1 := J1.suite at1 dat1 free offL offF
    refine wpAny_handleBy_cons (codeAny_handlers_test ?_) (fun q => nomatch q)
    have ty : PySem.W.Looks (model X.prog X.w) hp1 (typeOf (.ref e)) cls := fun A Q E s k q => wpAny_typeOf_ref (k _ _ at1) (by rw [z1.1] <;> exact q)
    have mt := PySem.W.exm_one (M := model X.prog X.w) (J1.kIn) ty hit
    have look : ∀ {Q : Value → Shared → Prop} {E : Value → Shared → Prop}, Q c { t with heap := hp1 } → wpAny (model X.prog X.w) (X.A.mark (some (.ref e))) (eval (.Name x pn) X.env) Q E { t with heap := hp1 } := fun {Q E} q => by
      obtain ⟨gl, nd2, own | ⟨none_, boot, nn⟩⟩ := nm
      · exact ld_glob (X := X.suite e ((e, o1) :: (X.pn ++ pins))) S1 gl own q nd2
      · exact ld_blt (X := X.suite e ((e, o1) :: (X.pn ++ pins))) S1 gl none_ boot q nn nd2
    refine look (mt.here ?_)
    refine codeAny_handlers_suite_as ?_
    refine HandSPX.lands_againZ fly1 fun hp2 fly2 up2 => ?_
    have J2 : Inv X pins τ H1 { t with heap := hp2 } := J.landed near fly2.1 ((upS.trans up1).trans up2) osE bare
    obtain ⟨o2, fs2, at2, z2, dat2⟩ := fly2.there
    have S2 := J2.suite at2 dat2 free offL offF
    refine store_ok (X := X.suite e ((e, o2) :: (X.pn ++ pins))) (v := .ref e) S2 nd at_ lcl rfl (fun t2 S3 => ?_) (.inr lo)
    refine wpAny_mono ((su e o2 cls d (X.pn ++ pins) z2 ⟨_, dat2⟩).run [] t2 _ H1 _ S3 (go e free)) (fun f t3 out => ?_) (fun _ _ q => False.elim q)
    have fin : ∀ {τ1 : L2.St} {H2 : Hp} {R : Shared → Prop}, Inv (X.suite e ((e, o2) :: (X.pn ++ pins))) [] τ1 H2 t3 → (∀ t4, Inv X pins (τ1.set i none) H2 t4 → R t4) →
        wpAny (model X.prog X.w) X.A (do bindName X.env n .none; unbindBehindTheSuite X.env n pw) (fun _ t4 => R t4) X.xe t3 := fun {τ1 H2 R} S4 q => gone_ok (S4.unsuite okX) nd at_ lo q
    match f, out with
    | .next, ⟨_, _, S4, q⟩ => exact fin S4 fun _ J4 => ⟨_, _, J4, q⟩
    | .brk, ⟨_, _, S4, q⟩ => exact fin S4 fun _ J4 => ⟨_, _, J4, q⟩
    | .cont, ⟨_, _, S4, q⟩ => exact fin S4 fun _ J4 => ⟨_, _, J4, q⟩
    | .ret u, ⟨_, _, _, S4, ru, q⟩ => exact fin S4 fun _ J4 => ⟨_, _, _, J4, ru, q⟩
  · match f, done with
    | .next, ⟨_, _, J4, q⟩ => exact wpAny_execs_nil ⟨_, _, J4.ofTry okX, q⟩
    | .brk, ⟨_, _, J4, q⟩ => exact ⟨_, _, J4.ofTry okX, q⟩
    | .cont, ⟨_, _, J4, q⟩ => exact ⟨_, _, J4.ofTry okX, q⟩
    | .ret u, ⟨_, _, _, J4, ru, q⟩ => exact ⟨_, _, _, J4.ofTry okX, ru, q⟩
end
/-- what the written part says of a class with an own == and the != of object, anywhere below object -/
structure NeK (K : PySem.W.Frag) (C f : Addr) : Prop where
  hn : PySem.W.findIn K (.ref C) "__ne__" = some (some (.builtin "object.__ne__"))
  hm : PySem.W.mroIn K C (.type "object") = some true
  hs : PySem.W.findIn K (.ref C) "__eq__" = some (some (.ref f))
  hf : PySem.W.isFn K (.ref f) = true
section
variable {prog : Program} {w : World} {A : Around} {E : Value → Shared → Prop} {s : Shared} {K : PySem.W.Frag} {x y C f : Addr} {ox oy : Obj} {od : Option Obj}
theorem objNe_own {Q : Fin → Shared → Prop} (X : K.In s.heap) (I : PySem.W.InstAt s.heap x ox C od) (c : NeK K C f) (hu : A.units < cLine)
    (h : wpAny (model prog w) A (call (.ref f) [.ref x, .ref y]) (fun v s1 => ∃ b, v = .bool b ∧ Q (.done (.ret (.bool (!b)))) s1) E s) : wpAny (model prog w) A (Builtin.«object.__ne__» ⟨[.ref x, .ref y], []⟩) Q E s := by
  have one : wpAny (model prog w) A (callSpecialIfBound? (.ref x) "__eq__" [.ref y]) (fun r s1 => ∃ b, r = some (.bool b) ∧ Q (.done (.ret (.bool (!b)))) s1) E s :=
    PySem.W.ifBound_K X I c.hs c.hf (wpAny_mono h (fun v s1 ⟨b, e, q⟩ => ⟨b, congrArg some e, q⟩) fun _ _ e => e)
  obtain ⟨hp, g, d, tk, os⟩ := s
  unfold Builtin.«object.__ne__»
  repeat (first
    | with_reducible refine wpAny_cRoomFor hu ?_
    | (refine wpAny_bind (m := callSpecialIfBound? (.ref x) (Str.ofString "__eq__") [.ref y]) (wpAny_mono one (fun r s1 hr => by
          obtain ⟨b, rfl, hq⟩ := hr
          repeat (first | exact hq | exact wpAny_pure hq | exact wpAny_truthy_bool hq | (refine wpAny_bind (m := truthy (.bool _)) (wpAny_truthy_bool ?_)) | wp_step)) fun _ _ e => e))
    | wp_step)
theorem call_objNe {Q : Value → Shared → Prop} (X : K.In s.heap) (I : PySem.W.InstAt s.heap x ox C od) (c : NeK K C f) (hu : A.in1.units < cLine)
    (h : wpAny (model prog w) A.in1 (call (.ref f) [.ref x, .ref y]) (fun v s1 => ∃ b, v = .bool b ∧ Q (.bool (!b)) s1) E s) : wpAny (model prog w) A (call (.builtin "object.__ne__") [.ref x, .ref y]) Q E s :=
  wpAny_call (codeAny_call_builtin F.cmp_object.ne.plain F.cmpEntry_ne (PySem.W.check_slot F.cmpKind_ne F.cmpSplit_ne (I.type.andThen (PySem.W.looks_mroIn X c.hm)) (F.cmpArgs_ne _ _) (objNe_own X I c hu h)))
theorem rc_neK {Q : Value → Shared → Prop} (X : K.In s.heap) (I : PySem.W.InstAt s.heap x ox C od) (c : NeK K C f) (hy : s.heap.get? y = some oy) (cy : oy.cls = .ref C) (hu : A.units + 1 < cLine)
    (h : wpAny (model prog w) A.in1 (call (.ref f) [.ref x, .ref y]) (fun v s1 => ∃ b, v = .bool b ∧ Q (.bool (!b)) s1) E s) : wpAny (model prog w) A (richCompare .NotEq (.ref x) (.ref y)) Q E s := by
  have hu0 : A.units < cLine := Nat.lt_of_succ_lt hu
  have run : wpAny (model prog w) A (callSpecialIfBound? (.ref x) "__ne__" [.ref y]) (fun r s1 => ∃ b, r = some (.bool b) ∧ Q (.bool b) s1) E s := by
    simp only [callSpecialIfBound?, bindSpecialIfBound?]
    refine wpAny_holding (wpAny_bind (wpAny_bind (wpAny_bind (I.type.here ((PySem.W.looks_findIn X c.hn).here ?_)))))
    refine wpAny_bind (wpAny_askSetting (wpAny_ite ?_))
    have fin : wpAny (model prog w) A (call (.builtin "object.__ne__") ([.ref x] ++ [.ref y]) >>= fun v => pure (some v)) (fun r s1 => ∃ b, r = some (.bool b) ∧ Q (.bool b) s1) E s :=
      wpAny_bind (wpAny_mono (call_objNe (Q := fun v s1 => ∃ b, v = .bool b ∧ Q (.bool b) s1) X I c hu (wpAny_mono h (fun v s1 ⟨b, e, q⟩ => ⟨b, e, _, rfl, q⟩) fun _ _ e => e)) (fun v s1 ⟨b, e, q⟩ => wpAny_pure ⟨b, congrArg some e, q⟩) fun _ _ e => e)
    split
    · exact wpAny_bind (wpAny_of_eq (F.cmp_object.ne.bind _) (wpAny_pure (by exact fin)))
    · exact wpAny_tryCatch (wpAny_bind (wpAny_of_eq (F.cmp_object.ne.bind _) (wpAny_pure (by exact fin))))
  have one : wpAny (model prog w) A (tryCompare (.ref x) "__ne__" (.ref y)) (fun r s1 => ∃ b, r = some (.bool b) ∧ Q (.bool b) s1) E s := by
    unfold tryCompare
    refine wpAny_bind (wpAny_mono run (fun r s1 z => ?_) fun _ _ e => e)
    obtain ⟨b, rfl, q⟩ := z
    exact wpAny_pure ⟨b, rfl, q⟩
  unfold richCompare
  simp only [oneThing_ref]
  refine wpAny_holding (wpAny_bind (wpAny_cRoomFor hu0 ?_))
  rw [cmpInfo_NotEq]
  dsimp only
  refine wpAny_bind (I.type.here (wpAny_bind (wpAny_typeOf_ref hy ?_)))
  rw [cy, show (Value.ref C != Value.ref C) = false from by simp]
  simp only [Bool.false_eq_true, if_false]
  refine wpAny_bind (wpAny_pure ?_)
  simp only [Bool.false_eq_true, if_false]
  refine wpAny_bind (wpAny_mono one (fun r s1 z => ?_) fun _ _ e => e)
  obtain ⟨b, rfl, q⟩ := z
  exact wpAny_pure q
end
section
variable {X : Cx} {CX : CXT} {n : Nat} {C f : Addr} {fd : FuncData} {ps : List Str} {R : Addr → V → Bool → Hp → Prop} {E : XK}
/-- x != y of two instances of one such class -/
def rNeK (C : Addr) (R : Addr → V → Bool → Hp → Prop) : R2 := fun x y H Q => ∃ a c b dx dy fs gs, x = .ref a ∧ y = .ref c ∧ H a = some (.ins C dx fs) ∧ H c = some (.ins C dy gs) ∧ R a (.ref c) b H ∧ ∀ H', Ext H H' → Q (.bl (!b)) H'
theorem op_neK (G : FnOk X.prog X.w X.K X.mg X.base CX n f fd ps (spEqB R)) (hc : NeK X.K C f) (hb : Binds X.K fd ps []) (hx : Passes CX X E) (hr : Room (n + 1) X.A) : OpR X (compareOp .NotEq) (rNeK C R) := by
  intro pins s σ H x y v u Q I rx ry hq
  obtain ⟨a, c, b, dx, dy, fs, gs, rfl, rfl, ha, hc1, hR, q⟩ := hq
  cases rx
  cases ry
  obtain ⟨mA, J, _⟩ := ins_get I.hok ha
  obtain ⟨mC, J1, _⟩ := ins_get I.hok hc1
  obtain ⟨od, J, _⟩ := J.look
  obtain ⟨od1, J1, _⟩ := J1.look
  have r1 : Room n X.A.in1 := hr.in1
  have go := own_runB (B := X.A.in1) (y := .ref c) (v := .ref c) G hb hx ⟨r1, rfl⟩ I rfl hR
  show wpAny (model X.prog X.w) X.A (richCompare .NotEq (.ref a) (.ref c)) (EP X pins σ Q) X.xe s
  refine rc_neK I.kIn J hc J1.at_ J1.cls (hu_of hr) (wpAny_mono go (fun r s1 z => ?_) fun _ _ e => e)
  cases r with
  | notImplemented => exact False.elim z
  | bool b' =>
    obtain ⟨e, H1, I1, ex⟩ := z
    cases e
    exact ⟨_, rfl, .bl _, H1, I1, rfl, q H1 ex⟩
  | _ => exact (nomatch z.1)
end
end KpR

namespace KpR
open PySem PySem.Spec PyProof.Rows L2
section
variable {α : Type} {K : PySem.W.Frag} {H : Hp} {f : α → PyData}
theorem dp_map {R : V → α → Prop} (h : ∀ t x, R t x → Dp K H t (f x)) : ∀ {ts : List V} {l : List α}, A2 R ts l → DpAll K H ts (l.map f)
  | [], [], _ => .nil
  | _ :: _, _ :: _, k => .cons (h _ _ k.1) (dp_map h k.2)
  | [], _ :: _, k => k.elim
  | _ :: _, [], k => k.elim
theorem lay_map : ∀ {l : List α}, (∀ x ∈ l, (f x).canLay0 = true) → PyData.canLayAll0 (l.map f) = true
  | [], _ => by simp [PyData.canLayAll0]
  | x :: l, h => by
    simp only [List.map_cons, PyData.canLayAll0, h x (List.mem_cons_self ..), Bool.true_and]
    exact lay_map fun y hy => h y (List.mem_cons_of_mem _ hy)
theorem dep_map {n : Nat} : ∀ {l : List α}, (∀ x ∈ l, (f x).depth ≤ n) → PyData.depthAll (l.map f) ≤ n
  | [], _ => by simp [PyData.depthAll]
  | x :: l, h => by
    simp only [List.map_cons, PyData.depthAll]
    exact Nat.max_le.mpr ⟨h x (List.mem_cons_self ..), dep_map fun y hy => h y (List.mem_cons_of_mem _ hy)⟩
theorem eqv_map [DecidableEq α] (h : ∀ x y, (f x).eqv (f y) = decide (x = y)) : ∀ {l m : List α}, PyData.eqvAll (l.map f) (m.map f) = decide (l = m)
  | [], [] => by simp [PyData.eqvAll]
  | [], _ :: _ => by simp [PyData.eqvAll]
  | _ :: _, [] => by simp [PyData.eqvAll]
  | x :: l, y :: m => by
    simp only [List.map_cons, PyData.eqvAll, h, eqv_map h (l := l) (m := m)]
    by_cases h1 : x = y
    · by_cases h2 : l = m <;> simp [h1, h2]
    · simp [h1]
/-- what can be compared: of no great depth -/
structure Flat (n : Nat) (d : PyData) : Prop where
  lay : d.canLay0 = true
  dep : d.depth ≤ n
theorem Flat.sh {n : Nat} {d : PyData} (h : Flat n d) (hn : n ≤ 64) : SeqAt.shaped d = true := by
  unfold SeqAt.shaped
  rw [h.lay, decide_eq_true (Nat.le_trans h.dep hn)]
  rfl
theorem Flat.list {n : Nat} {l : List α} (h : ∀ x ∈ l, Flat n (f x)) : Flat (n + 1) (.list (l.map f)) :=
  ⟨by simp only [PyData.canLay0]; exact lay_map fun x hx => (h x hx).lay, by simp only [PyData.depth]; exact Nat.succ_le_succ (dep_map fun x hx => (h x hx).dep)⟩
theorem Flat.tup {n : Nat} {l : List α} (h : ∀ x ∈ l, Flat n (f x)) : Flat (n + 1) (.tuple (l.map f)) :=
  ⟨by simp only [PyData.canLay0]; exact lay_map fun x hx => (h x hx).lay, by simp only [PyData.depth]; exact Nat.succ_le_succ (dep_map fun x hx => (h x hx).dep)⟩
theorem Flat.int {n : Nat} {i : Int} : Flat n (.int i) := ⟨rfl, Nat.zero_le _⟩
theorem Flat.bl {n : Nat} {b : Bool} : Flat n (.bool b) := ⟨rfl, Nat.zero_le _⟩
theorem Flat.non {n : Nat} : Flat n .none := ⟨rfl, Nat.zero_le _⟩
theorem Flat.str {n : Nat} {x : Str} (h : (PyData.str x).canLay0 = true) : Flat n (.str x) := ⟨h, Nat.zero_le _⟩
theorem Flat.mono {n m : Nat} {d : PyData} (h : Flat n d) (k : n ≤ m) : Flat m d := ⟨h.lay, Nat.le_trans h.dep k⟩
theorem eqv_int {i j : Int} : PyData.eqv (.int i) (.int j) = decide (i = j) := by
  simp only [PyData.eqv]
  by_cases h : i = j <;> simp [h]
/-- != and == of data -/
theorem neD {x y : V} {d e : PyData} {Q : VK} (h1 : Dp K H x d) (h2 : Dp K H y e) (f1 : Flat 60 d) (f2 : Flat 60 e) (q : Q (.bl (!PyData.eqv d e)) H) : rNeD K x y H Q := ⟨d, e, h1, h2, f1.sh (by decide), f2.sh (by decide), q⟩
theorem eqD {x y : V} {d e : PyData} {Q : VK} (h1 : Dp K H x d) (h2 : Dp K H y e) (f1 : Flat 60 d) (f2 : Flat 60 e) (q : Q (.bl (PyData.eqv d e)) H) : rEqD K x y H Q := ⟨d, e, h1, h2, f1.sh (by decide), f2.sh (by decide), q⟩
end
end KpR

namespace KpR
open PySem PySem.Spec PySem.Calls PyProof.Rows L2
section
variable {prog : Program} {w : World} {K : PySem.W.Frag} {x D : Addr}
/-- what a class says of itself on its instances, whatever fields they have -/
theorem fo_class {od : Option Obj} (hc : (PySem.W.clsIn K D).isSome = true) (ha : PySem.W.findIn K (.ref D) "__class__" = some (some (.builtin "object.__class__"))) (hg : PySem.W.specialIn K (.builtin "object.__class__") "__get__" = some (some (.builtin "getset_descriptor.__get__"))) (ht : PySem.W.takesIn K (.builtin "object.__class__") = some true) :
    PySem.W.findObj K D od "__class__" = some (.bind (.builtin "getset_descriptor.__get__") (.builtin "object.__class__")) := by
  obtain ⟨cd, q⟩ := Option.isSome_iff_exists.mp hc
  unfold PySem.W.findObj
  rw [q, Option.bind_some, ha, Option.bind_some]
  simp [hg, ht]
theorem exc_class (C : ExcC K D) {A : Around} {E : Value → Shared → Prop} {Q : Option Value → Shared → Prop} {s : Shared} {ox : Obj} {od : Option Obj} (X : K.In s.heap) (J : PySem.W.InstAt s.heap x ox D od) (q : Q (some (.ref D)) { s with toks := s.toks + 1 }) :
    wpAny (model prog w) A (getAttr? (.ref x) "__class__") Q E s := by
  have fo : PySem.W.findObj K D od "__class__" = _ := fo_class (by obtain ⟨cd, hc, _⟩ := PySem.W.any_some C.hd; rw [hc]; rfl) C.ha C.hn C.ht
  obtain ⟨hp, sg, sd, st, so⟩ := s
  have ty := J.type (M := model prog w)
  have l1 := PySem.W.looks_findIn (M := model prog w) X C.hg
  have l2 := PySem.W.looks_findIn (M := model prog w) X C.hk
  have l3 := PySem.W.looks_find (M := model prog w) X J fo
  have isx : PySem.W.Looks (model prog w) hp (isInstance (.ref x) (.type "BaseException")) true := ty.andThen (PySem.W.looks_subIn X C.hs)
  have n1 : (Value.builtin "BaseException.__getattribute__" == Value.builtin "object.__getattribute__") = false := by decide +kernel
  have n2 : (onTheHeap (Value.ref D) && Value.builtin "BaseException.__getattribute__" == Value.builtin "object.__getattribute__") = false := by rw [n1]; rfl
  have n3 : (false && onTheHeap (Value.builtin "BaseException.__getattribute__")) = false := rfl
  unfold getAttr? getAttrBy? getAttrBy
  refine wpAny_bind (wpAny_mkText (wpAny_bind (wpAny_attempt (wpAny_holding (wpAny_bind (ty.at (wpAny_bind (l1.at ?_))))))))
  refine (congrArg (fun c : Bool => wpAny (model prog w) A (if c = true then _ else _) _ _ _) n2).mpr ?_
  rw [if_neg Bool.false_ne_true]
  unfold getAttrByItsOwn hookBefore
  refine wpAny_bind ?_
  rw [if_pos (show onTheHeap (Value.ref D) = true from rfl)]
  refine l2.at (wpAny_bind (wpAny_attempt (wpAny_holding ?_)))
  unfold callGetattribute
  rw [n3, if_neg Bool.false_ne_true]
  unfold boundAndCalled
  rw [PySem.F.excAttr_ValueError.ga.bind (.ref x)]
  refine wpAny_bind (wpAny_pure (show wpAny _ _ (call (.builtin "BaseException.__getattribute__") [.ref x, .str "__class__" st]) _ _ _ from ?_))
  refine wpAny_call (codeAny_call_builtin PySem.F.excAttr_ValueError.ga.plain PySem.F.entry_bexc_ga ?_)
  refine @PySem.W.check_slot (model prog w) _ _ ⟨hp, sg, sd, st + 1, so⟩ "BaseException.__getattribute__" "BaseException" "__getattribute__" (.ref x) [.str "__class__" st] [] _ (by decide +kernel) (by decide +kernel) isx (PySem.F.args_bexc_ga (.ref x) (.str "__class__" st)) ?_
  unfold Builtin.«object.__getattribute__»
  refine wpAny_bind (wpAny_of_eq (a := ((Value.ref x : Value), [Value.str "__class__" st])) (by first | rfl | (simp only [slotArgs]; rfl)) (wpAny_bind (wpAny_pure (wpAny_bind (ty.at (wpAny_bind (l3.at ?_)))))))
  show wpAny _ _ (holding [Value.builtin "object.__class__"] (call (.builtin "getset_descriptor.__get__") [.builtin "object.__class__", .ref x, .ref D]) >>= ret) _ _ _
  refine wpAny_bind (wpAny_holding (wpAny_call (PySem.W.class_get (s := ⟨hp, sg, sd, st + 1, so⟩) (ox := ox) (od := od) X J C.hm (wpAny_pure ?_))))
  show wpAny _ _ (handedOut (.ref D)) _ _ _
  rw [PySem.W.handedOut_of (v := .ref D) rfl]
  first
    | exact wpAny_pure (wpAny_pure q)
    | exact wpAny_pure q
    | exact wpAny_pure (wpAny_bind (wpAny_pure (wpAny_pure q)))
theorem kit_exd (C : ExcC K D) : PySem.W.KitX K (.ref x) (.ref D) (fun h => ∃ ox od, PySem.W.InstAt h x ox D od) := by
  obtain ⟨cdD, hcD, _⟩ := PySem.W.any_some C.hd
  have at_ : ∃ (o : Obj) (cd : ClassData), K.lookup D = some o ∧ o.data = .cls cd := by
    unfold PySem.W.clsIn at hcD
    split at hcD
    · rename_i ho
      exact ⟨_, _, ho, rfl⟩
    · cases hcD
  obtain ⟨o, cd, ho, hd⟩ := at_
  refine ⟨fun _ _ _ ⟨_, _, J⟩ => J.type, fun _ _ X _ => ?_, fun h tp dd its n sl X e => ?_, fun X ⟨_, _, J⟩ q => exc_class C X J q⟩
  · intro A' Q' E' s' k q
    unfold isType loadHead
    obtain ⟨oc, od, oda, osl⟩ := o
    cases hd
    exact wpAny_bind (wpAny_loadPart (k _ _ (X _ _ ho)) (wpAny_pure q))
  · refine Bool.eq_false_iff.mpr fun z => ?_
    obtain rfl := Value.ref.inj (beq_iff_eq.mp z)
    have z := (X _ _ ho).symm.trans e
    cases z
    cases hd
end
/-- isinstance(e, c), e the exception that the suite holds, of whatever fields -/
def rIsX (K : PySem.W.Frag) (a D : Addr) (cls : Value) (d : Option Addr) : List V → Hp → VK → Prop := fun xs H Q => ∃ (c : V) (cv : Value) (b : Bool) (dd : Addr) (fs : List (Str × V)), xs = [.ref a, c] ∧ (∀ u, RelV c u → u = cv) ∧ PySem.W.kitOne K (.ref D) cv = some b ∧ cls = .ref D ∧ d = some dd ∧ H dd = some (.xd fs) ∧ Q (.bl b) H
theorem call_isX {X : Cx} {a D : Addr} {oe : Obj} {d : Option Addr} {pn : List (Addr × Obj)} {cls : Value} (C : ExcC X.K D) (hz : Zc cls d oe) (hf : ∃ vs, oe.data = .fields vs) :
    CallR (X.suite a ((a, oe) :: pn)) (.builtin "isinstance") (rIsX X.K a D cls d) := by
  intro pins s σ H xs us Q I r h
  obtain ⟨c, cv, b, dd, fs, rfl, hcv, e, rfl, rfl, hdd, q⟩ := h
  cases r with
  | cons rx rr =>
    cases rr with
    | cons rt rr =>
      cases rr
      cases rx
      obtain rfl := hcv _ rt
      obtain ⟨hget, _⟩ := I.pin (a, oe) (List.mem_append_left _ List.mem_cons_self)
      obtain ⟨vs, hv⟩ := hf
      obtain ⟨mA, hns, _⟩ : ObjOk X.prog X.w H s.heap dd (.xd fs) := I.hok dd _ hdd
      obtain ⟨od, ho, _⟩ := lookIn_ns hns
      have J : PySem.W.InstAt s.heap a oe D (some od) := ⟨hget, hz.1, by unfold PySem.W.notCls; rw [hv] <;> rfl, by rw [hz.2]; exact ho⟩
      exact PySem.W.kia_one (kit_exd C) I.kIn ⟨_, _, J⟩ e (fun z => nomatch z) fun tk => ⟨.bl b, H, I.kept (t' := tk) fun _ _ z => z, rfl, q⟩
end KpR

namespace KpR
open PySem PySem.Spec PySem.Calls PyProof.Rows L2
/-- C(e, ..) held as a value -/
def tOexV (C : Addr) (sp : Sp) (ta : TA) : TE := fun σ H Q => ta σ H fun vs H1 => vs.length ≤ 1000 ∧ ∀ a, H1 a = none → sp (.ref a :: vs) (upd H1 a (exo a C none)) (fun v H2 => v = .non ∧ Q (.ref a) H2) (fun _ _ _ => False)
section
variable {X : Cx} {e : Expr} {es : List Expr} {ta : TA} {p pos : Pos}
theorem pe_oexV {CX : CXT} {x : Str} {C fI : Addr} {k : Nat} {fd : FuncData} {ps : List Str} {sp : Sp} (T : OexC X.K C) (iC : PySem.W.findIn X.K (.ref C) "__init__" = some (some (.ref fI))) (tI : PySem.W.typeIn X.K (.ref fI) = some (.type "function"))
    (F1 : FnOk X.prog X.w X.K X.mg X.base CX k fI fd ps sp) (hr : Room (k + 1) X.A) (hb : Binds X.K fd ps []) (hx : Passes CX X (fun _ _ _ => False)) (hg : Gl X x) (hm : X.mg x = some (.ref C)) (ha : PA X (e :: es) ta)
    (hdb : (x == ("__debug__" : Str)) = false := by decide) (he : starEach (e :: es) X.env = (false, eval e X.env) :: starEach es X.env := by rfl) (hpl : (backTo pos (starEach es X.env)).any (·.1) = false := by rfl) :
    PE X (.Call (.Name x p) (e :: es) [] pos) (tOexV C sp ta) := by
  refine ⟨fun pins s σ H Q I h => ?_⟩
  obtain ⟨nm, q, N, bs, bm, sn, sub, ab, col, dd, k0, k1, k2, k3, k5, hC, hbm⟩ := T.cls
  refine wpAny_Call_Name_kw (ld_glob I hg hm ?_ hdb)
  refine PySem.W.callWith_K (h₀ := X.base) I.ok.mod.kin T.kC (thn (ha.run pos pins s σ H _ I h) fun us s1 ⟨vs, H1, I1, r1, hz, q1⟩ => ⟨I1.kIn, ?_⟩) he hpl
  obtain ⟨hp, g, dr, tk, os⟩ := s1
  -- the tuple of the arguments, then the exception
  generalize hh : (hp.push (PySem.W.kdv_tup us)).push (PySem.HandSPX.excO C hp.objs.size) = hp2
  have old : ∀ b o, hp.get? b = some o → hp2.get? b = some o := fun b o z => by
    rw [← hh]
    exact Heap.get?_push_of_some _ (Heap.get?_push_of_some _ z)
  have new : hp2.get? (hp.objs.size + 1) = some (PySem.HandSPX.excO C hp.objs.size) := by
    rw [← hh]
    heap_get
  have none1 : H1 (hp.objs.size + 1) = none := I1.hok.fresh (Nat.le_succ _)
  have I2 : Inv X pins σ (upd H1 (hp.objs.size + 1) (exo (hp.objs.size + 1) C none)) ⟨hp2, g, dr, tk, os⟩ := I1.laid (t' := tk) (a := hp.objs.size + 1) old (Nat.le_succ _) (exo_ok new)
  have want := q1 _ none1
  have r2 : Vals (V.ref (hp.objs.size + 1) :: vs) (Value.ref (hp.objs.size + 1) :: us) := .cons rfl r1
  have many : (Value.ref (hp.objs.size + 1) :: us).length = ps.length := r2.length.symm.trans (F1.len _ _ _ _ want)
  have few : us.length ≤ sizeLine := by
    rw [← Paired.length r1, sizeLine_eq]
    omega
  have bnd := hb _ (Value.ref (hp.objs.size + 1) :: us) I2.kIn (by rw [List.append_nil]; exact many)
  rw [List.append_nil] at bnd
  subst hh
  refine wpAny_call (PySem.HandSPX.call_own F.excBase_ValueError (fun Y => PySem.HandSPX.refsVE_contains Y bm hbm) (I1.kIn _ _ hC) (PySem.W.looks_findIn I1.kIn iC) (fun self => PySem.W.bind_fn I1.kIn self tI) few
    (codeAny_mono (F1.run _ X.stack _ _ ⟨Value.ref (hp.objs.size + 1) :: us, []⟩ (Value.ref (hp.objs.size + 1) :: us) _ _ (fun _ _ _ => False) (hr.make C us []) (I2.env0.make C us []) bnd r2 want) fun r s' got => ?_))
  match r, got with
  | .error er, got => exact hx pins σ _ _ er s' I2 got
  | .ok .next, got => exact got.elim
  | .ok .brk, got => exact got.elim
  | .ok .cont, got => exact got.elim
  | .ok (.ret u), got =>
    obtain ⟨v, H2, I3, rv, ev, q2⟩ := I2.after got
    subst ev
    exact ⟨rv, V.ref (hp.objs.size + 1), H2, I3, rfl, q2⟩
/-- e.f of a held exception -/
def tXfV (K : PySem.W.Frag) (f : Str) (te : TE) : TE := fun σ H Q => te σ H fun x H1 => ∃ (a C dx : Addr) (fs : List (Str × V)) (v : V), x = .ref a ∧ XfC K C ∧ PySem.W.findIn K (.ref C) f = some none ∧ H1 a = some (exo a C (some dx)) ∧ H1 dx = some (exd dx fs) ∧ fs.lookup f = some v ∧ Q v H1
theorem inst_exo {C a dx : Addr} {P : Program} {w : World} {H : Hp} {h : Heap} {fs : List (Str × V)} (hok : HOk P w H h) (ea : H a = some (exo a C (some dx))) (ed : H dx = some (exd dx fs)) :
    ∃ (oe : Obj) (od : Obj) (mA : Str → Option Value), PySem.W.InstAt h a oe C (some od) ∧ (∀ f, PySem.W.lookIn f od = some (mA f)) ∧ ∀ f, RelO (fs.lookup f) (mA f) := by
  obtain ⟨t1, ho⟩ := exo_at hok ea
  obtain ⟨mA, hns, rel⟩ := exd_at hok ed
  obtain ⟨od, h1, h2⟩ := lookIn_ns hns
  exact ⟨_, od, mA, ⟨ho, rfl, rfl, h1⟩, h2, rel⟩
theorem pe_xfV {n : Str} {te : TE} (he : PE X e te) (hb : attributeBase e n X.env (eval e X.env) = eval e X.env := by rfl) : PE X (.Attribute e n pos) (tXfV X.K n te) := by
  refine ⟨fun pins s σ H Q I h => ?_⟩
  refine attr_of hb (thn (he.run pins s σ H _ I h) fun u s1 hh => ?_)
  obtain ⟨x, H1, I1, rx, a, C, dx, fs, v, ex, T, hno, ea, ed, l, q⟩ := hh
  subst ex
  obtain rfl : u = Value.ref a := rx
  obtain ⟨oe, od, mA, J, look, rel⟩ := inst_exo I1.hok ea ed
  obtain ⟨u, hu, ru⟩ := RelO.some_of (v := v) (o := mA n) (by rw [← l]; exact rel n)
  exact HandSPX.exc_get I1.kIn J T.ga T.gg T.exC (PySem.W.findObj_own T.hdC hno rfl (by rw [look, hu])) (handed_of ru) ⟨v, H1, I1.tok _, ru, q⟩
/-- an exception held: with a dict or without one -/
def HeldAt (H : Hp) (a C : Addr) (fs : List (Str × V)) : Prop := (∃ dx, H a = some (exo a C (some dx)) ∧ H dx = some (exd dx fs)) ∨ (H a = some (exo a C none) ∧ fs = [])
theorem inst_held {C a : Addr} {P : Program} {w : World} {H : Hp} {h : Heap} {fs : List (Str × V)} (hok : HOk P w H h) (k : HeldAt H a C fs) :
    ∃ (oe : Obj) (od : Option Obj), PySem.W.InstAt h a oe C od ∧ ∀ m : Str, fs.lookup m = none → PySem.W.shadowIn od m = some false := by
  rcases k with ⟨dx, ea, ed⟩ | ⟨ea, e⟩
  · obtain ⟨oe, od, mA, J, look, rel⟩ := inst_exo hok ea ed
    refine ⟨oe, some od, J, fun m l => ?_⟩
    have hn : mA m = none := RelO.none_of (by rw [← l]; exact rel m)
    show (PySem.W.lookIn m od).map (·.isSome) = some false
    rw [look, hn]
    rfl
  · obtain ⟨t1, ho⟩ := exo_at hok ea
    exact ⟨_, none, ⟨ho, rfl, rfl, trivial⟩, fun _ _ => rfl⟩
/-- isinstance(e, c) of a held exception -/
def rIsV (K : PySem.W.Frag) : List V → Hp → VK → Prop := fun xs H Q => ∃ (a D : Addr) (fs : List (Str × V)) (c : V) (cv : Value) (b : Bool), xs = [.ref a, c] ∧ ExcC K D ∧ HeldAt H a D fs ∧ (∀ u, RelV c u → u = cv) ∧ PySem.W.kitOne K (.ref D) cv = some b ∧ Q (.bl b) H
theorem call_isV : CallR X (.builtin "isinstance") (rIsV X.K) := by
  intro pins s σ H xs us Q I r h
  obtain ⟨a, D, fs, c, cv, b, rfl, C, ea, hcv, kb, q⟩ := h
  match us, r with
  | [_, u], .cons rx (.cons rt .nil) =>
    cases rx
    obtain rfl := hcv _ rt
    obtain ⟨oe, od, J, _⟩ := inst_held I.hok ea
    exact PySem.W.kia_one (kit_exd C) I.kIn ⟨_, _, J⟩ kb (fun z => nomatch z) fun tk => ⟨.bl b, H, I.kept (t' := tk) fun _ _ z => z, rfl, q⟩
/-- the def that a held exception's class has by a name -/
theorem meth_exc {K : PySem.W.Frag} {prog : Program} {w : World} {A : Around} {E : Value → Shared → Prop} {s : Shared} {x C f : Addr} {ox : Obj} {od : Option Obj} {name : Str} {pl : Sem Bool} {Q : Value × List Value → Shared → Prop} (kin : K.In s.heap) (J : PySem.W.InstAt s.heap x ox C od) (T : XfC K C)
    (at_ : PySem.W.findIn K (.ref C) name = some (some (.ref f))) (ty : PySem.W.typeIn K (.ref f) = some (.type "function")) (no : PySem.W.shadowIn od name = some false) (q : Q (.ref f, [.ref x]) s) : wpAny (model prog w) A (getMethod (.ref x) name pl) Q E s := by
  have can : Manifest.canonical "BaseException.__getattribute__" = "object.__getattribute__" := by decide +kernel
  have l1 := PySem.W.looks_findIn (M := model prog w) kin T.ga
  have l2 := PySem.W.looks_findIn (M := model prog w) kin T.gg
  have l3 := PySem.W.looks_findIn (M := model prog w) kin at_
  have l4 := PySem.W.looks_typeIn (M := model prog w) kin ty
  unfold getMethod specialOf
  refine wpAny_bind (wpAny_bind (J.type.here (l1.here ?_)))
  dsimp only
  rw [can, if_neg (by decide)]
  refine wpAny_bind (wpAny_bind (J.type.here (l2.here ?_)))
  refine wpAny_bind (wpAny_bind (J.type.here (l3.here (wpAny_bind (l4.here ?_)))))
  rw [if_neg (by decide +kernel)]
  refine wpAny_bind (wpAny_loadPart J.at_ ?_)
  have hd := J.dict
  revert hd
  cases ox.dict with
  | none => exact fun _ => wpAny_bind (wpAny_rule (wpAny_pure q))
  | some dx =>
    match od, no with
    | none, _ => exact fun z => z.elim
    | some o, no =>
      intro hd
      obtain ⟨r, l, e⟩ := Option.map_eq_some_iff.mp no
      refine wpAny_bind (wpAny_bind (wpAny_loadPart hd ?_))
      rw [PySem.W.nsLook_of l]
      refine wpAny_pure ?_
      rw [e]
      exact wpAny_bind (wpAny_rule (wpAny_pure q))
/-- e.m() of a held exception, whatever its class -/
def tTold (P : Program) (w : World) (K : PySem.W.Frag) (mg : Str → Option Value) (base : Heap) (k : Nat) (m : Str) (te : TE) : TE := fun σ H Q => te σ H fun x H1 => ∃ (a C f : Addr) (fs : List (Str × V)) (fd : FuncData) (y : Str) (sp : Sp), x = .ref a ∧ XfC K C ∧ Meth K C m f ∧ HeldAt H1 a C fs ∧ fs.lookup m = none ∧
  FnOk P w K mg base CX0 k f fd [y] sp ∧ Binds K fd [y] [] ∧ sp [.ref a] H1 Q E0
theorem pe_told {pl : Sem Bool} {k : Nat} {m : Str} {o : Expr} {te : TE} {apos : Pos} (he : PE X o te) (hr : Room k X.A)
    (ht : eval (.Call (.Attribute o m apos) [] [] pos) X.env = (do
      let ov ← eval o X.env
      standAt apos.atName
      let (f, first) ← holding [ov] (getMethod ov m pl)
      callWith pos f first (backTo pos (starEach [] X.env)) (backToKw pos (keywordEach [] X.env))) := by rfl) :
    PE X (.Call (.Attribute o m apos) [] [] pos) (tTold X.prog X.w X.K X.mg X.base k m te) := by
  refine ⟨fun pins s σ H Q I h => ?_⟩
  refine PySem.W.methodCall_KW (pl := pl) (thn (he.run pins s σ H _ I h) fun u s1 ⟨x, H1, I1, rx, a, C, f, fs, fd, y, sp, ex, T, hm, ea, l, F1, hb, q⟩ => ?_) ht
  subst ex
  obtain rfl : u = Value.ref a := rx
  obtain ⟨oe, od, J, no⟩ := inst_held I1.hok ea
  refine meth_exc I1.kIn J T hm.at_ (beq_iff_eq.mp hm.fn) (no m l) ?_
  exact PySem.W.callWith_K0 (first := [.ref a]) I1.kIn hm.kp (run_fn (us := [.ref a]) (vs := [.ref a]) F1 hr hb .nil pass0 I1 (.cons rfl .nil) q)
end
end KpR

namespace KpR
open PySem PySem.Spec PySem.Calls PySem.HandSPX
section
variable {prog : Program} {w : World} {A : Around} {E : Value → Shared → Prop} {R : Result → Shared → Prop} {h : Heap} {g : Array GenState} {d : Drawn} {t : Nat} {os : OsState} {M : Model}
variable {B newId initId : String} {bmB : List Value} {nm q : Str} {C N : Addr} {bs bm : List Value} {hdct : Bool} {sn : List Str} {sub : List Value} {ab : Bool} {col : Option Bool} {dd : Option Addr} {k0 k1 k2 k3 k5 : Option Value} {kws : List (Str × Value)}
theorem kw_check_new (F : ExcBaseFacts B newId initId bmB) (hT : ∀ X : String, bm.contains (.type X) = bmB.contains (.type X)) {Q : Unit → Shared → Prop}
    (hC : h.get? C = some (excClassObj nm q C N bs bm hdct sn sub ab col dd k0 k1 k2 k3 k5 newId)) (hq : Q () ⟨h, g, d, t, os⟩) : wpAny M A (checkBuiltinCall newId ⟨[.ref C], kws⟩) Q E ⟨h, g, d, t, os⟩ := by
  have isB : (Value.ref C :: bm).contains (.type B) = true := by rw [List.contains_cons, hT, F.hasB, Bool.or_true]
  have star := F.noStar
  simp only [checkBuiltinCall, F.newKind, F.newSplit, F.newRow]
  repeat (first | refine wpAny_loadPart_at hC ?_ | (refine wpAny_isSubtype_exc hC ?_; rw [isB]) | refine wpAny_staticBase_exc hC ?_ | refine wpAny_madeBy_exc hC ?_ | simp only [bne_self_eq_false, Bool.false_eq_true, if_false] | wp_step)
  exact hq
theorem kw_check_call {Q : Unit → Shared → Prop} (hC : h.get? C = some (excClassObj nm q C N bs bm hdct sn sub ab col dd k0 k1 k2 k3 k5 newId))
    (hq : Q () ⟨h, g, d, t, os⟩) : wpAny M A (checkBuiltinCall "type.__call__" ⟨[.ref C], kws⟩) Q E ⟨h, g, d, t, os⟩ := by
  have isT := tc_sub
  have ty : (⟨h, g, d, t, os⟩ : Shared).TypeIs (.ref C) "type" := ⟨_, hC, rfl⟩
  simp only [checkBuiltinCall, tc_kind, tc_split]
  repeat (any_goals (first | assumption | with_reducible refine wpAny_loadPart_at hC ?_ | with_reducible refine wpAny_onRaise ?_ | with_reducible refine wpAny_map ?_ | wp_step))
theorem kw_new (F : ExcBaseFacts B newId initId bmB) (hT : ∀ X : String, bm.contains (.type X) = bmB.contains (.type X))
    (hC : h.get? C = some (excClassObj nm q C N bs bm hdct sn sub ab col dd k0 k1 k2 k3 k5 newId))
    (hq : R (.ok (.ret (.ref (h.objs.size + 1)))) ⟨(h.push (PySem.W.kdv_tup [])).push (excO C h.objs.size), g, d, t, os⟩) :
    codeAny (model prog w) A (.builtin newId ⟨[.ref C], kws⟩) R ⟨h, g, d, t, os⟩ := by
  have ends := F.ends
  have isB : (Value.ref C :: bm).contains (.type B) = true := by rw [List.contains_cons, hT, F.hasB, Bool.or_true]
  have noA : (Value.ref C :: bm).contains (.type "AttributeError") = false := by rw [List.contains_cons, hT, F.noAttr]; rfl
  have noN : (Value.ref C :: bm).contains (.type "NameError") = false := by rw [List.contains_cons, hT, F.noName]; rfl
  refine codeAny_builtinAt F.entry ?_
  unfold Builtin.«BaseException.__new__»
  refine wpAt_bind ?_
  show wpAt _ _ _ (stack >>= _) _ _ _
  refine wpAt_bind (wpAt_stack fun p below => wpAt_of_wpAny ?_)
  wp_walk
  refine wpAt_of_wpAny ?_
  rw [F.owner]
  repeat (first | with_reducible refine wpAny_madeHere_exc F.canon hC ?_ | with_reducible refine wpAny_loadPart_at hC ?_ | (with_reducible refine wpAny_isSubtype_exc hC ?_; first | rw [isB] | rw [noA] | rw [noN]) | wp_step)
  show R _ _
  rw [Heap.size_push]
  exact hq
theorem kw_type_call (F : ExcBaseFacts B newId initId bmB) (hT : ∀ X : String, bm.contains (.type X) = bmB.contains (.type X)) {fI : Addr} {Q : Fin → Shared → Prop}
    (hC : h.get? C = some (excClassObj nm q C N bs bm hdct sn sub ab col dd k0 k1 k2 k3 k5 newId))
    (hi : PySem.W.Looks (model prog w) h (typeLookup (.ref C) "__init__") (some (.ref fI))) (hb : ∀ self, PySem.W.Looks (model prog w) h (bindSpecial (.ref fI) self) (.ref fI, [self]))
    (hq : codeAny (model prog w) A (.call (.ref fI) ⟨[.ref (h.objs.size + 1)], kws⟩)
      (fun r s' => match r with | .ok (.ret v) => v = .none ∧ Q (.done (.ret (.ref (h.objs.size + 1)))) s' | .ok _ => False | .error e => E e s')
      ⟨(h.push (PySem.W.kdv_tup [])).push (excO C h.objs.size), g, d, t, os⟩) :
    wpAny (model prog w) A (Builtin.«type.__call__» ⟨[.ref C], kws⟩) Q E ⟨h, g, d, t, os⟩ := by
  repeat (first | with_reducible refine wpAny_loadPart_at hC ?_ | with_reducible refine wpAny_madeBy_exc hC ?_ | wp_step)
  refine codeAny_call_builtin_code (Code.quiet_builtin _ F.quiet) (kw_check_new F hT hC ?_)
  refine kw_new F hT hC ?_
  show wpAny _ _ _ _ _ _
  have old : ∀ b o, h.get? b = some o → ((h.push (PySem.W.kdv_tup [])).push (excO C h.objs.size)).get? b = some o := fun b o e => Heap.get?_push_of_some _ (Heap.get?_push_of_some _ e)
  have here : ((h.push (PySem.W.kdv_tup [])).push (excO C h.objs.size)).get? (h.objs.size + 1) = some (excO C h.objs.size) := by heap_get
  have hC1 := old _ _ hC
  have own : (Value.ref C :: bm).contains (.ref C) = true := by simp
  have i1 := hi.keeps old
  have b1 := (hb (.ref (h.objs.size + 1))).keeps old
  unfold isInstance
  repeat (first | with_reducible refine wpAny_loadPart_at here ?_ | (with_reducible refine wpAny_isSubtype_exc hC1 ?_; rw [own]) | wp_step)
  show wpAny _ _ (typeLookup (.ref C) _) _ _ _
  refine i1.at (wpAny_holding (wpAny_bind (b1.at (wpAny_bind (wpAny_call (codeAny_mono hq fun r s' z => ?_))))))
  match r, z with
  | .error e, z => exact z
  | .ok .next, z => exact z.elim
  | .ok .brk, z => exact z.elim
  | .ok .cont, z => exact z.elim
  | .ok (.ret v), ⟨e, z⟩ =>
    subst e
    first
      | exact wpAny_pure (wpAny_pure z)
      | (wp_walk; exact z)
theorem kw_call (F : ExcBaseFacts B newId initId bmB) (hT : ∀ X : String, bm.contains (.type X) = bmB.contains (.type X)) {fI : Addr}
    (hC : h.get? C = some (excClassObj nm q C N bs bm hdct sn sub ab col dd k0 k1 k2 k3 k5 newId))
    (hi : PySem.W.Looks (model prog w) h (typeLookup (.ref C) "__init__") (some (.ref fI))) (hb : ∀ self, PySem.W.Looks (model prog w) h (bindSpecial (.ref fI) self) (.ref fI, [self]))
    (hq : codeAny (model prog w) (A.under (.builtin "type.__call__" ⟨[.ref C], kws⟩)) (.call (.ref fI) ⟨[.ref (h.objs.size + 1)], kws⟩) (PySem.W.InitBack (h.objs.size + 1) R)
      ⟨(h.push (PySem.W.kdv_tup [])).push (excO C h.objs.size), g, d, t, os⟩) :
    codeAny (model prog w) A (.call (.ref C) ⟨[], kws⟩) R ⟨h, g, d, t, os⟩ := by
  have f1 := tc_lookup
  have f2 := tc_bind (.ref C)
  have ty : (⟨h, g, d, t, os⟩ : Shared).TypeIs (.ref C) "type" := ⟨_, hC, rfl⟩
  refine codeAny_of_tree ?_
  show wpAny _ _ (callAny (.ref C) _) _ _ _
  repeat (any_goals (first | assumption | with_reducible refine wpAny_loadPart_at hC ?_ | wp_step))
  refine ⟨rfl, codeAny_call_builtin_at (Code.quiet_builtin _ (by decide +kernel)) entry_typeCall (kw_check_call hC (kw_type_call F hT hC hi hb ?_))⟩
  refine codeAny_mono hq fun r s' z => ?_
  match r, z with
  | .error e, z => exact z
  | .ok .next, z => exact z
  | .ok .brk, z => exact z
  | .ok .cont, z => exact z
  | .ok (.ret v), z => exact z
end
end KpR

namespace KpR
open PySem PySem.Spec PySem.Calls PyProof.Rows L2
section
variable {X : Cx} {x : Str} {p pos : Pos}
/-- C(k = v, ..) held as a value -/
def tOexK (C : Addr) (n : Nat) (sp : Sp) (gV : List V → List V → List V) (tk : TA) : TE := fun σ H Q => tk σ H fun zs H1 => zs.length = n ∧ ∀ a, H1 a = none → sp (gV [.ref a] zs) (upd H1 a (exo a C none)) (fun v H2 => v = .non ∧ Q (.ref a) H2) (fun _ _ _ => False)
theorem pe_oexK {CX : CXT} {C fI : Addr} {k : Nat} {fd : FuncData} {ps ks : List Str} {sp : Sp} {g : List Value → List Value → List Value} {gV : List V → List V → List V} {kws : List Keyword} {tk : TA} (T : OexC X.K C) (iC : PySem.W.findIn X.K (.ref C) "__init__" = some (some (.ref fI))) (tI : PySem.W.typeIn X.K (.ref fI) = some (.type "function"))
    (F1 : FnOk X.prog X.w X.K X.mg X.base CX k fI fd ps sp) (hr : Room (k + 1) X.A) (hb : KBn X.K fd ps 1 ks g gV) (hx : Passes CX X (fun _ _ _ => False)) (hg : Gl X x) (hm : X.mg x = some (.ref C)) (hkw : PK X kws tk)
    (hall : (backToKw pos (keywordEach kws X.env)).all (·.1.isSome) = true := by rfl) (hks : (backToKw pos (keywordEach kws X.env)).filterMap (·.1) = ks := by rfl) (hdb : (x == ("__debug__" : Str)) = false := by decide)
    (hpl : ((backTo pos (starEach [] X.env)).any (·.1) || (backToKw pos (keywordEach kws X.env)).any (·.1.isNone)) = false := by rfl) :
    PE X (.Call (.Name x p) [] kws pos) (tOexK C ks.length sp gV tk) := by
  refine ⟨fun pins s σ H Q I h => ?_⟩
  obtain ⟨nm, q, N, bs, bm, sn, sub, ab, col, dd, k0, k1, k2, k3, k5, hC, hbm⟩ := T.cls
  refine wpAny_Call_Name_kw (ld_glob I hg hm ?_ hdb)
  refine PySem.W.callWith_KW0 (h₀ := X.base) I.ok.mod.kin T.kC hall ?_ hpl
  refine thn (hkw.run pos pins s σ H _ I h) fun ws s1 ⟨zs, H1, I1, rz, hz, q1⟩ => ⟨I1.kIn, ?_⟩
  rw [hks]
  obtain ⟨hp, gn, dr, tok, os⟩ := s1
  have old : ∀ b o, hp.get? b = some o → ((hp.push (PySem.W.kdv_tup [])).push (PySem.HandSPX.excO C hp.objs.size)).get? b = some o := fun b o z => Heap.get?_push_of_some _ (Heap.get?_push_of_some _ z)
  have new : ((hp.push (PySem.W.kdv_tup [])).push (PySem.HandSPX.excO C hp.objs.size)).get? (hp.objs.size + 1) = some (PySem.HandSPX.excO C hp.objs.size) := by heap_get
  have none1 : H1 (hp.objs.size + 1) = none := I1.hok.fresh (Nat.le_succ _)
  have I2 : Inv X pins σ (upd H1 (hp.objs.size + 1) (exo (hp.objs.size + 1) C none)) ⟨(hp.push (PySem.W.kdv_tup [])).push (PySem.HandSPX.excO C hp.objs.size), gn, dr, tok, os⟩ := I1.laid (t' := tok) (a := hp.objs.size + 1) old (Nat.le_succ _) (exo_ok new)
  have want := q1 _ none1
  have r1 : Vals [V.ref (hp.objs.size + 1)] [Value.ref (hp.objs.size + 1)] := .cons rfl .nil
  refine wpAny_call (kw_call F.excBase_ValueError (fun Y => PySem.HandSPX.refsVE_contains Y bm hbm) (I1.kIn _ _ hC) (PySem.W.looks_findIn I1.kIn iC) (fun self => PySem.W.bind_fn I1.kIn self tI)
    (codeAny_mono (F1.run _ X.stack _ _ ⟨[Value.ref (hp.objs.size + 1)], ks.zip ws⟩ (g [Value.ref (hp.objs.size + 1)] ws) _ _ (fun _ _ _ => False) (hr.make C [] (ks.zip ws)) (I2.env0.make C [] (ks.zip ws)) (hb.to _ [Value.ref (hp.objs.size + 1)] ws I2.kIn rfl (rz.length.symm.trans hz)) (hb.rel r1 rz) want) fun r s' got => ?_))
  match r, got with
  | .error er, got => exact hx pins σ _ _ er s' I2 got
  | .ok .next, got => exact got.elim
  | .ok .brk, got => exact got.elim
  | .ok .cont, got => exact got.elim
  | .ok (.ret u), got =>
    obtain ⟨v, H2, I3, rv, ev, q2⟩ := I2.after got
    subst ev
    exact ⟨rv, V.ref (hp.objs.size + 1), H2, I3, rfl, q2⟩
/-- C(), C without an __init__ of its own, held as a value -/
theorem pe_exc0V {C : Addr} {bmB : List Value} {B newId initId : String} (F1 : ExcBaseFacts B newId initId bmB) (q : PySem.W.excIn X.K C bmB newId = true) (gC : X.mg x = some (.ref C)) (kC : PySem.W.keepIn X.K (.ref C) = true) (hg : Gl X x) (hdb : (x == ("__debug__" : Str)) = false := by decide) :
    PE X (.Call (.Name x p) [] [] pos) (fun _ H Q => ∀ a, H a = none → Q (.ref a) (upd H a (exo a C none))) := by
  refine ⟨fun pins s σ H Q I h => ?_⟩
  refine wpAny_Call_Name_kw (ld_glob I hg gC ?_ hdb)
  refine PySem.W.callWith_K0 (first := []) I.kIn kC ?_
  obtain ⟨bm, N, nm, qn, bs, hdct, sn, sub, ab, col, dd, k0, k1, k2, k3, k5, mN, hC, hN, hni, T⟩ := exc_obj I.kIn q
  refine wpAny_call_exc_subT F1 T hC hN hni (fun h' a hm => ?_) (by show 0 ≤ sizeLine; omega)
  have hn : H a = none := I.hok.gone hm.new
  obtain ⟨t, ht, _, _⟩ := hm.there
  exact ⟨.ref a, upd H a (exo a C none), I.laidN hm.keeps hm.new hn (exo_ok ht), rfl, h a hn⟩
end
end KpR




namespace Kp
open PySem PySem.Spec PyProof.Rows L2 KpR
def topS (i : Nat) : Stmt := PySem.Challenge.pw_wholedrops_k05_refusals_made_by_hand.main.body.getD i (.Pass ⟨0, 0, 0, 0⟩)
abbrev sBadCountInit : Stmt := inClass (topS 2) 0
abbrev sNoJarInit : Stmt := inClass (topS 3) 0
abbrev sSameJarInit : Stmt := inClass (topS 4) 0
abbrev sSizesInit : Stmt := inClass (topS 5) 0
abbrev sBadStartInit : Stmt := inClass (topS 6) 0
abbrev sWideInit : Stmt := inClass (topS 8) 0
abbrev sNoNameInit : Stmt := inClass (topS 9) 0
abbrev sNoRowInit : Stmt := inClass (topS 10) 0
abbrev sBadTextInit : Stmt := inClass (topS 12) 0
abbrev sBadCountTold : Stmt := inClass (topS 2) 1
abbrev sNoJarTold : Stmt := inClass (topS 3) 1
abbrev sSameJarTold : Stmt := inClass (topS 4) 1
abbrev sSizesTold : Stmt := inClass (topS 5) 1
abbrev sBadStartTold : Stmt := inClass (topS 6) 1
abbrev sOtherJarsTold : Stmt := inClass (topS 7) 0
abbrev sWideTold : Stmt := inClass (topS 8) 1
abbrev sNoNameTold : Stmt := inClass (topS 9) 1
abbrev sNoRowTold : Stmt := inClass (topS 10) 1
abbrev sNoBackTold : Stmt := inClass (topS 11) 0
abbrev sBadTextTold : Stmt := inClass (topS 12) 1
abbrev sLwell : Stmt := topS 14
abbrev sLdraw : Stmt := topS 15
abbrev sLkinds : Stmt := topS 16
abbrev sLbyplace : Stmt := topS 17
abbrev sLbyname : Stmt := topS 18
abbrev sLfields : Stmt := topS 19
abbrev slaw : Stmt := topS 20
theorem scBadCountInit : FnScope ["self", "what", "count"] ["self", "what", "count"] (defScope sBadCountInit) := ⟨rfl, rfl, rfl, by decide +kernel, rfl, by decide +kernel, by decide +kernel⟩
theorem scNoJarInit : FnScope ["self", "jar"] ["self", "jar"] (defScope sNoJarInit) := ⟨rfl, rfl, rfl, by decide +kernel, rfl, by decide +kernel, by decide +kernel⟩
theorem scSameJarInit : FnScope ["self", "jar"] ["self", "jar"] (defScope sSameJarInit) := ⟨rfl, rfl, rfl, by decide +kernel, rfl, by decide +kernel, by decide +kernel⟩
theorem scSizesInit : FnScope ["self", "a", "b"] ["self", "a", "b"] (defScope sSizesInit) := ⟨rfl, rfl, rfl, by decide +kernel, rfl, by decide +kernel, by decide +kernel⟩
theorem scBadStartInit : FnScope ["self", "jar"] ["self", "jar"] (defScope sBadStartInit) := ⟨rfl, rfl, rfl, by decide +kernel, rfl, by decide +kernel, by decide +kernel⟩
theorem scWideInit : FnScope ["self", "count"] ["self", "count"] (defScope sWideInit) := ⟨rfl, rfl, rfl, by decide +kernel, rfl, by decide +kernel, by decide +kernel⟩
theorem scNoNameInit : FnScope ["self", "name"] ["self", "name"] (defScope sNoNameInit) := ⟨rfl, rfl, rfl, by decide +kernel, rfl, by decide +kernel, by decide +kernel⟩
theorem scNoRowInit : FnScope ["self", "name"] ["self", "name"] (defScope sNoRowInit) := ⟨rfl, rfl, rfl, by decide +kernel, rfl, by decide +kernel, by decide +kernel⟩
theorem scBadTextInit : FnScope ["self", "place"] ["self", "place"] (defScope sBadTextInit) := ⟨rfl, rfl, rfl, by decide +kernel, rfl, by decide +kernel, by decide +kernel⟩
theorem scBadCountTold : FnScope ["self"] ["self"] (defScope sBadCountTold) := ⟨rfl, rfl, rfl, by decide +kernel, rfl, by decide +kernel, by decide +kernel⟩
theorem scNoJarTold : FnScope ["self"] ["self"] (defScope sNoJarTold) := ⟨rfl, rfl, rfl, by decide +kernel, rfl, by decide +kernel, by decide +kernel⟩
theorem scSameJarTold : FnScope ["self"] ["self"] (defScope sSameJarTold) := ⟨rfl, rfl, rfl, by decide +kernel, rfl, by decide +kernel, by decide +kernel⟩
theorem scSizesTold : FnScope ["self"] ["self"] (defScope sSizesTold) := ⟨rfl, rfl, rfl, by decide +kernel, rfl, by decide +kernel, by decide +kernel⟩
theorem scBadStartTold : FnScope ["self"] ["self"] (defScope sBadStartTold) := ⟨rfl, rfl, rfl, by decide +kernel, rfl, by decide +kernel, by decide +kernel⟩
theorem scOtherJarsTold : FnScope ["self"] ["self"] (defScope sOtherJarsTold) := ⟨rfl, rfl, rfl, by decide +kernel, rfl, by decide +kernel, by decide +kernel⟩
theorem scWideTold : FnScope ["self"] ["self"] (defScope sWideTold) := ⟨rfl, rfl, rfl, by decide +kernel, rfl, by decide +kernel, by decide +kernel⟩
theorem scNoNameTold : FnScope ["self"] ["self"] (defScope sNoNameTold) := ⟨rfl, rfl, rfl, by decide +kernel, rfl, by decide +kernel, by decide +kernel⟩
theorem scNoRowTold : FnScope ["self"] ["self"] (defScope sNoRowTold) := ⟨rfl, rfl, rfl, by decide +kernel, rfl, by decide +kernel, by decide +kernel⟩
theorem scNoBackTold : FnScope ["self"] ["self"] (defScope sNoBackTold) := ⟨rfl, rfl, rfl, by decide +kernel, rfl, by decide +kernel, by decide +kernel⟩
theorem scBadTextTold : FnScope ["self"] ["self"] (defScope sBadTextTold) := ⟨rfl, rfl, rfl, by decide +kernel, rfl, by decide +kernel, by decide +kernel⟩
theorem scLwell : FnScope ["_law_cell"] ["_law_cell"] (defScope sLwell) := ⟨rfl, rfl, rfl, by decide +kernel, rfl, by decide +kernel, by decide +kernel⟩
theorem scLdraw : FnScope ["_law_well_here", "_law_many", "_law_found", "_law_number"] ["_law_well_here", "_law_many"] (defScope sLdraw) := ⟨rfl, rfl, rfl, by decide +kernel, rfl, by decide +kernel, by decide +kernel⟩
theorem scLkinds : FnScope ["_law_e", "_law_found"] ["_law_e"] (defScope sLkinds) := ⟨rfl, rfl, rfl, by decide +kernel, rfl, by decide +kernel, by decide +kernel⟩
theorem scLbyplace : FnScope ["_law_one", "_law_other"] ["_law_one", "_law_other"] (defScope sLbyplace) := ⟨rfl, rfl, rfl, by decide +kernel, rfl, by decide +kernel, by decide +kernel⟩
theorem scLbyname : FnScope ["_law_one", "_law_other", "_law_found"] ["_law_one", "_law_other"] (defScope sLbyname) := ⟨rfl, rfl, rfl, by decide +kernel, rfl, by decide +kernel, by decide +kernel⟩
theorem scLfields : FnScope ["_law_some", "_law_found"] ["_law_some"] (defScope sLfields) := ⟨rfl, rfl, rfl, by decide +kernel, rfl, by decide +kernel, by decide +kernel⟩
theorem sclaw : FnScope ["_law_script", "_law_words", "_law_cell", "_law_well_here", "_law_things", "_law_one", "_law_other", "_law_due", "_law_some", "_law_e", "_law_word", "_law_at", "_law_k"] ["_law_script"] (defScope slaw) := ⟨rfl, rfl, rfl, by decide +kernel, rfl, by decide +kernel, by decide +kernel⟩
structure Tx (K : PySem.W.Frag) (mg : Str → Option Value) : Type where
  aBadCountInit : Addr
  dBadCountInit : FuncData
  aNoJarInit : Addr
  dNoJarInit : FuncData
  aSameJarInit : Addr
  dSameJarInit : FuncData
  aSizesInit : Addr
  dSizesInit : FuncData
  aBadStartInit : Addr
  dBadStartInit : FuncData
  aWideInit : Addr
  dWideInit : FuncData
  aNoNameInit : Addr
  dNoNameInit : FuncData
  aNoRowInit : Addr
  dNoRowInit : FuncData
  aBadTextInit : Addr
  dBadTextInit : FuncData
  aBadCountTold : Addr
  dBadCountTold : FuncData
  aNoJarTold : Addr
  dNoJarTold : FuncData
  aSameJarTold : Addr
  dSameJarTold : FuncData
  aSizesTold : Addr
  dSizesTold : FuncData
  aBadStartTold : Addr
  dBadStartTold : FuncData
  aOtherJarsTold : Addr
  dOtherJarsTold : FuncData
  aWideTold : Addr
  dWideTold : FuncData
  aNoNameTold : Addr
  dNoNameTold : FuncData
  aNoRowTold : Addr
  dNoRowTold : FuncData
  aNoBackTold : Addr
  dNoBackTold : FuncData
  aBadTextTold : Addr
  dBadTextTold : FuncData
  aLwell : Addr
  dLwell : FuncData
  aLdraw : Addr
  dLdraw : FuncData
  aLkinds : Addr
  dLkinds : FuncData
  aLbyplace : Addr
  dLbyplace : FuncData
  aLbyname : Addr
  dLbyname : FuncData
  aLfields : Addr
  dLfields : FuncData
  alaw : Addr
  dlaw : FuncData
  cBadCount : Addr
  cNoJar : Addr
  cSameJar : Addr
  cSizes : Addr
  cBadStart : Addr
  cWide : Addr
  cNoName : Addr
  cNoRow : Addr
  cBadText : Addr
  cOtherJars : Addr
  cNoBack : Addr
  fBadCountInit : Fun K "__init__" "BadCount.__init__" sBadCountInit aBadCountInit dBadCountInit
  bBadCountInit : Binds K dBadCountInit ["self", "what", "count"] []
  iBadCount : PySem.W.findIn K (.ref cBadCount) "__init__" = some (some (.ref aBadCountInit))
  tBadCount : PySem.W.typeIn K (.ref aBadCountInit) = some (.type "function")
  fNoJarInit : Fun K "__init__" "NoJar.__init__" sNoJarInit aNoJarInit dNoJarInit
  bNoJarInit : Binds K dNoJarInit ["self", "jar"] []
  iNoJar : PySem.W.findIn K (.ref cNoJar) "__init__" = some (some (.ref aNoJarInit))
  tNoJar : PySem.W.typeIn K (.ref aNoJarInit) = some (.type "function")
  fSameJarInit : Fun K "__init__" "SameJar.__init__" sSameJarInit aSameJarInit dSameJarInit
  bSameJarInit : Binds K dSameJarInit ["self", "jar"] []
  iSameJar : PySem.W.findIn K (.ref cSameJar) "__init__" = some (some (.ref aSameJarInit))
  tSameJar : PySem.W.typeIn K (.ref aSameJarInit) = some (.type "function")
  fSizesInit : Fun K "__init__" "Sizes.__init__" sSizesInit aSizesInit dSizesInit
  bSizesInit : Binds K dSizesInit ["self", "a", "b"] []
  iSizes : PySem.W.findIn K (.ref cSizes) "__init__" = some (some (.ref aSizesInit))
  tSizes : PySem.W.typeIn K (.ref aSizesInit) = some (.type "function")
  fBadStartInit : Fun K "__init__" "BadStart.__init__" sBadStartInit aBadStartInit dBadStartInit
  bBadStartInit : Binds K dBadStartInit ["self", "jar"] []
  iBadStart : PySem.W.findIn K (.ref cBadStart) "__init__" = some (some (.ref aBadStartInit))
  tBadStart : PySem.W.typeIn K (.ref aBadStartInit) = some (.type "function")
  fWideInit : Fun K "__init__" "Wide.__init__" sWideInit aWideInit dWideInit
  bWideInit : Binds K dWideInit ["self", "count"] []
  iWide : PySem.W.findIn K (.ref cWide) "__init__" = some (some (.ref aWideInit))
  tWide : PySem.W.typeIn K (.ref aWideInit) = some (.type "function")
  fNoNameInit : Fun K "__init__" "NoName.__init__" sNoNameInit aNoNameInit dNoNameInit
  bNoNameInit : Binds K dNoNameInit ["self", "name"] []
  iNoName : PySem.W.findIn K (.ref cNoName) "__init__" = some (some (.ref aNoNameInit))
  tNoName : PySem.W.typeIn K (.ref aNoNameInit) = some (.type "function")
  fNoRowInit : Fun K "__init__" "NoRow.__init__" sNoRowInit aNoRowInit dNoRowInit
  bNoRowInit : Binds K dNoRowInit ["self", "name"] []
  iNoRow : PySem.W.findIn K (.ref cNoRow) "__init__" = some (some (.ref aNoRowInit))
  tNoRow : PySem.W.typeIn K (.ref aNoRowInit) = some (.type "function")
  fBadTextInit : Fun K "__init__" "BadText.__init__" sBadTextInit aBadTextInit dBadTextInit
  bBadTextInit : Binds K dBadTextInit ["self", "place"] []
  iBadText : PySem.W.findIn K (.ref cBadText) "__init__" = some (some (.ref aBadTextInit))
  tBadText : PySem.W.typeIn K (.ref aBadTextInit) = some (.type "function")
  fBadCountTold : Fun K "told" "BadCount.told" sBadCountTold aBadCountTold dBadCountTold
  bBadCountTold : Binds K dBadCountTold ["self"] []
  eBadCountTold : PySem.W.findIn K (.ref cBadCount) "told" = some (some (.ref aBadCountTold))
  eiBadCountTold : PySem.W.isFn K (.ref aBadCountTold) = true
  fNoJarTold : Fun K "told" "NoJar.told" sNoJarTold aNoJarTold dNoJarTold
  bNoJarTold : Binds K dNoJarTold ["self"] []
  eNoJarTold : PySem.W.findIn K (.ref cNoJar) "told" = some (some (.ref aNoJarTold))
  eiNoJarTold : PySem.W.isFn K (.ref aNoJarTold) = true
  fSameJarTold : Fun K "told" "SameJar.told" sSameJarTold aSameJarTold dSameJarTold
  bSameJarTold : Binds K dSameJarTold ["self"] []
  eSameJarTold : PySem.W.findIn K (.ref cSameJar) "told" = some (some (.ref aSameJarTold))
  eiSameJarTold : PySem.W.isFn K (.ref aSameJarTold) = true
  fSizesTold : Fun K "told" "Sizes.told" sSizesTold aSizesTold dSizesTold
  bSizesTold : Binds K dSizesTold ["self"] []
  eSizesTold : PySem.W.findIn K (.ref cSizes) "told" = some (some (.ref aSizesTold))
  eiSizesTold : PySem.W.isFn K (.ref aSizesTold) = true
  fBadStartTold : Fun K "told" "BadStart.told" sBadStartTold aBadStartTold dBadStartTold
  bBadStartTold : Binds K dBadStartTold ["self"] []
  eBadStartTold : PySem.W.findIn K (.ref cBadStart) "told" = some (some (.ref aBadStartTold))
  eiBadStartTold : PySem.W.isFn K (.ref aBadStartTold) = true
  fOtherJarsTold : Fun K "told" "OtherJars.told" sOtherJarsTold aOtherJarsTold dOtherJarsTold
  bOtherJarsTold : Binds K dOtherJarsTold ["self"] []
  eOtherJarsTold : PySem.W.findIn K (.ref cOtherJars) "told" = some (some (.ref aOtherJarsTold))
  eiOtherJarsTold : PySem.W.isFn K (.ref aOtherJarsTold) = true
  fWideTold : Fun K "told" "Wide.told" sWideTold aWideTold dWideTold
  bWideTold : Binds K dWideTold ["self"] []
  eWideTold : PySem.W.findIn K (.ref cWide) "told" = some (some (.ref aWideTold))
  eiWideTold : PySem.W.isFn K (.ref aWideTold) = true
  fNoNameTold : Fun K "told" "NoName.told" sNoNameTold aNoNameTold dNoNameTold
  bNoNameTold : Binds K dNoNameTold ["self"] []
  eNoNameTold : PySem.W.findIn K (.ref cNoName) "told" = some (some (.ref aNoNameTold))
  eiNoNameTold : PySem.W.isFn K (.ref aNoNameTold) = true
  fNoRowTold : Fun K "told" "NoRow.told" sNoRowTold aNoRowTold dNoRowTold
  bNoRowTold : Binds K dNoRowTold ["self"] []
  eNoRowTold : PySem.W.findIn K (.ref cNoRow) "told" = some (some (.ref aNoRowTold))
  eiNoRowTold : PySem.W.isFn K (.ref aNoRowTold) = true
  fNoBackTold : Fun K "told" "NoBack.told" sNoBackTold aNoBackTold dNoBackTold
  bNoBackTold : Binds K dNoBackTold ["self"] []
  eNoBackTold : PySem.W.findIn K (.ref cNoBack) "told" = some (some (.ref aNoBackTold))
  eiNoBackTold : PySem.W.isFn K (.ref aNoBackTold) = true
  fBadTextTold : Fun K "told" "BadText.told" sBadTextTold aBadTextTold dBadTextTold
  bBadTextTold : Binds K dBadTextTold ["self"] []
  eBadTextTold : PySem.W.findIn K (.ref cBadText) "told" = some (some (.ref aBadTextTold))
  eiBadTextTold : PySem.W.isFn K (.ref aBadTextTold) = true
  fLwell : Fun K "_law_well" "_law_well" sLwell aLwell dLwell
  bLwell : Binds K dLwell ["_law_cell"] []
  gLwell : mg "_law_well" = some (.ref aLwell)
  fLdraw : Fun K "_law_draw" "_law_draw" sLdraw aLdraw dLdraw
  bLdraw : Binds K dLdraw ["_law_well_here", "_law_many"] []
  gLdraw : mg "_law_draw" = some (.ref aLdraw)
  fLkinds : Fun K "_law_kinds" "_law_kinds" sLkinds aLkinds dLkinds
  bLkinds : Binds K dLkinds ["_law_e"] []
  gLkinds : mg "_law_kinds" = some (.ref aLkinds)
  fLbyplace : Fun K "_law_by_place" "_law_by_place" sLbyplace aLbyplace dLbyplace
  bLbyplace : Binds K dLbyplace ["_law_one", "_law_other"] []
  gLbyplace : mg "_law_by_place" = some (.ref aLbyplace)
  fLbyname : Fun K "_law_by_name" "_law_by_name" sLbyname aLbyname dLbyname
  bLbyname : Binds K dLbyname ["_law_one", "_law_other"] []
  gLbyname : mg "_law_by_name" = some (.ref aLbyname)
  fLfields : Fun K "_law_fields" "_law_fields" sLfields aLfields dLfields
  bLfields : Binds K dLfields ["_law_some"] []
  gLfields : mg "_law_fields" = some (.ref aLfields)
  flaw : Fun K "law" "law" slaw alaw dlaw
  blaw : Binds K dlaw ["_law_script"] []
  glaw : mg "law" = some (.ref alaw)
  mBadCount : mg "BadCount" = some (.ref cBadCount)
  oBadCount : OexC K cBadCount
  xfBadCount : XfC K cBadCount
  nBadCount_what : PySem.W.findIn K (.ref cBadCount) "what" = some none
  nBadCount_count : PySem.W.findIn K (.ref cBadCount) "count" = some none
  emBadCount_BadCount : PySem.W.exmOne K (.ref cBadCount) (.ref cBadCount) = some true
  emBadCount_NoJar : PySem.W.exmOne K (.ref cBadCount) (.ref cNoJar) = some false
  emBadCount_SameJar : PySem.W.exmOne K (.ref cBadCount) (.ref cSameJar) = some false
  emBadCount_Sizes : PySem.W.exmOne K (.ref cBadCount) (.ref cSizes) = some false
  emBadCount_BadStart : PySem.W.exmOne K (.ref cBadCount) (.ref cBadStart) = some false
  emBadCount_Wide : PySem.W.exmOne K (.ref cBadCount) (.ref cWide) = some false
  emBadCount_NoName : PySem.W.exmOne K (.ref cBadCount) (.ref cNoName) = some false
  emBadCount_NoRow : PySem.W.exmOne K (.ref cBadCount) (.ref cNoRow) = some false
  emBadCount_BadText : PySem.W.exmOne K (.ref cBadCount) (.ref cBadText) = some false
  mNoJar : mg "NoJar" = some (.ref cNoJar)
  oNoJar : OexC K cNoJar
  xfNoJar : XfC K cNoJar
  nNoJar_jar : PySem.W.findIn K (.ref cNoJar) "jar" = some none
  emNoJar_BadCount : PySem.W.exmOne K (.ref cNoJar) (.ref cBadCount) = some false
  emNoJar_NoJar : PySem.W.exmOne K (.ref cNoJar) (.ref cNoJar) = some true
  emNoJar_SameJar : PySem.W.exmOne K (.ref cNoJar) (.ref cSameJar) = some false
  emNoJar_Sizes : PySem.W.exmOne K (.ref cNoJar) (.ref cSizes) = some false
  emNoJar_BadStart : PySem.W.exmOne K (.ref cNoJar) (.ref cBadStart) = some false
  emNoJar_Wide : PySem.W.exmOne K (.ref cNoJar) (.ref cWide) = some false
  emNoJar_NoName : PySem.W.exmOne K (.ref cNoJar) (.ref cNoName) = some false
  emNoJar_NoRow : PySem.W.exmOne K (.ref cNoJar) (.ref cNoRow) = some false
  emNoJar_BadText : PySem.W.exmOne K (.ref cNoJar) (.ref cBadText) = some false
  mSameJar : mg "SameJar" = some (.ref cSameJar)
  oSameJar : OexC K cSameJar
  xfSameJar : XfC K cSameJar
  nSameJar_jar : PySem.W.findIn K (.ref cSameJar) "jar" = some none
  emSameJar_BadCount : PySem.W.exmOne K (.ref cSameJar) (.ref cBadCount) = some false
  emSameJar_NoJar : PySem.W.exmOne K (.ref cSameJar) (.ref cNoJar) = some false
  emSameJar_SameJar : PySem.W.exmOne K (.ref cSameJar) (.ref cSameJar) = some true
  emSameJar_Sizes : PySem.W.exmOne K (.ref cSameJar) (.ref cSizes) = some false
  emSameJar_BadStart : PySem.W.exmOne K (.ref cSameJar) (.ref cBadStart) = some false
  emSameJar_Wide : PySem.W.exmOne K (.ref cSameJar) (.ref cWide) = some false
  emSameJar_NoName : PySem.W.exmOne K (.ref cSameJar) (.ref cNoName) = some false
  emSameJar_NoRow : PySem.W.exmOne K (.ref cSameJar) (.ref cNoRow) = some false
  emSameJar_BadText : PySem.W.exmOne K (.ref cSameJar) (.ref cBadText) = some false
  mSizes : mg "Sizes" = some (.ref cSizes)
  oSizes : OexC K cSizes
  xfSizes : XfC K cSizes
  nSizes_a : PySem.W.findIn K (.ref cSizes) "a" = some none
  nSizes_b : PySem.W.findIn K (.ref cSizes) "b" = some none
  emSizes_BadCount : PySem.W.exmOne K (.ref cSizes) (.ref cBadCount) = some false
  emSizes_NoJar : PySem.W.exmOne K (.ref cSizes) (.ref cNoJar) = some false
  emSizes_SameJar : PySem.W.exmOne K (.ref cSizes) (.ref cSameJar) = some false
  emSizes_Sizes : PySem.W.exmOne K (.ref cSizes) (.ref cSizes) = some true
  emSizes_BadStart : PySem.W.exmOne K (.ref cSizes) (.ref cBadStart) = some false
  emSizes_Wide : PySem.W.exmOne K (.ref cSizes) (.ref cWide) = some false
  emSizes_NoName : PySem.W.exmOne K (.ref cSizes) (.ref cNoName) = some false
  emSizes_NoRow : PySem.W.exmOne K (.ref cSizes) (.ref cNoRow) = some false
  emSizes_BadText : PySem.W.exmOne K (.ref cSizes) (.ref cBadText) = some false
  mBadStart : mg "BadStart" = some (.ref cBadStart)
  oBadStart : OexC K cBadStart
  xfBadStart : XfC K cBadStart
  nBadStart_jar : PySem.W.findIn K (.ref cBadStart) "jar" = some none
  emBadStart_BadCount : PySem.W.exmOne K (.ref cBadStart) (.ref cBadCount) = some false
  emBadStart_NoJar : PySem.W.exmOne K (.ref cBadStart) (.ref cNoJar) = some false
  emBadStart_SameJar : PySem.W.exmOne K (.ref cBadStart) (.ref cSameJar) = some false
  emBadStart_Sizes : PySem.W.exmOne K (.ref cBadStart) (.ref cSizes) = some false
  emBadStart_BadStart : PySem.W.exmOne K (.ref cBadStart) (.ref cBadStart) = some true
  emBadStart_Wide : PySem.W.exmOne K (.ref cBadStart) (.ref cWide) = some false
  emBadStart_NoName : PySem.W.exmOne K (.ref cBadStart) (.ref cNoName) = some false
  emBadStart_NoRow : PySem.W.exmOne K (.ref cBadStart) (.ref cNoRow) = some false
  emBadStart_BadText : PySem.W.exmOne K (.ref cBadStart) (.ref cBadText) = some false
  mWide : mg "Wide" = some (.ref cWide)
  oWide : OexC K cWide
  xfWide : XfC K cWide
  nWide_count : PySem.W.findIn K (.ref cWide) "count" = some none
  emWide_BadCount : PySem.W.exmOne K (.ref cWide) (.ref cBadCount) = some false
  emWide_NoJar : PySem.W.exmOne K (.ref cWide) (.ref cNoJar) = some false
  emWide_SameJar : PySem.W.exmOne K (.ref cWide) (.ref cSameJar) = some false
  emWide_Sizes : PySem.W.exmOne K (.ref cWide) (.ref cSizes) = some false
  emWide_BadStart : PySem.W.exmOne K (.ref cWide) (.ref cBadStart) = some false
  emWide_Wide : PySem.W.exmOne K (.ref cWide) (.ref cWide) = some true
  emWide_NoName : PySem.W.exmOne K (.ref cWide) (.ref cNoName) = some false
  emWide_NoRow : PySem.W.exmOne K (.ref cWide) (.ref cNoRow) = some false
  emWide_BadText : PySem.W.exmOne K (.ref cWide) (.ref cBadText) = some false
  mNoName : mg "NoName" = some (.ref cNoName)
  oNoName : OexC K cNoName
  xfNoName : XfC K cNoName
  nNoName_name : PySem.W.findIn K (.ref cNoName) "name" = some none
  emNoName_BadCount : PySem.W.exmOne K (.ref cNoName) (.ref cBadCount) = some false
  emNoName_NoJar : PySem.W.exmOne K (.ref cNoName) (.ref cNoJar) = some false
  emNoName_SameJar : PySem.W.exmOne K (.ref cNoName) (.ref cSameJar) = some false
  emNoName_Sizes : PySem.W.exmOne K (.ref cNoName) (.ref cSizes) = some false
  emNoName_BadStart : PySem.W.exmOne K (.ref cNoName) (.ref cBadStart) = some false
  emNoName_Wide : PySem.W.exmOne K (.ref cNoName) (.ref cWide) = some false
  emNoName_NoName : PySem.W.exmOne K (.ref cNoName) (.ref cNoName) = some true
  emNoName_NoRow : PySem.W.exmOne K (.ref cNoName) (.ref cNoRow) = some false
  emNoName_BadText : PySem.W.exmOne K (.ref cNoName) (.ref cBadText) = some false
  mNoRow : mg "NoRow" = some (.ref cNoRow)
  oNoRow : OexC K cNoRow
  xfNoRow : XfC K cNoRow
  nNoRow_name : PySem.W.findIn K (.ref cNoRow) "name" = some none
  emNoRow_BadCount : PySem.W.exmOne K (.ref cNoRow) (.ref cBadCount) = some false
  emNoRow_NoJar : PySem.W.exmOne K (.ref cNoRow) (.ref cNoJar) = some false
  emNoRow_SameJar : PySem.W.exmOne K (.ref cNoRow) (.ref cSameJar) = some false
  emNoRow_Sizes : PySem.W.exmOne K (.ref cNoRow) (.ref cSizes) = some false
  emNoRow_BadStart : PySem.W.exmOne K (.ref cNoRow) (.ref cBadStart) = some false
  emNoRow_Wide : PySem.W.exmOne K (.ref cNoRow) (.ref cWide) = some false
  emNoRow_NoName : PySem.W.exmOne K (.ref cNoRow) (.ref cNoName) = some false
  emNoRow_NoRow : PySem.W.exmOne K (.ref cNoRow) (.ref cNoRow) = some true
  emNoRow_BadText : PySem.W.exmOne K (.ref cNoRow) (.ref cBadText) = some false
  mBadText : mg "BadText" = some (.ref cBadText)
  oBadText : OexC K cBadText
  xfBadText : XfC K cBadText
  nBadText_place : PySem.W.findIn K (.ref cBadText) "place" = some none
  emBadText_BadCount : PySem.W.exmOne K (.ref cBadText) (.ref cBadCount) = some false
  emBadText_NoJar : PySem.W.exmOne K (.ref cBadText) (.ref cNoJar) = some false
  emBadText_SameJar : PySem.W.exmOne K (.ref cBadText) (.ref cSameJar) = some false
  emBadText_Sizes : PySem.W.exmOne K (.ref cBadText) (.ref cSizes) = some false
  emBadText_BadStart : PySem.W.exmOne K (.ref cBadText) (.ref cBadStart) = some false
  emBadText_Wide : PySem.W.exmOne K (.ref cBadText) (.ref cWide) = some false
  emBadText_NoName : PySem.W.exmOne K (.ref cBadText) (.ref cNoName) = some false
  emBadText_NoRow : PySem.W.exmOne K (.ref cBadText) (.ref cNoRow) = some false
  emBadText_BadText : PySem.W.exmOne K (.ref cBadText) (.ref cBadText) = some true
  mOtherJars : mg "OtherJars" = some (.ref cOtherJars)
  xfOtherJars : XfC K cOtherJars
  xqOtherJars : PySem.W.excIn K cOtherJars [.type "ValueError", .type "Exception", .type "BaseException", .type "object"] "ValueError.__new__" = true
  kxOtherJars : PySem.W.keepIn K (.ref cOtherJars) = true
  mNoBack : mg "NoBack" = some (.ref cNoBack)
  xfNoBack : XfC K cNoBack
  xqNoBack : PySem.W.excIn K cNoBack [.type "ValueError", .type "Exception", .type "BaseException", .type "object"] "ValueError.__new__" = true
  kxNoBack : PySem.W.keepIn K (.ref cNoBack) = true
  cDropsError : Addr
  mDropsError : mg "DropsError" = some (.ref cDropsError)
  nValueError : mg "ValueError" = none
  xcBadCount : ExcC K cBadCount
  ixBadCount_BadCount : PySem.W.kitOne K (.ref cBadCount) (.ref cBadCount) = some true
  ixBadCount_NoJar : PySem.W.kitOne K (.ref cBadCount) (.ref cNoJar) = some false
  ixBadCount_SameJar : PySem.W.kitOne K (.ref cBadCount) (.ref cSameJar) = some false
  ixBadCount_Sizes : PySem.W.kitOne K (.ref cBadCount) (.ref cSizes) = some false
  ixBadCount_BadStart : PySem.W.kitOne K (.ref cBadCount) (.ref cBadStart) = some false
  ixBadCount_Wide : PySem.W.kitOne K (.ref cBadCount) (.ref cWide) = some false
  ixBadCount_NoName : PySem.W.kitOne K (.ref cBadCount) (.ref cNoName) = some false
  ixBadCount_NoRow : PySem.W.kitOne K (.ref cBadCount) (.ref cNoRow) = some false
  ixBadCount_BadText : PySem.W.kitOne K (.ref cBadCount) (.ref cBadText) = some false
  ixBadCount_OtherJars : PySem.W.kitOne K (.ref cBadCount) (.ref cOtherJars) = some false
  ixBadCount_NoBack : PySem.W.kitOne K (.ref cBadCount) (.ref cNoBack) = some false
  ixBadCount_DropsError : PySem.W.kitOne K (.ref cBadCount) (.ref cDropsError) = some true
  ixBadCount_ValueError : PySem.W.kitOne K (.ref cBadCount) (.type "ValueError") = some true
  xcNoJar : ExcC K cNoJar
  ixNoJar_BadCount : PySem.W.kitOne K (.ref cNoJar) (.ref cBadCount) = some false
  ixNoJar_NoJar : PySem.W.kitOne K (.ref cNoJar) (.ref cNoJar) = some true
  ixNoJar_SameJar : PySem.W.kitOne K (.ref cNoJar) (.ref cSameJar) = some false
  ixNoJar_Sizes : PySem.W.kitOne K (.ref cNoJar) (.ref cSizes) = some false
  ixNoJar_BadStart : PySem.W.kitOne K (.ref cNoJar) (.ref cBadStart) = some false
  ixNoJar_Wide : PySem.W.kitOne K (.ref cNoJar) (.ref cWide) = some false
  ixNoJar_NoName : PySem.W.kitOne K (.ref cNoJar) (.ref cNoName) = some false
  ixNoJar_NoRow : PySem.W.kitOne K (.ref cNoJar) (.ref cNoRow) = some false
  ixNoJar_BadText : PySem.W.kitOne K (.ref cNoJar) (.ref cBadText) = some false
  ixNoJar_OtherJars : PySem.W.kitOne K (.ref cNoJar) (.ref cOtherJars) = some false
  ixNoJar_NoBack : PySem.W.kitOne K (.ref cNoJar) (.ref cNoBack) = some false
  ixNoJar_DropsError : PySem.W.kitOne K (.ref cNoJar) (.ref cDropsError) = some true
  ixNoJar_ValueError : PySem.W.kitOne K (.ref cNoJar) (.type "ValueError") = some true
  xcSameJar : ExcC K cSameJar
  ixSameJar_BadCount : PySem.W.kitOne K (.ref cSameJar) (.ref cBadCount) = some false
  ixSameJar_NoJar : PySem.W.kitOne K (.ref cSameJar) (.ref cNoJar) = some false
  ixSameJar_SameJar : PySem.W.kitOne K (.ref cSameJar) (.ref cSameJar) = some true
  ixSameJar_Sizes : PySem.W.kitOne K (.ref cSameJar) (.ref cSizes) = some false
  ixSameJar_BadStart : PySem.W.kitOne K (.ref cSameJar) (.ref cBadStart) = some false
  ixSameJar_Wide : PySem.W.kitOne K (.ref cSameJar) (.ref cWide) = some false
  ixSameJar_NoName : PySem.W.kitOne K (.ref cSameJar) (.ref cNoName) = some false
  ixSameJar_NoRow : PySem.W.kitOne K (.ref cSameJar) (.ref cNoRow) = some false
  ixSameJar_BadText : PySem.W.kitOne K (.ref cSameJar) (.ref cBadText) = some false
  ixSameJar_OtherJars : PySem.W.kitOne K (.ref cSameJar) (.ref cOtherJars) = some false
  ixSameJar_NoBack : PySem.W.kitOne K (.ref cSameJar) (.ref cNoBack) = some false
  ixSameJar_DropsError : PySem.W.kitOne K (.ref cSameJar) (.ref cDropsError) = some true
  ixSameJar_ValueError : PySem.W.kitOne K (.ref cSameJar) (.type "ValueError") = some true
  xcSizes : ExcC K cSizes
  ixSizes_BadCount : PySem.W.kitOne K (.ref cSizes) (.ref cBadCount) = some false
  ixSizes_NoJar : PySem.W.kitOne K (.ref cSizes) (.ref cNoJar) = some false
  ixSizes_SameJar : PySem.W.kitOne K (.ref cSizes) (.ref cSameJar) = some false
  ixSizes_Sizes : PySem.W.kitOne K (.ref cSizes) (.ref cSizes) = some true
  ixSizes_BadStart : PySem.W.kitOne K (.ref cSizes) (.ref cBadStart) = some false
  ixSizes_Wide : PySem.W.kitOne K (.ref cSizes) (.ref cWide) = some false
  ixSizes_NoName : PySem.W.kitOne K (.ref cSizes) (.ref cNoName) = some false
  ixSizes_NoRow : PySem.W.kitOne K (.ref cSizes) (.ref cNoRow) = some false
  ixSizes_BadText : PySem.W.kitOne K (.ref cSizes) (.ref cBadText) = some false
  ixSizes_OtherJars : PySem.W.kitOne K (.ref cSizes) (.ref cOtherJars) = some false
  ixSizes_NoBack : PySem.W.kitOne K (.ref cSizes) (.ref cNoBack) = some false
  ixSizes_DropsError : PySem.W.kitOne K (.ref cSizes) (.ref cDropsError) = some true
  ixSizes_ValueError : PySem.W.kitOne K (.ref cSizes) (.type "ValueError") = some true
  xcBadStart : ExcC K cBadStart
  ixBadStart_BadCount : PySem.W.kitOne K (.ref cBadStart) (.ref cBadCount) = some false
  ixBadStart_NoJar : PySem.W.kitOne K (.ref cBadStart) (.ref cNoJar) = some false
  ixBadStart_SameJar : PySem.W.kitOne K (.ref cBadStart) (.ref cSameJar) = some false
  ixBadStart_Sizes : PySem.W.kitOne K (.ref cBadStart) (.ref cSizes) = some false
  ixBadStart_BadStart : PySem.W.kitOne K (.ref cBadStart) (.ref cBadStart) = some true
  ixBadStart_Wide : PySem.W.kitOne K (.ref cBadStart) (.ref cWide) = some false
  ixBadStart_NoName : PySem.W.kitOne K (.ref cBadStart) (.ref cNoName) = some false
  ixBadStart_NoRow : PySem.W.kitOne K (.ref cBadStart) (.ref cNoRow) = some false
  ixBadStart_BadText : PySem.W.kitOne K (.ref cBadStart) (.ref cBadText) = some false
  ixBadStart_OtherJars : PySem.W.kitOne K (.ref cBadStart) (.ref cOtherJars) = some false
  ixBadStart_NoBack : PySem.W.kitOne K (.ref cBadStart) (.ref cNoBack) = some false
  ixBadStart_DropsError : PySem.W.kitOne K (.ref cBadStart) (.ref cDropsError) = some true
  ixBadStart_ValueError : PySem.W.kitOne K (.ref cBadStart) (.type "ValueError") = some true
  xcWide : ExcC K cWide
  ixWide_BadCount : PySem.W.kitOne K (.ref cWide) (.ref cBadCount) = some false
  ixWide_NoJar : PySem.W.kitOne K (.ref cWide) (.ref cNoJar) = some false
  ixWide_SameJar : PySem.W.kitOne K (.ref cWide) (.ref cSameJar) = some false
  ixWide_Sizes : PySem.W.kitOne K (.ref cWide) (.ref cSizes) = some false
  ixWide_BadStart : PySem.W.kitOne K (.ref cWide) (.ref cBadStart) = some false
  ixWide_Wide : PySem.W.kitOne K (.ref cWide) (.ref cWide) = some true
  ixWide_NoName : PySem.W.kitOne K (.ref cWide) (.ref cNoName) = some false
  ixWide_NoRow : PySem.W.kitOne K (.ref cWide) (.ref cNoRow) = some false
  ixWide_BadText : PySem.W.kitOne K (.ref cWide) (.ref cBadText) = some false
  ixWide_OtherJars : PySem.W.kitOne K (.ref cWide) (.ref cOtherJars) = some false
  ixWide_NoBack : PySem.W.kitOne K (.ref cWide) (.ref cNoBack) = some false
  ixWide_DropsError : PySem.W.kitOne K (.ref cWide) (.ref cDropsError) = some true
  ixWide_ValueError : PySem.W.kitOne K (.ref cWide) (.type "ValueError") = some true
  xcNoName : ExcC K cNoName
  ixNoName_BadCount : PySem.W.kitOne K (.ref cNoName) (.ref cBadCount) = some false
  ixNoName_NoJar : PySem.W.kitOne K (.ref cNoName) (.ref cNoJar) = some false
  ixNoName_SameJar : PySem.W.kitOne K (.ref cNoName) (.ref cSameJar) = some false
  ixNoName_Sizes : PySem.W.kitOne K (.ref cNoName) (.ref cSizes) = some false
  ixNoName_BadStart : PySem.W.kitOne K (.ref cNoName) (.ref cBadStart) = some false
  ixNoName_Wide : PySem.W.kitOne K (.ref cNoName) (.ref cWide) = some false
  ixNoName_NoName : PySem.W.kitOne K (.ref cNoName) (.ref cNoName) = some true
  ixNoName_NoRow : PySem.W.kitOne K (.ref cNoName) (.ref cNoRow) = some false
  ixNoName_BadText : PySem.W.kitOne K (.ref cNoName) (.ref cBadText) = some false
  ixNoName_OtherJars : PySem.W.kitOne K (.ref cNoName) (.ref cOtherJars) = some false
  ixNoName_NoBack : PySem.W.kitOne K (.ref cNoName) (.ref cNoBack) = some false
  ixNoName_DropsError : PySem.W.kitOne K (.ref cNoName) (.ref cDropsError) = some true
  ixNoName_ValueError : PySem.W.kitOne K (.ref cNoName) (.type "ValueError") = some true
  xcNoRow : ExcC K cNoRow
  ixNoRow_BadCount : PySem.W.kitOne K (.ref cNoRow) (.ref cBadCount) = some false
  ixNoRow_NoJar : PySem.W.kitOne K (.ref cNoRow) (.ref cNoJar) = some false
  ixNoRow_SameJar : PySem.W.kitOne K (.ref cNoRow) (.ref cSameJar) = some false
  ixNoRow_Sizes : PySem.W.kitOne K (.ref cNoRow) (.ref cSizes) = some false
  ixNoRow_BadStart : PySem.W.kitOne K (.ref cNoRow) (.ref cBadStart) = some false
  ixNoRow_Wide : PySem.W.kitOne K (.ref cNoRow) (.ref cWide) = some false
  ixNoRow_NoName : PySem.W.kitOne K (.ref cNoRow) (.ref cNoName) = some false
  ixNoRow_NoRow : PySem.W.kitOne K (.ref cNoRow) (.ref cNoRow) = some true
  ixNoRow_BadText : PySem.W.kitOne K (.ref cNoRow) (.ref cBadText) = some false
  ixNoRow_OtherJars : PySem.W.kitOne K (.ref cNoRow) (.ref cOtherJars) = some false
  ixNoRow_NoBack : PySem.W.kitOne K (.ref cNoRow) (.ref cNoBack) = some false
  ixNoRow_DropsError : PySem.W.kitOne K (.ref cNoRow) (.ref cDropsError) = some true
  ixNoRow_ValueError : PySem.W.kitOne K (.ref cNoRow) (.type "ValueError") = some true
  xcBadText : ExcC K cBadText
  ixBadText_BadCount : PySem.W.kitOne K (.ref cBadText) (.ref cBadCount) = some false
  ixBadText_NoJar : PySem.W.kitOne K (.ref cBadText) (.ref cNoJar) = some false
  ixBadText_SameJar : PySem.W.kitOne K (.ref cBadText) (.ref cSameJar) = some false
  ixBadText_Sizes : PySem.W.kitOne K (.ref cBadText) (.ref cSizes) = some false
  ixBadText_BadStart : PySem.W.kitOne K (.ref cBadText) (.ref cBadStart) = some false
  ixBadText_Wide : PySem.W.kitOne K (.ref cBadText) (.ref cWide) = some false
  ixBadText_NoName : PySem.W.kitOne K (.ref cBadText) (.ref cNoName) = some false
  ixBadText_NoRow : PySem.W.kitOne K (.ref cBadText) (.ref cNoRow) = some false
  ixBadText_BadText : PySem.W.kitOne K (.ref cBadText) (.ref cBadText) = some true
  ixBadText_OtherJars : PySem.W.kitOne K (.ref cBadText) (.ref cOtherJars) = some false
  ixBadText_NoBack : PySem.W.kitOne K (.ref cBadText) (.ref cNoBack) = some false
  ixBadText_DropsError : PySem.W.kitOne K (.ref cBadText) (.ref cDropsError) = some true
  ixBadText_ValueError : PySem.W.kitOne K (.ref cBadText) (.type "ValueError") = some true
  xcOtherJars : ExcC K cOtherJars
  ixOtherJars_BadCount : PySem.W.kitOne K (.ref cOtherJars) (.ref cBadCount) = some false
  ixOtherJars_NoJar : PySem.W.kitOne K (.ref cOtherJars) (.ref cNoJar) = some false
  ixOtherJars_SameJar : PySem.W.kitOne K (.ref cOtherJars) (.ref cSameJar) = some false
  ixOtherJars_Sizes : PySem.W.kitOne K (.ref cOtherJars) (.ref cSizes) = some false
  ixOtherJars_BadStart : PySem.W.kitOne K (.ref cOtherJars) (.ref cBadStart) = some false
  ixOtherJars_Wide : PySem.W.kitOne K (.ref cOtherJars) (.ref cWide) = some false
  ixOtherJars_NoName : PySem.W.kitOne K (.ref cOtherJars) (.ref cNoName) = some false
  ixOtherJars_NoRow : PySem.W.kitOne K (.ref cOtherJars) (.ref cNoRow) = some false
  ixOtherJars_BadText : PySem.W.kitOne K (.ref cOtherJars) (.ref cBadText) = some false
  ixOtherJars_OtherJars : PySem.W.kitOne K (.ref cOtherJars) (.ref cOtherJars) = some true
  ixOtherJars_NoBack : PySem.W.kitOne K (.ref cOtherJars) (.ref cNoBack) = some false
  ixOtherJars_DropsError : PySem.W.kitOne K (.ref cOtherJars) (.ref cDropsError) = some true
  ixOtherJars_ValueError : PySem.W.kitOne K (.ref cOtherJars) (.type "ValueError") = some true
  xcNoBack : ExcC K cNoBack
  ixNoBack_BadCount : PySem.W.kitOne K (.ref cNoBack) (.ref cBadCount) = some false
  ixNoBack_NoJar : PySem.W.kitOne K (.ref cNoBack) (.ref cNoJar) = some false
  ixNoBack_SameJar : PySem.W.kitOne K (.ref cNoBack) (.ref cSameJar) = some false
  ixNoBack_Sizes : PySem.W.kitOne K (.ref cNoBack) (.ref cSizes) = some false
  ixNoBack_BadStart : PySem.W.kitOne K (.ref cNoBack) (.ref cBadStart) = some false
  ixNoBack_Wide : PySem.W.kitOne K (.ref cNoBack) (.ref cWide) = some false
  ixNoBack_NoName : PySem.W.kitOne K (.ref cNoBack) (.ref cNoName) = some false
  ixNoBack_NoRow : PySem.W.kitOne K (.ref cNoBack) (.ref cNoRow) = some false
  ixNoBack_BadText : PySem.W.kitOne K (.ref cNoBack) (.ref cBadText) = some false
  ixNoBack_OtherJars : PySem.W.kitOne K (.ref cNoBack) (.ref cOtherJars) = some false
  ixNoBack_NoBack : PySem.W.kitOne K (.ref cNoBack) (.ref cNoBack) = some true
  ixNoBack_DropsError : PySem.W.kitOne K (.ref cNoBack) (.ref cDropsError) = some true
  ixNoBack_ValueError : PySem.W.kitOne K (.ref cNoBack) (.type "ValueError") = some true
  kbBadCount_count_what : KBn K dBadCountInit ["self", "what", "count"] 1 ["count", "what"] (fun us ws => us ++ ws.reverse) (fun vs zs => vs ++ zs.reverse)
  kbNoJar_jar : KBn K dNoJarInit ["self", "jar"] 1 ["jar"] (fun us ws => us ++ ws) (fun vs zs => vs ++ zs)
  kbSameJar_jar : KBn K dSameJarInit ["self", "jar"] 1 ["jar"] (fun us ws => us ++ ws) (fun vs zs => vs ++ zs)
  kbSizes_b_a : KBn K dSizesInit ["self", "a", "b"] 1 ["b", "a"] (fun us ws => us ++ ws.reverse) (fun vs zs => vs ++ zs.reverse)
  kbBadStart_jar : KBn K dBadStartInit ["self", "jar"] 1 ["jar"] (fun us ws => us ++ ws) (fun vs zs => vs ++ zs)
  kbWide_count : KBn K dWideInit ["self", "count"] 1 ["count"] (fun us ws => us ++ ws) (fun vs zs => vs ++ zs)
  kbNoName_name : KBn K dNoNameInit ["self", "name"] 1 ["name"] (fun us ws => us ++ ws) (fun vs zs => vs ++ zs)
  kbNoRow_name : KBn K dNoRowInit ["self", "name"] 1 ["name"] (fun us ws => us ++ ws) (fun vs zs => vs ++ zs)
  kbBadText_place : KBn K dBadTextInit ["self", "place"] 1 ["place"] (fun us ws => us ++ ws) (fun vs zs => vs ++ zs)
  nabs : mg "abs" = none
  nenumerate : mg "enumerate" = none
  nisinstance : mg "isinstance" = none
  nrange : mg "range" = none
section
variable {K : PySem.W.Frag} {mg : Str → Option Value}
def f1s (a : Str) (x : V) : List (Str × V) := [(a, x)]
def f2s (a : Str) (x : V) (b : Str) (y : V) : List (Str × V) := [(a, x), (b, y)]
theorem lk1 {a : Str} {x : V} {r : List (Str × V)} : List.lookup a ((a, x) :: r) = some x := by simp [List.lookup]
theorem lk2 {a b : Str} {x y : V} (h : ¬ b = a) : List.lookup b [(a, x), (b, y)] = some y := by
  have : (b == a) = false := by simpa using h
  simp [List.lookup, this]
/-- an own exception's __init__ that stores one thing, or two -/
def spX1 (C : Addr) (f : Str) : Sp := fun vs H Q _ => ∃ (a : Addr) (u : V), vs = [.ref a, u] ∧ H a = some (exo a C none) ∧
  ∀ (H' : Hp) (d : Addr), H d = none → d ≠ a → H' a = some (exo a C (some d)) → H' d = some (exd d (f1s f u)) → Fr a H H' → Q .non H'
def spX2 (C : Addr) (f g : Str) : Sp := fun vs H Q _ => ∃ (a : Addr) (u v : V), vs = [.ref a, u, v] ∧ H a = some (exo a C none) ∧
  ∀ (H' : Hp) (d : Addr), H d = none → d ≠ a → H' a = some (exo a C (some d)) → H' d = some (exd d (f2s g v f u)) → Fr a H H' → Q .non H'
def spTold (x : Str) : Sp := fun vs H Q _ => ∃ a : Addr, vs = [.ref a] ∧ Q (.str x) H
def spNoJarInit (T : Tx K mg) : Sp := spX1 T.cNoJar "jar"
def spSameJarInit (T : Tx K mg) : Sp := spX1 T.cSameJar "jar"
def spBadStartInit (T : Tx K mg) : Sp := spX1 T.cBadStart "jar"
def spWideInit (T : Tx K mg) : Sp := spX1 T.cWide "count"
def spNoNameInit (T : Tx K mg) : Sp := spX1 T.cNoName "name"
def spNoRowInit (T : Tx K mg) : Sp := spX1 T.cNoRow "name"
def spBadTextInit (T : Tx K mg) : Sp := spX1 T.cBadText "place"
def spBadCountInit (T : Tx K mg) : Sp := spX2 T.cBadCount "what" "count"
def spSizesInit (T : Tx K mg) : Sp := spX2 T.cSizes "a" "b"
def spBadCountTold (T : Tx K mg) : Sp := spTold "refused badcount"
def spNoJarTold (T : Tx K mg) : Sp := spTold "refused nojar"
def spSameJarTold (T : Tx K mg) : Sp := spTold "refused samejar"
def spSizesTold (T : Tx K mg) : Sp := spTold "refused sizes"
def spBadStartTold (T : Tx K mg) : Sp := spTold "refused badstart"
def spOtherJarsTold (T : Tx K mg) : Sp := spTold "refused otherjars"
def spWideTold (T : Tx K mg) : Sp := spTold "refused wide"
def spNoNameTold (T : Tx K mg) : Sp := spTold "refused noname"
def spNoRowTold (T : Tx K mg) : Sp := spTold "refused norow"
def spNoBackTold (T : Tx K mg) : Sp := spTold "refused noback"
def spBadTextTold (T : Tx K mg) : Sp := spTold "refused badtext"
end
section
variable {P : Program} {w : World} {K : PySem.W.Frag} {mg : Str → Option Value} {base : Heap}
theorem okNoJarInit (T : Tx K mg) : FnOk P w K mg base CX0 1 T.aNoJarInit T.dNoJarInit ["self", "jar"] (spNoJarInit T) := by
  refine T.fNoJarInit.ok scNoJarInit (fun vs H Q E h => ?_) (fun cdv A outer s H vs Q E hr h => ?_)
  · obtain ⟨a, u, rfl, _⟩ := h
    rfl
  · obtain ⟨a, u, rfl, ha, hq⟩ := h
    refine ⟨_, (pss_one (ps_ost (pv 0) (pv 1))), ?_⟩
    refine ⟨_, rfl, _, rfl, a, _, rfl, T.oNoJar, T.nNoJar_jar, .inl ⟨ha, fun d hd ne => ?_⟩⟩
    refine hq _ d hd ne upd_same (by rw [upd_ne ne]; exact upd_same) ?_
    exact fun b o n1 e => by
      have n2 := ne_of_none e hd
      rw [upd_ne n1, upd_ne n2]
      exact e
theorem okSameJarInit (T : Tx K mg) : FnOk P w K mg base CX0 1 T.aSameJarInit T.dSameJarInit ["self", "jar"] (spSameJarInit T) := by
  refine T.fSameJarInit.ok scSameJarInit (fun vs H Q E h => ?_) (fun cdv A outer s H vs Q E hr h => ?_)
  · obtain ⟨a, u, rfl, _⟩ := h
    rfl
  · obtain ⟨a, u, rfl, ha, hq⟩ := h
    refine ⟨_, (pss_one (ps_ost (pv 0) (pv 1))), ?_⟩
    refine ⟨_, rfl, _, rfl, a, _, rfl, T.oSameJar, T.nSameJar_jar, .inl ⟨ha, fun d hd ne => ?_⟩⟩
    refine hq _ d hd ne upd_same (by rw [upd_ne ne]; exact upd_same) ?_
    exact fun b o n1 e => by
      have n2 := ne_of_none e hd
      rw [upd_ne n1, upd_ne n2]
      exact e
theorem okBadStartInit (T : Tx K mg) : FnOk P w K mg base CX0 1 T.aBadStartInit T.dBadStartInit ["self", "jar"] (spBadStartInit T) := by
  refine T.fBadStartInit.ok scBadStartInit (fun vs H Q E h => ?_) (fun cdv A outer s H vs Q E hr h => ?_)
  · obtain ⟨a, u, rfl, _⟩ := h
    rfl
  · obtain ⟨a, u, rfl, ha, hq⟩ := h
    refine ⟨_, (pss_one (ps_ost (pv 0) (pv 1))), ?_⟩
    refine ⟨_, rfl, _, rfl, a, _, rfl, T.oBadStart, T.nBadStart_jar, .inl ⟨ha, fun d hd ne => ?_⟩⟩
    refine hq _ d hd ne upd_same (by rw [upd_ne ne]; exact upd_same) ?_
    exact fun b o n1 e => by
      have n2 := ne_of_none e hd
      rw [upd_ne n1, upd_ne n2]
      exact e
theorem okWideInit (T : Tx K mg) : FnOk P w K mg base CX0 1 T.aWideInit T.dWideInit ["self", "count"] (spWideInit T) := by
  refine T.fWideInit.ok scWideInit (fun vs H Q E h => ?_) (fun cdv A outer s H vs Q E hr h => ?_)
  · obtain ⟨a, u, rfl, _⟩ := h
    rfl
  · obtain ⟨a, u, rfl, ha, hq⟩ := h
    refine ⟨_, (pss_one (ps_ost (pv 0) (pv 1))), ?_⟩
    refine ⟨_, rfl, _, rfl, a, _, rfl, T.oWide, T.nWide_count, .inl ⟨ha, fun d hd ne => ?_⟩⟩
    refine hq _ d hd ne upd_same (by rw [upd_ne ne]; exact upd_same) ?_
    exact fun b o n1 e => by
      have n2 := ne_of_none e hd
      rw [upd_ne n1, upd_ne n2]
      exact e
theorem okNoNameInit (T : Tx K mg) : FnOk P w K mg base CX0 1 T.aNoNameInit T.dNoNameInit ["self", "name"] (spNoNameInit T) := by
  refine T.fNoNameInit.ok scNoNameInit (fun vs H Q E h => ?_) (fun cdv A outer s H vs Q E hr h => ?_)
  · obtain ⟨a, u, rfl, _⟩ := h
    rfl
  · obtain ⟨a, u, rfl, ha, hq⟩ := h
    refine ⟨_, (pss_one (ps_ost (pv 0) (pv 1))), ?_⟩
    refine ⟨_, rfl, _, rfl, a, _, rfl, T.oNoName, T.nNoName_name, .inl ⟨ha, fun d hd ne => ?_⟩⟩
    refine hq _ d hd ne upd_same (by rw [upd_ne ne]; exact upd_same) ?_
    exact fun b o n1 e => by
      have n2 := ne_of_none e hd
      rw [upd_ne n1, upd_ne n2]
      exact e
theorem okNoRowInit (T : Tx K mg) : FnOk P w K mg base CX0 1 T.aNoRowInit T.dNoRowInit ["self", "name"] (spNoRowInit T) := by
  refine T.fNoRowInit.ok scNoRowInit (fun vs H Q E h => ?_) (fun cdv A outer s H vs Q E hr h => ?_)
  · obtain ⟨a, u, rfl, _⟩ := h
    rfl
  · obtain ⟨a, u, rfl, ha, hq⟩ := h
    refine ⟨_, (pss_one (ps_ost (pv 0) (pv 1))), ?_⟩
    refine ⟨_, rfl, _, rfl, a, _, rfl, T.oNoRow, T.nNoRow_name, .inl ⟨ha, fun d hd ne => ?_⟩⟩
    refine hq _ d hd ne upd_same (by rw [upd_ne ne]; exact upd_same) ?_
    exact fun b o n1 e => by
      have n2 := ne_of_none e hd
      rw [upd_ne n1, upd_ne n2]
      exact e
theorem okBadTextInit (T : Tx K mg) : FnOk P w K mg base CX0 1 T.aBadTextInit T.dBadTextInit ["self", "place"] (spBadTextInit T) := by
  refine T.fBadTextInit.ok scBadTextInit (fun vs H Q E h => ?_) (fun cdv A outer s H vs Q E hr h => ?_)
  · obtain ⟨a, u, rfl, _⟩ := h
    rfl
  · obtain ⟨a, u, rfl, ha, hq⟩ := h
    refine ⟨_, (pss_one (ps_ost (pv 0) (pv 1))), ?_⟩
    refine ⟨_, rfl, _, rfl, a, _, rfl, T.oBadText, T.nBadText_place, .inl ⟨ha, fun d hd ne => ?_⟩⟩
    refine hq _ d hd ne upd_same (by rw [upd_ne ne]; exact upd_same) ?_
    exact fun b o n1 e => by
      have n2 := ne_of_none e hd
      rw [upd_ne n1, upd_ne n2]
      exact e
theorem okBadCountInit (T : Tx K mg) : FnOk P w K mg base CX0 1 T.aBadCountInit T.dBadCountInit ["self", "what", "count"] (spBadCountInit T) := by
  refine T.fBadCountInit.ok scBadCountInit (fun vs H Q E h => ?_) (fun cdv A outer s H vs Q E hr h => ?_)
  · obtain ⟨a, u, v, rfl, _⟩ := h
    rfl
  · obtain ⟨a, u, v, rfl, ha, hq⟩ := h
    refine ⟨_, (pss_cons (ps_ost (pv 0) (pv 1))
      (pss_one (ps_ost (pv 0) (pv 2)))), ?_⟩
    refine ⟨_, rfl, _, rfl, a, _, rfl, T.oBadCount, T.nBadCount_what, .inl ⟨ha, fun d hd ne => ?_⟩⟩
    refine ⟨_, rfl, _, rfl, a, _, rfl, T.oBadCount, T.nBadCount_count, .inr ⟨d, _, upd_same, by rw [upd_ne ne]; exact upd_same, (by show 1 ≤ 900; decide), ?_⟩⟩
    refine hq _ d hd ne (by rw [upd_ne ne.symm]; exact upd_same) upd_same ?_
    exact fun b o n1 e => by
      have n2 := ne_of_none e hd
      rw [upd_ne n2, upd_ne n1, upd_ne n2]
      exact e
theorem okSizesInit (T : Tx K mg) : FnOk P w K mg base CX0 1 T.aSizesInit T.dSizesInit ["self", "a", "b"] (spSizesInit T) := by
  refine T.fSizesInit.ok scSizesInit (fun vs H Q E h => ?_) (fun cdv A outer s H vs Q E hr h => ?_)
  · obtain ⟨a, u, v, rfl, _⟩ := h
    rfl
  · obtain ⟨a, u, v, rfl, ha, hq⟩ := h
    refine ⟨_, (pss_cons (ps_ost (pv 0) (pv 1))
      (pss_one (ps_ost (pv 0) (pv 2)))), ?_⟩
    refine ⟨_, rfl, _, rfl, a, _, rfl, T.oSizes, T.nSizes_a, .inl ⟨ha, fun d hd ne => ?_⟩⟩
    refine ⟨_, rfl, _, rfl, a, _, rfl, T.oSizes, T.nSizes_b, .inr ⟨d, _, upd_same, by rw [upd_ne ne]; exact upd_same, (by show 1 ≤ 900; decide), ?_⟩⟩
    refine hq _ d hd ne (by rw [upd_ne ne.symm]; exact upd_same) upd_same ?_
    exact fun b o n1 e => by
      have n2 := ne_of_none e hd
      rw [upd_ne n2, upd_ne n1, upd_ne n2]
      exact e
theorem okBadCountTold (T : Tx K mg) : FnOk P w K mg base CX0 1 T.aBadCountTold T.dBadCountTold ["self"] (spBadCountTold T) := by
  refine T.fBadCountTold.ok scBadCountTold (fun vs H Q E h => ?_) (fun cdv A outer s H vs Q E hr h => ?_)
  · obtain ⟨a, rfl, _⟩ := h
    rfl
  · obtain ⟨a, rfl, hq⟩ := h
    refine ⟨_, (pss_one (ps_ret pe_str)), ?_⟩
    exact hq
theorem okNoJarTold (T : Tx K mg) : FnOk P w K mg base CX0 1 T.aNoJarTold T.dNoJarTold ["self"] (spNoJarTold T) := by
  refine T.fNoJarTold.ok scNoJarTold (fun vs H Q E h => ?_) (fun cdv A outer s H vs Q E hr h => ?_)
  · obtain ⟨a, rfl, _⟩ := h
    rfl
  · obtain ⟨a, rfl, hq⟩ := h
    refine ⟨_, (pss_one (ps_ret pe_str)), ?_⟩
    exact hq
theorem okSameJarTold (T : Tx K mg) : FnOk P w K mg base CX0 1 T.aSameJarTold T.dSameJarTold ["self"] (spSameJarTold T) := by
  refine T.fSameJarTold.ok scSameJarTold (fun vs H Q E h => ?_) (fun cdv A outer s H vs Q E hr h => ?_)
  · obtain ⟨a, rfl, _⟩ := h
    rfl
  · obtain ⟨a, rfl, hq⟩ := h
    refine ⟨_, (pss_one (ps_ret pe_str)), ?_⟩
    exact hq
theorem okSizesTold (T : Tx K mg) : FnOk P w K mg base CX0 1 T.aSizesTold T.dSizesTold ["self"] (spSizesTold T) := by
  refine T.fSizesTold.ok scSizesTold (fun vs H Q E h => ?_) (fun cdv A outer s H vs Q E hr h => ?_)
  · obtain ⟨a, rfl, _⟩ := h
    rfl
  · obtain ⟨a, rfl, hq⟩ := h
    refine ⟨_, (pss_one (ps_ret pe_str)), ?_⟩
    exact hq
theorem okBadStartTold (T : Tx K mg) : FnOk P w K mg base CX0 1 T.aBadStartTold T.dBadStartTold ["self"] (spBadStartTold T) := by
  refine T.fBadStartTold.ok scBadStartTold (fun vs H Q E h => ?_) (fun cdv A outer s H vs Q E hr h => ?_)
  · obtain ⟨a, rfl, _⟩ := h
    rfl
  · obtain ⟨a, rfl, hq⟩ := h
    refine ⟨_, (pss_one (ps_ret pe_str)), ?_⟩
    exact hq
theorem okOtherJarsTold (T : Tx K mg) : FnOk P w K mg base CX0 1 T.aOtherJarsTold T.dOtherJarsTold ["self"] (spOtherJarsTold T) := by
  refine T.fOtherJarsTold.ok scOtherJarsTold (fun vs H Q E h => ?_) (fun cdv A outer s H vs Q E hr h => ?_)
  · obtain ⟨a, rfl, _⟩ := h
    rfl
  · obtain ⟨a, rfl, hq⟩ := h
    refine ⟨_, (pss_one (ps_ret pe_str)), ?_⟩
    exact hq
theorem okWideTold (T : Tx K mg) : FnOk P w K mg base CX0 1 T.aWideTold T.dWideTold ["self"] (spWideTold T) := by
  refine T.fWideTold.ok scWideTold (fun vs H Q E h => ?_) (fun cdv A outer s H vs Q E hr h => ?_)
  · obtain ⟨a, rfl, _⟩ := h
    rfl
  · obtain ⟨a, rfl, hq⟩ := h
    refine ⟨_, (pss_one (ps_ret pe_str)), ?_⟩
    exact hq
theorem okNoNameTold (T : Tx K mg) : FnOk P w K mg base CX0 1 T.aNoNameTold T.dNoNameTold ["self"] (spNoNameTold T) := by
  refine T.fNoNameTold.ok scNoNameTold (fun vs H Q E h => ?_) (fun cdv A outer s H vs Q E hr h => ?_)
  · obtain ⟨a, rfl, _⟩ := h
    rfl
  · obtain ⟨a, rfl, hq⟩ := h
    refine ⟨_, (pss_one (ps_ret pe_str)), ?_⟩
    exact hq
theorem okNoRowTold (T : Tx K mg) : FnOk P w K mg base CX0 1 T.aNoRowTold T.dNoRowTold ["self"] (spNoRowTold T) := by
  refine T.fNoRowTold.ok scNoRowTold (fun vs H Q E h => ?_) (fun cdv A outer s H vs Q E hr h => ?_)
  · obtain ⟨a, rfl, _⟩ := h
    rfl
  · obtain ⟨a, rfl, hq⟩ := h
    refine ⟨_, (pss_one (ps_ret pe_str)), ?_⟩
    exact hq
theorem okNoBackTold (T : Tx K mg) : FnOk P w K mg base CX0 1 T.aNoBackTold T.dNoBackTold ["self"] (spNoBackTold T) := by
  refine T.fNoBackTold.ok scNoBackTold (fun vs H Q E h => ?_) (fun cdv A outer s H vs Q E hr h => ?_)
  · obtain ⟨a, rfl, _⟩ := h
    rfl
  · obtain ⟨a, rfl, hq⟩ := h
    refine ⟨_, (pss_one (ps_ret pe_str)), ?_⟩
    exact hq
theorem okBadTextTold (T : Tx K mg) : FnOk P w K mg base CX0 1 T.aBadTextTold T.dBadTextTold ["self"] (spBadTextTold T) := by
  refine T.fBadTextTold.ok scBadTextTold (fun vs H Q E h => ?_) (fun cdv A outer s H vs Q E hr h => ?_)
  · obtain ⟨a, rfl, _⟩ := h
    rfl
  · obtain ⟨a, rfl, hq⟩ := h
    refine ⟨_, (pss_one (ps_ret pe_str)), ?_⟩
    exact hq
end
end Kp

namespace Kp
open PySem PySem.Spec PyProof.Rows L2 KpR
theorem made0 {a : Addr} {o : HO} {H G : Hp} (n : H a = none) (f : Fr a (upd H a o) G) : Same H G := fun b u e => f b u (ne_of_none e n) (by rw [upd_ne (ne_of_none e n)]; exact e)
theorem _root_.KpR.HeldAt.same {H G : Hp} {a C : Addr} {fs : List (Str × V)} (e : Same H G) (h : HeldAt H a C fs) : HeldAt G a C fs := by
  rcases h with ⟨d, h1, h2⟩ | ⟨h1, h2⟩
  · exact .inl ⟨d, e _ _ h1, e _ _ h2⟩
  · exact .inr ⟨e _ _ h1, h2⟩
def HeldV (H : Hp) (x : V) (q : Addr × List (Str × V)) : Prop := ∃ a, x = .ref a ∧ HeldAt H a q.1 q.2
theorem HeldV.same {H G : Hp} {x : V} {q : Addr × List (Str × V)} (e : Same H G) (h : HeldV H x q) : HeldV G x q := by
  obtain ⟨a, rfl, h⟩ := h
  exact ⟨a, rfl, h.same e⟩
section
variable {K : PySem.W.Frag} {mg : Str → Option Value}
/-- the eleven: their classes, their fields -/
def held11 (T : Tx K mg) (u v : V) : List (Addr × List (Str × V)) := [(T.cBadCount, f2s "count" v "what" u), (T.cNoJar, f1s "jar" u), (T.cSameJar, f1s "jar" u), (T.cSizes, f2s "b" v "a" u), (T.cBadStart, f1s "jar" u), (T.cOtherJars, []), (T.cWide, f1s "count" u), (T.cNoName, f1s "name" u), (T.cNoRow, f1s "name" u), (T.cNoBack, []), (T.cBadText, f1s "place" u)]
def spLbyplace (T : Tx K mg) : Sp := fun vs H Q _ => ∃ u v : V, vs = [u, v] ∧ ∀ (H' : Hp) (l : Addr) (xs : List V), H l = none → H' l = some (.lst xs) → A2 (HeldV H') xs (held11 T u v) → Same H H' → Q (.ref l) H'
def spLbyname (T : Tx K mg) : Sp := spLbyplace T
end
section
variable {P : Program} {w : World} {K : PySem.W.Frag} {mg : Str → Option Value} {base : Heap}
theorem okLbyplace (T : Tx K mg) : FnOk P w K mg base CX0 3 T.aLbyplace T.dLbyplace ["_law_one", "_law_other"] (spLbyplace T) := by
  refine T.fLbyplace.ok scLbyplace (fun vs H Q E h => ?_) (fun cdv A outer s H vs Q E hr h => ?_)
  · obtain ⟨u, v, rfl, _⟩ := h
    rfl
  · obtain ⟨u, v, rfl, hq⟩ := h
    refine ⟨_, (pss_one (ps_ret (pe_lst (pa_cons (pe_oexV T.oBadCount T.iBadCount T.tBadCount (okBadCountInit T) (hr.mono (by decide)) T.bBadCountInit pass0 rfl T.mBadCount (pa_cons (pv 0) (pa_cons (pv 1) pa_nil))) (pa_cons (pe_oexV T.oNoJar T.iNoJar T.tNoJar (okNoJarInit T) (hr.mono (by decide)) T.bNoJarInit pass0 rfl T.mNoJar (pa_cons (pv 0) pa_nil)) (pa_cons (pe_oexV T.oSameJar T.iSameJar T.tSameJar (okSameJarInit T) (hr.mono (by decide)) T.bSameJarInit pass0 rfl T.mSameJar (pa_cons (pv 0) pa_nil)) (pa_cons (pe_oexV T.oSizes T.iSizes T.tSizes (okSizesInit T) (hr.mono (by decide)) T.bSizesInit pass0 rfl T.mSizes (pa_cons (pv 0) (pa_cons (pv 1) pa_nil))) (pa_cons (pe_oexV T.oBadStart T.iBadStart T.tBadStart (okBadStartInit T) (hr.mono (by decide)) T.bBadStartInit pass0 rfl T.mBadStart (pa_cons (pv 0) pa_nil)) (pa_cons (pe_exc0V PySem.F.excBase_ValueError T.xqOtherJars T.mOtherJars T.kxOtherJars rfl) (pa_cons (pe_oexV T.oWide T.iWide T.tWide (okWideInit T) (hr.mono (by decide)) T.bWideInit pass0 rfl T.mWide (pa_cons (pv 0) pa_nil)) (pa_cons (pe_oexV T.oNoName T.iNoName T.tNoName (okNoNameInit T) (hr.mono (by decide)) T.bNoNameInit pass0 rfl T.mNoName (pa_cons (pv 0) pa_nil)) (pa_cons (pe_oexV T.oNoRow T.iNoRow T.tNoRow (okNoRowInit T) (hr.mono (by decide)) T.bNoRowInit pass0 rfl T.mNoRow (pa_cons (pv 0) pa_nil)) (pa_cons (pe_exc0V PySem.F.excBase_ValueError T.xqNoBack T.mNoBack T.kxNoBack rfl) (pa_cons (pe_oexV T.oBadText T.iBadText T.tBadText (okBadTextInit T) (hr.mono (by decide)) T.bBadTextInit pass0 rfl T.mBadText (pa_cons (pv 0) pa_nil)) pa_nil)))))))))))))), ?_⟩
    refine ⟨_, rfl, _, rfl, (by show 2 ≤ 1000; decide), fun a0 n0 => ?_⟩
    refine ⟨a0, _, _, rfl, upd_same, fun G0 d0 nd0 ne0 h0 x0 fr0 => ⟨rfl, ?_⟩⟩
    have s0 : Same H G0 := made0 n0 fr0
    have k0 : HeldAt G0 a0 T.cBadCount (f2s "count" v "what" u) := .inl ⟨d0, h0, x0⟩
    refine ⟨_, rfl, (by show 1 ≤ 1000; decide), fun a1 n1 => ?_⟩
    refine ⟨a1, _, rfl, upd_same, fun G1 d1 nd1 ne1 h1 x1 fr1 => ⟨rfl, ?_⟩⟩
    have s1 : Same G0 G1 := made0 n1 fr1
    have k1 : HeldAt G1 a1 T.cNoJar (f1s "jar" u) := .inl ⟨d1, h1, x1⟩
    refine ⟨_, rfl, (by show 1 ≤ 1000; decide), fun a2 n2 => ?_⟩
    refine ⟨a2, _, rfl, upd_same, fun G2 d2 nd2 ne2 h2 x2 fr2 => ⟨rfl, ?_⟩⟩
    have s2 : Same G1 G2 := made0 n2 fr2
    have k2 : HeldAt G2 a2 T.cSameJar (f1s "jar" u) := .inl ⟨d2, h2, x2⟩
    refine ⟨_, rfl, _, rfl, (by show 2 ≤ 1000; decide), fun a3 n3 => ?_⟩
    refine ⟨a3, _, _, rfl, upd_same, fun G3 d3 nd3 ne3 h3 x3 fr3 => ⟨rfl, ?_⟩⟩
    have s3 : Same G2 G3 := made0 n3 fr3
    have k3 : HeldAt G3 a3 T.cSizes (f2s "b" v "a" u) := .inl ⟨d3, h3, x3⟩
    refine ⟨_, rfl, (by show 1 ≤ 1000; decide), fun a4 n4 => ?_⟩
    refine ⟨a4, _, rfl, upd_same, fun G4 d4 nd4 ne4 h4 x4 fr4 => ⟨rfl, ?_⟩⟩
    have s4 : Same G3 G4 := made0 n4 fr4
    have k4 : HeldAt G4 a4 T.cBadStart (f1s "jar" u) := .inl ⟨d4, h4, x4⟩
    refine fun a5 n5 => ?_
    have s5 := same_new (o := exo a5 T.cOtherJars none) n5
    have k5 : HeldAt (upd G4 a5 (exo a5 T.cOtherJars none)) a5 T.cOtherJars [] := .inr ⟨upd_same, rfl⟩
    generalize upd G4 a5 (exo a5 T.cOtherJars none) = G5 at s5 k5 ⊢
    refine ⟨_, rfl, (by show 1 ≤ 1000; decide), fun a6 n6 => ?_⟩
    refine ⟨a6, _, rfl, upd_same, fun G6 d6 nd6 ne6 h6 x6 fr6 => ⟨rfl, ?_⟩⟩
    have s6 : Same G5 G6 := made0 n6 fr6
    have k6 : HeldAt G6 a6 T.cWide (f1s "count" u) := .inl ⟨d6, h6, x6⟩
    refine ⟨_, rfl, (by show 1 ≤ 1000; decide), fun a7 n7 => ?_⟩
    refine ⟨a7, _, rfl, upd_same, fun G7 d7 nd7 ne7 h7 x7 fr7 => ⟨rfl, ?_⟩⟩
    have s7 : Same G6 G7 := made0 n7 fr7
    have k7 : HeldAt G7 a7 T.cNoName (f1s "name" u) := .inl ⟨d7, h7, x7⟩
    refine ⟨_, rfl, (by show 1 ≤ 1000; decide), fun a8 n8 => ?_⟩
    refine ⟨a8, _, rfl, upd_same, fun G8 d8 nd8 ne8 h8 x8 fr8 => ⟨rfl, ?_⟩⟩
    have s8 : Same G7 G8 := made0 n8 fr8
    have k8 : HeldAt G8 a8 T.cNoRow (f1s "name" u) := .inl ⟨d8, h8, x8⟩
    refine fun a9 n9 => ?_
    have s9 := same_new (o := exo a9 T.cNoBack none) n9
    have k9 : HeldAt (upd G8 a9 (exo a9 T.cNoBack none)) a9 T.cNoBack [] := .inr ⟨upd_same, rfl⟩
    generalize upd G8 a9 (exo a9 T.cNoBack none) = G9 at s9 k9 ⊢
    refine ⟨_, rfl, (by show 1 ≤ 1000; decide), fun a10 n10 => ?_⟩
    refine ⟨a10, _, rfl, upd_same, fun G10 d10 nd10 ne10 h10 x10 fr10 => ⟨rfl, ?_⟩⟩
    have s10 : Same G9 G10 := made0 n10 fr10
    have k10 : HeldAt G10 a10 T.cBadText (f1s "place" u) := .inl ⟨d10, h10, x10⟩
    refine ⟨(by show 11 ≤ sizeLine; decide), fun l hl => ?_⟩
    have sl := same_new (o := HO.lst [V.ref a0, V.ref a1, V.ref a2, V.ref a3, V.ref a4, V.ref a5, V.ref a6, V.ref a7, V.ref a8, V.ref a9, V.ref a10]) hl
    have free : H l = none := by
      have all := (s0.trans (s1.trans (s2.trans (s3.trans (s4.trans (s5.trans (s6.trans (s7.trans (s8.trans (s9.trans (s10.trans sl)))))))))))
      exact Classical.byContradiction fun z => by
        obtain ⟨o, e⟩ := Option.ne_none_iff_exists'.mp z
        have := (s0.trans (s1.trans (s2.trans (s3.trans (s4.trans (s5.trans (s6.trans (s7.trans (s8.trans (s9.trans s10)))))))))) _ _ e
        rw [hl] at this
        cases this
    refine hq _ l _ free upd_same ⟨⟨a0, rfl, k0.same (s1.trans (s2.trans (s3.trans (s4.trans (s5.trans (s6.trans (s7.trans (s8.trans (s9.trans (s10.trans sl))))))))))⟩, ⟨a1, rfl, k1.same (s2.trans (s3.trans (s4.trans (s5.trans (s6.trans (s7.trans (s8.trans (s9.trans (s10.trans sl)))))))))⟩, ⟨a2, rfl, k2.same (s3.trans (s4.trans (s5.trans (s6.trans (s7.trans (s8.trans (s9.trans (s10.trans sl))))))))⟩, ⟨a3, rfl, k3.same (s4.trans (s5.trans (s6.trans (s7.trans (s8.trans (s9.trans (s10.trans sl)))))))⟩, ⟨a4, rfl, k4.same (s5.trans (s6.trans (s7.trans (s8.trans (s9.trans (s10.trans sl))))))⟩, ⟨a5, rfl, k5.same (s6.trans (s7.trans (s8.trans (s9.trans (s10.trans sl)))))⟩, ⟨a6, rfl, k6.same (s7.trans (s8.trans (s9.trans (s10.trans sl))))⟩, ⟨a7, rfl, k7.same (s8.trans (s9.trans (s10.trans sl)))⟩, ⟨a8, rfl, k8.same (s9.trans (s10.trans sl))⟩, ⟨a9, rfl, k9.same (s10.trans sl)⟩, ⟨a10, rfl, k10.same sl⟩, trivial⟩ (s0.trans (s1.trans (s2.trans (s3.trans (s4.trans (s5.trans (s6.trans (s7.trans (s8.trans (s9.trans (s10.trans sl)))))))))))
end
end Kp

namespace Kp
open PySem PySem.Spec PyProof.Rows L2 KpR
section
variable {P : Program} {w : World} {K : PySem.W.Frag} {mg : Str → Option Value} {base : Heap}
theorem okLbyname (T : Tx K mg) : FnOk P w K mg base CX0 3 T.aLbyname T.dLbyname ["_law_one", "_law_other"] (spLbyname T) := by
  refine T.fLbyname.ok scLbyname (fun vs H Q E h => ?_) (fun cdv A outer s H vs Q E hr h => ?_)
  · obtain ⟨u, v, rfl, _⟩ := h
    rfl
  · obtain ⟨u, v, rfl, hq⟩ := h
    refine ⟨_, (pss_cons (ps_set (i := 2) scLbyname.nd rfl (by first | exact Or.inl rfl | exact Or.inr rfl) (pe_lst (pa_cons (pe_oexK T.oBadCount T.iBadCount T.tBadCount (okBadCountInit T) (hr.mono (by decide)) T.kbBadCount_count_what pass0 rfl T.mBadCount (pk_cons (pv 1) (pk_cons (pv 0) pk_nil))) (pa_cons (pe_oexK T.oNoJar T.iNoJar T.tNoJar (okNoJarInit T) (hr.mono (by decide)) T.kbNoJar_jar pass0 rfl T.mNoJar (pk_cons (pv 0) pk_nil)) (pa_cons (pe_oexK T.oSameJar T.iSameJar T.tSameJar (okSameJarInit T) (hr.mono (by decide)) T.kbSameJar_jar pass0 rfl T.mSameJar (pk_cons (pv 0) pk_nil)) (pa_cons (pe_oexK T.oSizes T.iSizes T.tSizes (okSizesInit T) (hr.mono (by decide)) T.kbSizes_b_a pass0 rfl T.mSizes (pk_cons (pv 1) (pk_cons (pv 0) pk_nil))) pa_nil))))))
      (pss_cons (ps_set (i := 2) scLbyname.nd rfl (by first | exact Or.inl rfl | exact Or.inr rfl) (pe_op op_catR (pv 2) (pe_lst (pa_cons (pe_oexK T.oBadStart T.iBadStart T.tBadStart (okBadStartInit T) (hr.mono (by decide)) T.kbBadStart_jar pass0 rfl T.mBadStart (pk_cons (pv 0) pk_nil)) (pa_cons (pe_exc0V PySem.F.excBase_ValueError T.xqOtherJars T.mOtherJars T.kxOtherJars rfl) (pa_cons (pe_oexK T.oWide T.iWide T.tWide (okWideInit T) (hr.mono (by decide)) T.kbWide_count pass0 rfl T.mWide (pk_cons (pv 0) pk_nil)) (pa_cons (pe_oexK T.oNoName T.iNoName T.tNoName (okNoNameInit T) (hr.mono (by decide)) T.kbNoName_name pass0 rfl T.mNoName (pk_cons (pv 0) pk_nil)) (pa_cons (pe_oexK T.oNoRow T.iNoRow T.tNoRow (okNoRowInit T) (hr.mono (by decide)) T.kbNoRow_name pass0 rfl T.mNoRow (pk_cons (pv 0) pk_nil)) pa_nil))))))))
      (pss_one (ps_ret (pe_op op_catR (pv 2) (pe_lst (pa_cons (pe_exc0V PySem.F.excBase_ValueError T.xqNoBack T.mNoBack T.kxNoBack rfl) (pa_cons (pe_oexK T.oBadText T.iBadText T.tBadText (okBadTextInit T) (hr.mono (by decide)) T.kbBadText_place pass0 rfl T.mBadText (pk_cons (pv 0) pk_nil)) pa_nil)))))))), ?_⟩
    refine ⟨_, rfl, _, rfl, rfl, fun a0 n0 => ?_⟩
    refine ⟨a0, _, _, rfl, upd_same, fun G0 d0 nd0 ne0 h0 x0 fr0 => ⟨rfl, ?_⟩⟩
    have s0 : Same H G0 := made0 n0 fr0
    have k0 : HeldAt G0 a0 T.cBadCount (f2s "count" v "what" u) := .inl ⟨d0, h0, x0⟩
    refine ⟨_, rfl, rfl, fun a1 n1 => ?_⟩
    refine ⟨a1, _, rfl, upd_same, fun G1 d1 nd1 ne1 h1 x1 fr1 => ⟨rfl, ?_⟩⟩
    have s1 : Same G0 G1 := made0 n1 fr1
    have k1 : HeldAt G1 a1 T.cNoJar (f1s "jar" u) := .inl ⟨d1, h1, x1⟩
    refine ⟨_, rfl, rfl, fun a2 n2 => ?_⟩
    refine ⟨a2, _, rfl, upd_same, fun G2 d2 nd2 ne2 h2 x2 fr2 => ⟨rfl, ?_⟩⟩
    have s2 : Same G1 G2 := made0 n2 fr2
    have k2 : HeldAt G2 a2 T.cSameJar (f1s "jar" u) := .inl ⟨d2, h2, x2⟩
    refine ⟨_, rfl, _, rfl, rfl, fun a3 n3 => ?_⟩
    refine ⟨a3, _, _, rfl, upd_same, fun G3 d3 nd3 ne3 h3 x3 fr3 => ⟨rfl, ?_⟩⟩
    have s3 : Same G2 G3 := made0 n3 fr3
    have k3 : HeldAt G3 a3 T.cSizes (f2s "b" v "a" u) := .inl ⟨d3, h3, x3⟩
    refine ⟨(by show 4 ≤ sizeLine; decide), fun l1 nl1 => ?_⟩
    have sl1 := same_new (o := HO.lst [V.ref a0, V.ref a1, V.ref a2, V.ref a3]) nl1
    have gl1 : upd G3 l1 (HO.lst [V.ref a0, V.ref a1, V.ref a2, V.ref a3]) l1 = some (.lst [V.ref a0, V.ref a1, V.ref a2, V.ref a3]) := upd_same
    generalize upd G3 l1 (HO.lst [V.ref a0, V.ref a1, V.ref a2, V.ref a3]) = Hl1 at sl1 gl1 ⊢
    refine ⟨_, rfl, ?_⟩
    refine ⟨_, rfl, rfl, fun a4 n4 => ?_⟩
    refine ⟨a4, _, rfl, upd_same, fun G4 d4 nd4 ne4 h4 x4 fr4 => ⟨rfl, ?_⟩⟩
    have s4 : Same Hl1 G4 := made0 n4 fr4
    have k4 : HeldAt G4 a4 T.cBadStart (f1s "jar" u) := .inl ⟨d4, h4, x4⟩
    refine fun a5 n5 => ?_
    have s5 := same_new (o := exo a5 T.cOtherJars none) n5
    have k5 : HeldAt (upd G4 a5 (exo a5 T.cOtherJars none)) a5 T.cOtherJars [] := .inr ⟨upd_same, rfl⟩
    generalize upd G4 a5 (exo a5 T.cOtherJars none) = G5 at s5 k5 ⊢
    refine ⟨_, rfl, rfl, fun a6 n6 => ?_⟩
    refine ⟨a6, _, rfl, upd_same, fun G6 d6 nd6 ne6 h6 x6 fr6 => ⟨rfl, ?_⟩⟩
    have s6 : Same G5 G6 := made0 n6 fr6
    have k6 : HeldAt G6 a6 T.cWide (f1s "count" u) := .inl ⟨d6, h6, x6⟩
    refine ⟨_, rfl, rfl, fun a7 n7 => ?_⟩
    refine ⟨a7, _, rfl, upd_same, fun G7 d7 nd7 ne7 h7 x7 fr7 => ⟨rfl, ?_⟩⟩
    have s7 : Same G6 G7 := made0 n7 fr7
    have k7 : HeldAt G7 a7 T.cNoName (f1s "name" u) := .inl ⟨d7, h7, x7⟩
    refine ⟨_, rfl, rfl, fun a8 n8 => ?_⟩
    refine ⟨a8, _, rfl, upd_same, fun G8 d8 nd8 ne8 h8 x8 fr8 => ⟨rfl, ?_⟩⟩
    have s8 : Same G7 G8 := made0 n8 fr8
    have k8 : HeldAt G8 a8 T.cNoRow (f1s "name" u) := .inl ⟨d8, h8, x8⟩
    refine ⟨(by show 5 ≤ sizeLine; decide), fun l2 nl2 => ?_⟩
    have sl2 := same_new (o := HO.lst [V.ref a4, V.ref a5, V.ref a6, V.ref a7, V.ref a8]) nl2
    have gl2 : upd G8 l2 (HO.lst [V.ref a4, V.ref a5, V.ref a6, V.ref a7, V.ref a8]) l2 = some (.lst [V.ref a4, V.ref a5, V.ref a6, V.ref a7, V.ref a8]) := upd_same
    generalize upd G8 l2 (HO.lst [V.ref a4, V.ref a5, V.ref a6, V.ref a7, V.ref a8]) = Hl2 at sl2 gl2 ⊢
    refine ⟨l1, l2, _, _, rfl, rfl, SqL.of ((s4.trans (s5.trans (s6.trans (s7.trans (s8.trans sl2))))) _ _ gl1), SqL.of gl2, (by show 9 ≤ sizeLine; decide), fun l3 nl3 => ?_⟩
    have sl3 := same_new (o := HO.lst ([V.ref a0, V.ref a1, V.ref a2, V.ref a3] ++ [V.ref a4, V.ref a5, V.ref a6, V.ref a7, V.ref a8])) nl3
    have gl3 : upd Hl2 l3 (HO.lst ([V.ref a0, V.ref a1, V.ref a2, V.ref a3] ++ [V.ref a4, V.ref a5, V.ref a6, V.ref a7, V.ref a8])) l3 = some (.lst [V.ref a0, V.ref a1, V.ref a2, V.ref a3, V.ref a4, V.ref a5, V.ref a6, V.ref a7, V.ref a8]) := upd_same
    generalize upd Hl2 l3 (HO.lst ([V.ref a0, V.ref a1, V.ref a2, V.ref a3] ++ [V.ref a4, V.ref a5, V.ref a6, V.ref a7, V.ref a8])) = Hl3 at sl3 gl3 ⊢
    refine ⟨_, rfl, ?_⟩
    refine fun a9 n9 => ?_
    have s9 := same_new (o := exo a9 T.cNoBack none) n9
    have k9 : HeldAt (upd Hl3 a9 (exo a9 T.cNoBack none)) a9 T.cNoBack [] := .inr ⟨upd_same, rfl⟩
    generalize upd Hl3 a9 (exo a9 T.cNoBack none) = G9 at s9 k9 ⊢
    refine ⟨_, rfl, rfl, fun a10 n10 => ?_⟩
    refine ⟨a10, _, rfl, upd_same, fun G10 d10 nd10 ne10 h10 x10 fr10 => ⟨rfl, ?_⟩⟩
    have s10 : Same G9 G10 := made0 n10 fr10
    have k10 : HeldAt G10 a10 T.cBadText (f1s "place" u) := .inl ⟨d10, h10, x10⟩
    refine ⟨(by show 2 ≤ sizeLine; decide), fun l4 nl4 => ?_⟩
    have sl4 := same_new (o := HO.lst [V.ref a9, V.ref a10]) nl4
    have gl4 : upd G10 l4 (HO.lst [V.ref a9, V.ref a10]) l4 = some (.lst [V.ref a9, V.ref a10]) := upd_same
    generalize upd G10 l4 (HO.lst [V.ref a9, V.ref a10]) = Hl4 at sl4 gl4 ⊢
    refine ⟨l3, l4, _, _, rfl, rfl, SqL.of ((s9.trans (s10.trans sl4)) _ _ gl3), SqL.of gl4, (by show 11 ≤ sizeLine; decide), fun l5 nl5 => ?_⟩
    have sl5 := same_new (o := HO.lst ([V.ref a0, V.ref a1, V.ref a2, V.ref a3, V.ref a4, V.ref a5, V.ref a6, V.ref a7, V.ref a8] ++ [V.ref a9, V.ref a10])) nl5
    have gl5 : upd Hl4 l5 (HO.lst ([V.ref a0, V.ref a1, V.ref a2, V.ref a3, V.ref a4, V.ref a5, V.ref a6, V.ref a7, V.ref a8] ++ [V.ref a9, V.ref a10])) l5 = some (.lst [V.ref a0, V.ref a1, V.ref a2, V.ref a3, V.ref a4, V.ref a5, V.ref a6, V.ref a7, V.ref a8, V.ref a9, V.ref a10]) := upd_same
    generalize upd Hl4 l5 (HO.lst ([V.ref a0, V.ref a1, V.ref a2, V.ref a3, V.ref a4, V.ref a5, V.ref a6, V.ref a7, V.ref a8] ++ [V.ref a9, V.ref a10])) = Hl5 at sl5 gl5 ⊢
    have all := (s0.trans (s1.trans (s2.trans (s3.trans (sl1.trans (s4.trans (s5.trans (s6.trans (s7.trans (s8.trans (sl2.trans (sl3.trans (s9.trans (s10.trans sl4))))))))))))))
    have free : H l5 = none := Classical.byContradiction fun z => by
      obtain ⟨o, e⟩ := Option.ne_none_iff_exists'.mp z
      have := all _ _ e
      rw [nl5] at this
      cases this
    refine hq _ l5 _ free gl5 ⟨⟨a0, rfl, k0.same (s1.trans (s2.trans (s3.trans (sl1.trans (s4.trans (s5.trans (s6.trans (s7.trans (s8.trans (sl2.trans (sl3.trans (s9.trans (s10.trans (sl4.trans sl5))))))))))))))⟩, ⟨a1, rfl, k1.same (s2.trans (s3.trans (sl1.trans (s4.trans (s5.trans (s6.trans (s7.trans (s8.trans (sl2.trans (sl3.trans (s9.trans (s10.trans (sl4.trans sl5)))))))))))))⟩, ⟨a2, rfl, k2.same (s3.trans (sl1.trans (s4.trans (s5.trans (s6.trans (s7.trans (s8.trans (sl2.trans (sl3.trans (s9.trans (s10.trans (sl4.trans sl5))))))))))))⟩, ⟨a3, rfl, k3.same (sl1.trans (s4.trans (s5.trans (s6.trans (s7.trans (s8.trans (sl2.trans (sl3.trans (s9.trans (s10.trans (sl4.trans sl5)))))))))))⟩, ⟨a4, rfl, k4.same (s5.trans (s6.trans (s7.trans (s8.trans (sl2.trans (sl3.trans (s9.trans (s10.trans (sl4.trans sl5)))))))))⟩, ⟨a5, rfl, k5.same (s6.trans (s7.trans (s8.trans (sl2.trans (sl3.trans (s9.trans (s10.trans (sl4.trans sl5))))))))⟩, ⟨a6, rfl, k6.same (s7.trans (s8.trans (sl2.trans (sl3.trans (s9.trans (s10.trans (sl4.trans sl5)))))))⟩, ⟨a7, rfl, k7.same (s8.trans (sl2.trans (sl3.trans (s9.trans (s10.trans (sl4.trans sl5))))))⟩, ⟨a8, rfl, k8.same (sl2.trans (sl3.trans (s9.trans (s10.trans (sl4.trans sl5)))))⟩, ⟨a9, rfl, k9.same (s10.trans (sl4.trans sl5))⟩, ⟨a10, rfl, k10.same (sl4.trans sl5)⟩, trivial⟩ (all.trans sl5)
end
end Kp

namespace Kp
open PySem PySem.Spec PyProof.Rows L2 KpR
theorem held_in {H : Hp} {a C : Addr} {fs : List (Str × V)} (h : HeldAt H a C fs) (n : fs ≠ []) : ∃ dx, H a = some (exo a C (some dx)) ∧ H dx = some (exd dx fs) := by
  rcases h with h | ⟨_, e⟩
  · exact h
  · exact absurd e n
section
variable {K : PySem.W.Frag} {mg : Str → Option Value}
theorem held11_ex {T : Tx K mg} {H : Hp} {u v : V} {xs : List V} (h : A2 (HeldV H) xs (held11 T u v)) : ∃ a0 a1 a2 a3 a4 a5 a6 a7 a8 a9 a10 : Addr, xs = [V.ref a0, V.ref a1, V.ref a2, V.ref a3, V.ref a4, V.ref a5, V.ref a6, V.ref a7, V.ref a8, V.ref a9, V.ref a10] ∧ HeldAt H a0 T.cBadCount (f2s "count" v "what" u) ∧ HeldAt H a1 T.cNoJar (f1s "jar" u) ∧ HeldAt H a2 T.cSameJar (f1s "jar" u) ∧ HeldAt H a3 T.cSizes (f2s "b" v "a" u) ∧ HeldAt H a4 T.cBadStart (f1s "jar" u) ∧ HeldAt H a5 T.cOtherJars ([]) ∧ HeldAt H a6 T.cWide (f1s "count" u) ∧ HeldAt H a7 T.cNoName (f1s "name" u) ∧ HeldAt H a8 T.cNoRow (f1s "name" u) ∧ HeldAt H a9 T.cNoBack ([]) ∧ HeldAt H a10 T.cBadText (f1s "place" u) :=
  match xs, h with
  | [_, _, _, _, _, _, _, _, _, _, _], ⟨⟨a0, rfl, k0⟩, ⟨a1, rfl, k1⟩, ⟨a2, rfl, k2⟩, ⟨a3, rfl, k3⟩, ⟨a4, rfl, k4⟩, ⟨a5, rfl, k5⟩, ⟨a6, rfl, k6⟩, ⟨a7, rfl, k7⟩, ⟨a8, rfl, k8⟩, ⟨a9, rfl, k9⟩, ⟨a10, rfl, k10⟩, _⟩ => ⟨a0, a1, a2, a3, a4, a5, a6, a7, a8, a9, a10, rfl, k0, k1, k2, k3, k4, k5, k6, k7, k8, k9, k10⟩
def spLfields (T : Tx K mg) : Sp := fun vs H Q _ => ∃ (l : Addr) (xs : List V) (u v : V), vs = [.ref l] ∧ H l = some (.lst xs) ∧ A2 (HeldV H) xs (held11 T u v) ∧
  ∀ (H' : Hp) (r t1 t2 : Addr), H r = none → H' r = some (.lst [.ref t1, u, u, .ref t2, u, u, u, u, u]) → H' t1 = some (.tup [u, v]) → H' t2 = some (.tup [u, v]) → Same H H' → Q (.ref r) H'
end
section
variable {P : Program} {w : World} {K : PySem.W.Frag} {mg : Str → Option Value} {base : Heap}
theorem okLfields (T : Tx K mg) : FnOk P w K mg base CX0 1 T.aLfields T.dLfields ["_law_some"] (spLfields T) := by
  refine T.fLfields.ok scLfields (fun vs H Q E h => ?_) (fun cdv A outer s H vs Q E hr h => ?_)
  · obtain ⟨l, xs, u, v, rfl, _⟩ := h
    rfl
  · obtain ⟨l, xs, u, v, rfl, hl, hA, hq⟩ := h
    refine ⟨_, (pss_cons (ps_set (i := 1) scLfields.nd rfl (by first | exact Or.inl rfl | exact Or.inr rfl) (pe_lst (pa_cons (pe_tup (pa_cons (pe_xfV (pe_ix (r := rIxL K) ix_list (pv 0) pe_int (fun _ _ => rfl))) (pa_cons (pe_xfV (pe_ix (r := rIxL K) ix_list (pv 0) pe_int (fun _ _ => rfl))) pa_nil))) (pa_cons (pe_xfV (pe_ix (r := rIxL K) ix_list (pv 0) pe_int (fun _ _ => rfl))) (pa_cons (pe_xfV (pe_ix (r := rIxL K) ix_list (pv 0) pe_int (fun _ _ => rfl))) (pa_cons (pe_tup (pa_cons (pe_xfV (pe_ix (r := rIxL K) ix_list (pv 0) pe_int (fun _ _ => rfl))) (pa_cons (pe_xfV (pe_ix (r := rIxL K) ix_list (pv 0) pe_int (fun _ _ => rfl))) pa_nil))) (pa_cons (pe_xfV (pe_ix (r := rIxL K) ix_list (pv 0) pe_int (fun _ _ => rfl))) pa_nil)))))))
      (pss_one (ps_ret (pe_op op_catR (pv 1) (pe_lst (pa_cons (pe_xfV (pe_ix (r := rIxL K) ix_list (pv 0) pe_int (fun _ _ => rfl))) (pa_cons (pe_xfV (pe_ix (r := rIxL K) ix_list (pv 0) pe_int (fun _ _ => rfl))) (pa_cons (pe_xfV (pe_ix (r := rIxL K) ix_list (pv 0) pe_int (fun _ _ => rfl))) (pa_cons (pe_xfV (pe_ix (r := rIxL K) ix_list (pv 0) pe_int (fun _ _ => rfl))) pa_nil))))))))), ?_⟩
    obtain ⟨a0, a1, a2, a3, a4, a5, a6, a7, a8, a9, a10, rfl, k0, k1, k2, k3, k4, k5, k6, k7, k8, k9, k10⟩ := held11_ex hA
    obtain ⟨d0, e0, x0⟩ := held_in k0 (by simp [f1s, f2s])
    obtain ⟨d1, e1, x1⟩ := held_in k1 (by simp [f1s, f2s])
    obtain ⟨d2, e2, x2⟩ := held_in k2 (by simp [f1s, f2s])
    obtain ⟨d3, e3, x3⟩ := held_in k3 (by simp [f1s, f2s])
    obtain ⟨d4, e4, x4⟩ := held_in k4 (by simp [f1s, f2s])
    obtain ⟨d6, e6, x6⟩ := held_in k6 (by simp [f1s, f2s])
    obtain ⟨d7, e7, x7⟩ := held_in k7 (by simp [f1s, f2s])
    obtain ⟨d8, e8, x8⟩ := held_in k8 (by simp [f1s, f2s])
    obtain ⟨d10, e10, x10⟩ := held_in k10 (by simp [f1s, f2s])
    refine ⟨_, rfl, l, _, _, _, rfl, rfl, SqL.of hl, rfl, a0, T.cBadCount, d0, _, u, rfl, T.xfBadCount, T.nBadCount_what, e0, x0, lk2 (by decide), ?_⟩
    refine ⟨_, rfl, l, _, _, _, rfl, rfl, SqL.of hl, rfl, a0, T.cBadCount, d0, _, v, rfl, T.xfBadCount, T.nBadCount_count, e0, x0, lk1, ?_⟩
    refine ⟨(by show 2 ≤ sizeLine; decide), fun t1 n1 => ?_⟩
    have s1 := same_new (o := HO.tup [u, v]) n1
    have g1 : upd H t1 (HO.tup [u, v]) t1 = some (.tup [u, v]) := upd_same
    generalize upd H t1 (HO.tup [u, v]) = H1 at s1 g1 ⊢
    refine ⟨_, rfl, l, _, _, _, rfl, rfl, SqL.of (s1 _ _ hl), rfl, a1, T.cNoJar, d1, _, u, rfl, T.xfNoJar, T.nNoJar_jar, (s1 _ _ e1), (s1 _ _ x1), lk1, ?_⟩
    refine ⟨_, rfl, l, _, _, _, rfl, rfl, SqL.of (s1 _ _ hl), rfl, a2, T.cSameJar, d2, _, u, rfl, T.xfSameJar, T.nSameJar_jar, (s1 _ _ e2), (s1 _ _ x2), lk1, ?_⟩
    refine ⟨_, rfl, l, _, _, _, rfl, rfl, SqL.of (s1 _ _ hl), rfl, a3, T.cSizes, d3, _, u, rfl, T.xfSizes, T.nSizes_a, (s1 _ _ e3), (s1 _ _ x3), lk2 (by decide), ?_⟩
    refine ⟨_, rfl, l, _, _, _, rfl, rfl, SqL.of (s1 _ _ hl), rfl, a3, T.cSizes, d3, _, v, rfl, T.xfSizes, T.nSizes_b, (s1 _ _ e3), (s1 _ _ x3), lk1, ?_⟩
    refine ⟨(by show 2 ≤ sizeLine; decide), fun t2 n2 => ?_⟩
    have s2 := same_new (o := HO.tup [u, v]) n2
    have g2 : upd H1 t2 (HO.tup [u, v]) t2 = some (.tup [u, v]) := upd_same
    generalize upd H1 t2 (HO.tup [u, v]) = H2 at s2 g2 ⊢
    have s12 := s1.trans s2
    refine ⟨_, rfl, l, _, _, _, rfl, rfl, SqL.of (s12 _ _ hl), rfl, a4, T.cBadStart, d4, _, u, rfl, T.xfBadStart, T.nBadStart_jar, (s12 _ _ e4), (s12 _ _ x4), lk1, ?_⟩
    refine ⟨(by show 5 ≤ sizeLine; decide), fun l1 nl1 => ?_⟩
    have sl1 := same_new (o := HO.lst [V.ref t1, u, u, V.ref t2, u]) nl1
    have gl1 : upd H2 l1 (HO.lst [V.ref t1, u, u, V.ref t2, u]) l1 = some (.lst [V.ref t1, u, u, V.ref t2, u]) := upd_same
    generalize upd H2 l1 (HO.lst [V.ref t1, u, u, V.ref t2, u]) = H3 at sl1 gl1 ⊢
    have s13 := s12.trans sl1
    refine ⟨_, rfl, ?_⟩
    refine ⟨_, rfl, l, _, _, _, rfl, rfl, SqL.of (s13 _ _ hl), rfl, a6, T.cWide, d6, _, u, rfl, T.xfWide, T.nWide_count, (s13 _ _ e6), (s13 _ _ x6), lk1, ?_⟩
    refine ⟨_, rfl, l, _, _, _, rfl, rfl, SqL.of (s13 _ _ hl), rfl, a7, T.cNoName, d7, _, u, rfl, T.xfNoName, T.nNoName_name, (s13 _ _ e7), (s13 _ _ x7), lk1, ?_⟩
    refine ⟨_, rfl, l, _, _, _, rfl, rfl, SqL.of (s13 _ _ hl), rfl, a8, T.cNoRow, d8, _, u, rfl, T.xfNoRow, T.nNoRow_name, (s13 _ _ e8), (s13 _ _ x8), lk1, ?_⟩
    refine ⟨_, rfl, l, _, _, _, rfl, rfl, SqL.of (s13 _ _ hl), rfl, a10, T.cBadText, d10, _, u, rfl, T.xfBadText, T.nBadText_place, (s13 _ _ e10), (s13 _ _ x10), lk1, ?_⟩
    refine ⟨(by show 4 ≤ sizeLine; decide), fun l2 nl2 => ?_⟩
    have sl2 := same_new (o := HO.lst [u, u, u, u]) nl2
    refine ⟨l1, l2, _, _, rfl, rfl, SqL.of (sl2 _ _ gl1), SqL.of upd_same, (by show 9 ≤ sizeLine; decide), fun r nr => ?_⟩
    have s14 := s13.trans sl2
    have s15 := s14.trans (same_new (o := HO.lst ([V.ref t1, u, u, V.ref t2, u] ++ [u, u, u, u])) nr)
    have free : H r = none := Classical.byContradiction fun z => by
      obtain ⟨o, e⟩ := Option.ne_none_iff_exists'.mp z
      have := s14 _ _ e
      rw [nr] at this
      cases this
    have sx := (sl1.trans sl2).trans (same_new (o := HO.lst ([V.ref t1, u, u, V.ref t2, u] ++ [u, u, u, u])) nr)
    exact hq _ r t1 t2 free upd_same (sx _ _ (s2 _ _ g1)) (sx _ _ g2) s15
end
end Kp

namespace Kp
open PySem PySem.Spec PyProof.Rows L2 KpR
section
variable {K : PySem.W.Frag} {mg : Str → Option Value}
/-- what isinstance says of a class, of each of the eleven -/
structure KindOf (T : Tx K mg) (C : Addr) (bs : Nat → Bool) : Prop where
  xc : ExcC K C
  k0 : PySem.W.kitOne K (.ref C) (.ref T.cBadCount) = some (bs 0)
  k1 : PySem.W.kitOne K (.ref C) (.ref T.cNoJar) = some (bs 1)
  k2 : PySem.W.kitOne K (.ref C) (.ref T.cSameJar) = some (bs 2)
  k3 : PySem.W.kitOne K (.ref C) (.ref T.cSizes) = some (bs 3)
  k4 : PySem.W.kitOne K (.ref C) (.ref T.cBadStart) = some (bs 4)
  k5 : PySem.W.kitOne K (.ref C) (.ref T.cOtherJars) = some (bs 5)
  k6 : PySem.W.kitOne K (.ref C) (.ref T.cWide) = some (bs 6)
  k7 : PySem.W.kitOne K (.ref C) (.ref T.cNoName) = some (bs 7)
  k8 : PySem.W.kitOne K (.ref C) (.ref T.cNoRow) = some (bs 8)
  k9 : PySem.W.kitOne K (.ref C) (.ref T.cNoBack) = some (bs 9)
  k10 : PySem.W.kitOne K (.ref C) (.ref T.cBadText) = some (bs 10)
def spLkinds (T : Tx K mg) : Sp := fun vs H Q _ => ∃ (a C : Addr) (fs : List (Str × V)) (bs : Nat → Bool), vs = [.ref a] ∧ KindOf T C bs ∧ HeldAt H a C fs ∧ ∀ (H' : Hp) (r : Addr), H r = none → H' r = some (.lst [.bl (bs 0), .bl (bs 1), .bl (bs 2), .bl (bs 3), .bl (bs 4), .bl (bs 5), .bl (bs 6), .bl (bs 7), .bl (bs 8), .bl (bs 9), .bl (bs 10)]) → Same H H' → Q (.ref r) H'
end
section
variable {P : Program} {w : World} {K : PySem.W.Frag} {mg : Str → Option Value} {base : Heap}
theorem okLkinds (T : Tx K mg) : FnOk P w K mg base CX0 1 T.aLkinds T.dLkinds ["_law_e"] (spLkinds T) := by
  refine T.fLkinds.ok scLkinds (fun vs H Q E h => ?_) (fun cdv A outer s H vs Q E hr h => ?_)
  · obtain ⟨a, C, fs, bs, rfl, _⟩ := h
    rfl
  · obtain ⟨a, C, fs, bs, rfl, hk, ha, hq⟩ := h
    refine ⟨_, (pss_cons (ps_set (i := 1) scLkinds.nd rfl (by first | exact Or.inl rfl | exact Or.inr rfl) (pe_lst (pa_cons (pe_callB call_isV rfl T.nisinstance (by decide +kernel) (pa_cons (pv 0) (pa_cons (pe_glob (v := .ref T.cBadCount) rfl T.mBadCount rfl) pa_nil))) (pa_cons (pe_callB call_isV rfl T.nisinstance (by decide +kernel) (pa_cons (pv 0) (pa_cons (pe_glob (v := .ref T.cNoJar) rfl T.mNoJar rfl) pa_nil))) (pa_cons (pe_callB call_isV rfl T.nisinstance (by decide +kernel) (pa_cons (pv 0) (pa_cons (pe_glob (v := .ref T.cSameJar) rfl T.mSameJar rfl) pa_nil))) (pa_cons (pe_callB call_isV rfl T.nisinstance (by decide +kernel) (pa_cons (pv 0) (pa_cons (pe_glob (v := .ref T.cSizes) rfl T.mSizes rfl) pa_nil))) pa_nil))))))
      (pss_cons (ps_set (i := 1) scLkinds.nd rfl (by first | exact Or.inl rfl | exact Or.inr rfl) (pe_op op_catR (pv 1) (pe_lst (pa_cons (pe_callB call_isV rfl T.nisinstance (by decide +kernel) (pa_cons (pv 0) (pa_cons (pe_glob (v := .ref T.cBadStart) rfl T.mBadStart rfl) pa_nil))) (pa_cons (pe_callB call_isV rfl T.nisinstance (by decide +kernel) (pa_cons (pv 0) (pa_cons (pe_glob (v := .ref T.cOtherJars) rfl T.mOtherJars rfl) pa_nil))) (pa_cons (pe_callB call_isV rfl T.nisinstance (by decide +kernel) (pa_cons (pv 0) (pa_cons (pe_glob (v := .ref T.cWide) rfl T.mWide rfl) pa_nil))) (pa_cons (pe_callB call_isV rfl T.nisinstance (by decide +kernel) (pa_cons (pv 0) (pa_cons (pe_glob (v := .ref T.cNoName) rfl T.mNoName rfl) pa_nil))) pa_nil)))))))
      (pss_one (ps_ret (pe_op op_catR (pv 1) (pe_lst (pa_cons (pe_callB call_isV rfl T.nisinstance (by decide +kernel) (pa_cons (pv 0) (pa_cons (pe_glob (v := .ref T.cNoRow) rfl T.mNoRow rfl) pa_nil))) (pa_cons (pe_callB call_isV rfl T.nisinstance (by decide +kernel) (pa_cons (pv 0) (pa_cons (pe_glob (v := .ref T.cNoBack) rfl T.mNoBack rfl) pa_nil))) (pa_cons (pe_callB call_isV rfl T.nisinstance (by decide +kernel) (pa_cons (pv 0) (pa_cons (pe_glob (v := .ref T.cBadText) rfl T.mBadText rfl) pa_nil))) pa_nil))))))))), ?_⟩
    refine ⟨_, rfl, a, C, fs, _, _, bs 0, rfl, hk.xc, ha, (fun _ r => r), hk.k0, ?_⟩
    refine ⟨_, rfl, a, C, fs, _, _, bs 1, rfl, hk.xc, ha, (fun _ r => r), hk.k1, ?_⟩
    refine ⟨_, rfl, a, C, fs, _, _, bs 2, rfl, hk.xc, ha, (fun _ r => r), hk.k2, ?_⟩
    refine ⟨_, rfl, a, C, fs, _, _, bs 3, rfl, hk.xc, ha, (fun _ r => r), hk.k3, ?_⟩
    refine ⟨(by show 4 ≤ sizeLine; decide), fun l1 n1 => ?_⟩
    have s1 := same_new (o := HO.lst [V.bl (bs 0), V.bl (bs 1), V.bl (bs 2), V.bl (bs 3)]) n1
    have g1 : upd H l1 (HO.lst [V.bl (bs 0), V.bl (bs 1), V.bl (bs 2), V.bl (bs 3)]) l1 = some (.lst [V.bl (bs 0), V.bl (bs 1), V.bl (bs 2), V.bl (bs 3)]) := upd_same
    generalize upd H l1 (HO.lst [V.bl (bs 0), V.bl (bs 1), V.bl (bs 2), V.bl (bs 3)]) = H1 at s1 g1 ⊢
    refine ⟨_, rfl, ?_⟩
    refine ⟨_, rfl, a, C, fs, _, _, bs 4, rfl, hk.xc, (ha.same s1), (fun _ r => r), hk.k4, ?_⟩
    refine ⟨_, rfl, a, C, fs, _, _, bs 5, rfl, hk.xc, (ha.same s1), (fun _ r => r), hk.k5, ?_⟩
    refine ⟨_, rfl, a, C, fs, _, _, bs 6, rfl, hk.xc, (ha.same s1), (fun _ r => r), hk.k6, ?_⟩
    refine ⟨_, rfl, a, C, fs, _, _, bs 7, rfl, hk.xc, (ha.same s1), (fun _ r => r), hk.k7, ?_⟩
    refine ⟨(by show 4 ≤ sizeLine; decide), fun l2 n2 => ?_⟩
    have s2 := same_new (o := HO.lst [V.bl (bs 4), V.bl (bs 5), V.bl (bs 6), V.bl (bs 7)]) n2
    refine ⟨l1, l2, _, _, rfl, rfl, SqL.of (s2 _ _ g1), SqL.of upd_same, (by show 8 ≤ sizeLine; decide), fun l3 n3 => ?_⟩
    have s3 := s2.trans (same_new (o := HO.lst ([V.bl (bs 0), V.bl (bs 1), V.bl (bs 2), V.bl (bs 3)] ++ [V.bl (bs 4), V.bl (bs 5), V.bl (bs 6), V.bl (bs 7)])) n3)
    have g3 : upd (upd H1 l2 (HO.lst [V.bl (bs 4), V.bl (bs 5), V.bl (bs 6), V.bl (bs 7)])) l3 (HO.lst ([V.bl (bs 0), V.bl (bs 1), V.bl (bs 2), V.bl (bs 3)] ++ [V.bl (bs 4), V.bl (bs 5), V.bl (bs 6), V.bl (bs 7)])) l3 = some (.lst [V.bl (bs 0), V.bl (bs 1), V.bl (bs 2), V.bl (bs 3), V.bl (bs 4), V.bl (bs 5), V.bl (bs 6), V.bl (bs 7)]) := upd_same
    generalize upd (upd H1 l2 (HO.lst [V.bl (bs 4), V.bl (bs 5), V.bl (bs 6), V.bl (bs 7)])) l3 (HO.lst ([V.bl (bs 0), V.bl (bs 1), V.bl (bs 2), V.bl (bs 3)] ++ [V.bl (bs 4), V.bl (bs 5), V.bl (bs 6), V.bl (bs 7)])) = H3 at s3 g3 ⊢
    have s13 := s1.trans s3
    refine ⟨_, rfl, ?_⟩
    refine ⟨_, rfl, a, C, fs, _, _, bs 8, rfl, hk.xc, (ha.same s13), (fun _ r => r), hk.k8, ?_⟩
    refine ⟨_, rfl, a, C, fs, _, _, bs 9, rfl, hk.xc, (ha.same s13), (fun _ r => r), hk.k9, ?_⟩
    refine ⟨_, rfl, a, C, fs, _, _, bs 10, rfl, hk.xc, (ha.same s13), (fun _ r => r), hk.k10, ?_⟩
    refine ⟨(by show 3 ≤ sizeLine; decide), fun l4 n4 => ?_⟩
    have s4 := same_new (o := HO.lst [V.bl (bs 8), V.bl (bs 9), V.bl (bs 10)]) n4
    refine ⟨l3, l4, _, _, rfl, rfl, SqL.of (s4 _ _ g3), SqL.of upd_same, (by show 11 ≤ sizeLine; decide), fun r nr => ?_⟩
    have s14 := s13.trans s4
    have free : H r = none := Classical.byContradiction fun z => by
      obtain ⟨o, e⟩ := Option.ne_none_iff_exists'.mp z
      have := s14 _ _ e
      rw [nr] at this
      cases this
    exact hq _ r free upd_same (s14.trans (same_new nr))
end
end Kp

namespace Kp
open PySem PySem.Spec PyProof.Rows L2 KpR
def WellAt (H : Hp) (w : Addr) : Prop := ∃ a b c : Int, H w = some (.lst [.int a, .int b, .int c])
section
variable {K : PySem.W.Frag} {mg : Str → Option Value}
def spLwell (T : Tx K mg) : Sp := fun vs H Q _ => ∃ n : Int, vs = [.int n] ∧ ∀ (H' : Hp) (p : Addr), H p = none → WellAt H' p → Same H H' → Q (.ref p) H'
def spLdraw (T : Tx K mg) : Sp := fun vs H Q _ => ∃ (w : Addr) (m : Int), vs = [.ref w, .int m] ∧ WellAt H w ∧ 1 ≤ m ∧ m < 2 ^ 100 ∧ ∀ (H' : Hp) (v : Nat), (v : Int) < m → WellAt H' w → Fr w H H' → Q (.int v) H'
end
section
variable {P : Program} {w : World} {K : PySem.W.Frag} {mg : Str → Option Value} {base : Heap}
theorem okLwell (T : Tx K mg) : FnOk P w K mg base CX0 1 T.aLwell T.dLwell ["_law_cell"] (spLwell T) := by
  refine T.fLwell.ok scLwell (fun vs H Q E h => ?_) (fun cdv A outer s H vs Q E hr h => ?_)
  · obtain ⟨n, rfl, _⟩ := h
    rfl
  · obtain ⟨n, rfl, hq⟩ := h
    refine ⟨_, (pss_one (ps_ret (pe_lst (pa_cons (pe_callB call_abs rfl T.nabs (by decide +kernel) (pa_cons (pv 0) pa_nil)) (pa_cons (pe_op op_mod (pv 0) pe_int) (pa_cons pe_int pa_nil)))))), ?_⟩
    refine ⟨_, rfl, n, rfl, _, rfl, _, _, rfl, rfl, (by show (0 : Int) < 2147483629; decide), (by show 3 ≤ sizeLine; decide), fun p hp => ?_⟩
    exact hq _ p hp ⟨_, _, _, upd_same⟩ (same_new hp)
theorem okLdraw (T : Tx K mg) : FnOk P w K mg base CX0 1 T.aLdraw T.dLdraw ["_law_well_here", "_law_many"] (spLdraw T) := by
  refine T.fLdraw.ok scLdraw (fun vs H Q E h => ?_) (fun cdv A outer s H vs Q E hr h => ?_)
  · obtain ⟨u, m, rfl, _⟩ := h
    rfl
  · obtain ⟨u, m, rfl, ⟨a, b, c, hw⟩, m1, m2, hq⟩ := h
    refine ⟨_, (pss_cons (ps_if (pt_cmpR op_ge (pe_ix (r := rIxL K) ix_list (pv 0) pe_int (fun _ _ => rfl)) (pe_op op_pow pe_int pe_int) (nomark _)) (pss_cons (ps_set (i := 2) scLdraw.nd rfl (by first | exact Or.inl rfl | exact Or.inr rfl) (pe_op op_mod (pe_ix (r := rIxL K) ix_list (pv 0) pe_int (fun _ _ => rfl)) (pv 1)))
      (pss_cons (ps_asg (pe_op op_fdivW (pe_ix (r := rIxL K) ix_list (pv 0) pe_int (fun _ _ => rfl)) (pv 1)) (pg_sub (pv 0) pe_int set_list))
      (pss_one (ps_ret (pv 2))))) pss_nil)
      (pss_cons (ps_asg (pe_op op_add (pe_ix (r := rIxL K) ix_list (pv 0) pe_int (fun _ _ => rfl)) pe_int) (pg_sub (pv 0) pe_int set_list))
      (pss_cons (ps_set (i := 3) scLdraw.nd rfl (by first | exact Or.inl rfl | exact Or.inr rfl) (pe_op op_mod (pe_op op_mul (pe_op op_add (pe_op op_add (pe_ix (r := rIxL K) ix_list (pv 0) pe_int (fun _ _ => rfl)) (pe_op op_mul pe_int (pe_ix (r := rIxL K) ix_list (pv 0) pe_int (fun _ _ => rfl)))) pe_int) pe_int) pe_int))
      (pss_cons (ps_set (i := 3) scLdraw.nd rfl (by first | exact Or.inl rfl | exact Or.inr rfl) (pe_op op_mod (pe_op op_mul (pv 3) (pe_op op_add (pe_op op_fdivW (pv 3) pe_int) pe_int)) pe_int))
      (pss_one (ps_ret (pe_op op_mod (pe_op op_mod (pe_op op_add (pe_op op_fdivW (pv 3) pe_int) (pe_op op_mul (pe_op op_mod (pv 3) pe_int) pe_int)) pe_int) (pv 1)))))))), ?_⟩
    have wd : CDivW a m := wide_div (b := 100) (by omega) (by omega) (by decide) (by decide)
    have back : ∀ (x : Int) (H' : Hp), WellAt H' u → Fr u H H' → Q (.int (x % m)) H' := fun x H' h1 h2 => by
      have q0 := Int.emod_nonneg x (show m ≠ 0 by omega)
      have q1 := Int.emod_lt_of_pos x (show 0 < m by omega)
      have e : x % m = ((x % m).toNat : Int) := by omega
      rw [e]
      exact hq H' _ (by omega) h1 h2
    refine ⟨_, rfl, u, _, _, _, rfl, rfl, SqL.of hw, rfl, _, _, rfl, rfl, ⟨by decide, by decide, by decide⟩, _, _, rfl, rfl, _, rfl, ifD (fun _ => ?_) (fun _ => ?_)⟩
    · refine ⟨_, rfl, u, _, _, _, rfl, rfl, SqL.of hw, rfl, _, rfl, _, _, rfl, rfl, (by show 0 < m; omega), ?_⟩
      refine ⟨_, rfl, u, _, _, _, rfl, rfl, SqL.of hw, rfl, _, rfl, _, _, rfl, rfl, wd, _, rfl, u, _, _, 0, rfl, rfl, hw, rfl, _, rfl, ?_⟩
      exact back a _ ⟨_, _, _, upd_same⟩ (fr_mut (Fr.refl _ _))
    · refine ⟨_, rfl, u, _, _, _, rfl, rfl, SqL.of hw, rfl, _, _, rfl, rfl, _, rfl, u, _, _, 2, rfl, rfl, hw, rfl, ?_⟩
      refine ⟨_, rfl, u, _, _, _, rfl, rfl, SqL.of upd_same, rfl, _, rfl, u, _, _, _, rfl, rfl, SqL.of upd_same, rfl, _, _, rfl, rfl, .inl ⟨by decide, by decide⟩, _, _, rfl, rfl, _, _, rfl, rfl, _, _, rfl, rfl, .inr ⟨by decide, by decide⟩, _, _, rfl, rfl, (by show (0 : Int) < 2147483647; decide), ?_⟩
      refine ⟨_, rfl, _, rfl, _, _, rfl, rfl, ⟨by decide, by decide⟩, _, _, rfl, rfl, _, _, rfl, rfl, .inl ⟨by omega, by omega⟩, _, _, rfl, rfl, (by show (0 : Int) < 2147483587; decide), ?_⟩
      refine ⟨_, rfl, _, _, rfl, rfl, ⟨by decide, by decide⟩, _, rfl, _, _, rfl, rfl, (by show (0 : Int) < 7919; decide), _, _, rfl, rfl, .inr ⟨by decide, by decide⟩, _, _, rfl, rfl, _, _, rfl, rfl, (by show (0 : Int) < 2147483399; decide), _, rfl, _, _, rfl, rfl, (by show 0 < m; omega), ?_⟩
      exact back _ _ ⟨_, _, _, upd_same⟩ (fr_mut (Fr.refl _ _))
end
end Kp

namespace Kp
open PySem PySem.Spec PyProof.Rows L2 KpR
theorem cut_take {xs : List V} {n : Nat} : cutV xs none (some (n : Int)) = xs.take n := by
  unfold cutV
  rw [HT.sIx_nat, HT.sIx_none, List.drop_zero, Nat.sub_zero]
  by_cases h : n ≤ xs.length
  · rw [Nat.min_eq_left h]
  · rw [Nat.min_eq_right (by omega), List.take_length, List.take_of_length_le (by omega)]
theorem WellAt.new {H : Hp} {w p : Addr} {o : HO} (h : WellAt H w) (n : H p = none) : WellAt (upd H p o) w := by
  obtain ⟨a, b, c, q⟩ := h
  exact ⟨a, b, c, (same_new n) _ _ q⟩
theorem WellAt.ne {H : Hp} {w p : Addr} (h : WellAt H w) (n : H p = none) : p ≠ w := fun z => by
  obtain ⟨a, b, c, q⟩ := h
  rw [← z, n] at q
  cases q
/-- a thing: an int or a word -/
inductive Thing where
  | i (n : Int) | s (x : Str)
def Thing.v : Thing → V
  | .i n => .int n
  | .s x => .str x
def Thing.d : Thing → PyData
  | .i n => .int n
  | .s x => .str x
def things : List Thing := [.i 0, .i 5, .s "jars", .i (-1), .s "Ab", .i (10 ^ (12 : Int).toNat), .i 25]
section
variable {K : PySem.W.Frag} {mg : Str → Option Value}
def words11 : List V := [.str "badcount", .str "nojar", .str "samejar", .str "sizes", .str "badstart", .str "otherjars", .str "wide", .str "noname", .str "norow", .str "noback", .str "badtext"]
def spLaw (K : PySem.W.Frag) : Sp := fun vs H Q _ => ∃ (a : Addr) (ns : List Int), vs = [.ref a] ∧ SqL K H a (ns.map V.int) ∧ ns.length ≤ 63 ∧ ∀ H', Q (.bl true) H'
def splaw (T : Tx K mg) : Sp := spLaw K
end
theorem for_enumL {K : PySem.W.Frag} {a : Addr} {xs : List V} {g : TG} {tb : TS} {D : Ends} {σ : L2.St} {H : Hp} (Pv : Nat → L2.St → Hp → Prop) (h0 : Pv 0 σ H) (hl : ∀ i σ H, Pv i σ H → SqL K H a xs)
    (hs : ∀ i x T σ H, xs[i]? = some x → Pv i σ H → H T = none → g (.ref T) σ (upd H T (.tup [.int (i : Nat), x])) fun σ2 H2 => tb { D with nx := Pv (i + 1), ct := Pv (i + 1), bk := D.nx } σ2 H2) (hd : ∀ σ H, Pv xs.length σ H → D.nx σ H) :
    ∃ W : Nat → Nat → L2.St → Hp → Prop, (∃ m, W 0 m σ H) ∧ ∀ i m σ H, W i m σ H →
      ((Ite K a).stop i H ∧ D.nx σ H) ∨ ((Ite K a).go i H ∧ ∃ N : L2.St → Hp → Prop, (∀ σ' H', N σ' H' → ∃ m', m' < m ∧ W (i + 1) m' σ' H') ∧ ∀ x H', (Ite K a).yld i H x H' → g x σ H' fun σ2 H2 => tb { D with nx := N, ct := N, bk := D.nx } σ2 H2) := by
  refine ⟨fun i m σ H => m = xs.length - i ∧ i ≤ xs.length ∧ Pv i σ H, ⟨xs.length, by simp, Nat.zero_le _, h0⟩, ?_⟩
  rintro i m σ1 H1 ⟨rfl, hi, p⟩
  have sq := hl _ _ _ p
  rcases Nat.lt_or_eq_of_le hi with lt | e
  · refine .inr ⟨⟨xs, xs[i], sq, List.getElem?_eq_getElem lt⟩, Pv (i + 1), fun σ2 H2 q => ⟨xs.length - (i + 1), by omega, rfl, lt, q⟩, ?_⟩
    rintro x H2 ⟨T, y, rfl, hT, rfl, hy⟩
    exact hs i y T σ1 H1 (hy xs sq) p hT
  · subst e
    exact .inl ⟨⟨xs, sq, Nat.le_refl _⟩, hd _ _ p⟩
def toldW : List Str := ["refused badcount", "refused nojar", "refused samejar", "refused sizes", "refused badstart", "refused otherjars", "refused wide", "refused noname", "refused norow", "refused noback", "refused badtext"]
theorem no1 {a b : Str} {u : V} (h : ¬ a = b) : List.lookup a (f1s b u) = none := by
  have : (a == b) = false := by simpa using h
  simp [f1s, List.lookup, this]
theorem no2 {a b c : Str} {u v : V} (h : ¬ a = b) (h2 : ¬ a = c) : List.lookup a (f2s b u c v) = none := by
  have e1 : (a == b) = false := by simpa using h
  have e2 : (a == c) = false := by simpa using h2
  simp [f2s, List.lookup, e1, e2]
theorem thing_dp {K : PySem.W.Frag} {H : Hp} (u : Thing) : Dp K H u.v u.d := by
  cases u
  · exact .int _
  · exact .str _
theorem thing_dep (u : Thing) : u.d.depth = 0 := by
  cases u <;> simp [Thing.d, PyData.depth]
theorem thing_lay {i : Nat} {u : Thing} (h : things[i]? = some u) : u.d.canLay0 = true :=
  match i, h with
  | 0, rfl => rfl
  | 1, rfl => rfl
  | 2, rfl => by decide +kernel
  | 3, rfl => rfl
  | 4, rfl => by decide +kernel
  | 5, rfl => rfl
  | 6, rfl => rfl
theorem told_flat : Flat 60 (.list (toldW.map PyData.str)) := (Flat.list (n := 0) fun x hx => Flat.str (by
  have : ∀ x ∈ toldW, (PyData.str x).canLay0 = true := by decide +kernel
  exact this x hx)).mono (by decide)
theorem told_dp {K : PySem.W.Frag} {H : Hp} : ∀ l : List Str, DpAll K H (l.map V.str) (l.map PyData.str)
  | [] => .nil
  | x :: l => .cons (.str x) (told_dp l)
theorem bl_dp {K : PySem.W.Frag} {H : Hp} : ∀ l : List Bool, DpAll K H (l.map V.bl) (l.map PyData.bool)
  | [] => .nil
  | x :: l => .cons (.bl x) (bl_dp l)
theorem kind_at {K : PySem.W.Frag} {mg : Str → Option Value} (T : Tx K mg) {u v : V} {i : Nat} {q : Addr × List (Str × V)} (h : (held11 T u v)[i]? = some q) : KindOf T q.1 (fun k => decide (i = k)) ∧ PySem.W.kitOne K (.ref q.1) (.ref T.cDropsError) = some true ∧ PySem.W.kitOne K (.ref q.1) (.type "ValueError") = some true :=
  match i, h with
  | 0, rfl => ⟨⟨T.xcBadCount, T.ixBadCount_BadCount, T.ixBadCount_NoJar, T.ixBadCount_SameJar, T.ixBadCount_Sizes, T.ixBadCount_BadStart, T.ixBadCount_OtherJars, T.ixBadCount_Wide, T.ixBadCount_NoName, T.ixBadCount_NoRow, T.ixBadCount_NoBack, T.ixBadCount_BadText⟩, T.ixBadCount_DropsError, T.ixBadCount_ValueError⟩
  | 1, rfl => ⟨⟨T.xcNoJar, T.ixNoJar_BadCount, T.ixNoJar_NoJar, T.ixNoJar_SameJar, T.ixNoJar_Sizes, T.ixNoJar_BadStart, T.ixNoJar_OtherJars, T.ixNoJar_Wide, T.ixNoJar_NoName, T.ixNoJar_NoRow, T.ixNoJar_NoBack, T.ixNoJar_BadText⟩, T.ixNoJar_DropsError, T.ixNoJar_ValueError⟩
  | 2, rfl => ⟨⟨T.xcSameJar, T.ixSameJar_BadCount, T.ixSameJar_NoJar, T.ixSameJar_SameJar, T.ixSameJar_Sizes, T.ixSameJar_BadStart, T.ixSameJar_OtherJars, T.ixSameJar_Wide, T.ixSameJar_NoName, T.ixSameJar_NoRow, T.ixSameJar_NoBack, T.ixSameJar_BadText⟩, T.ixSameJar_DropsError, T.ixSameJar_ValueError⟩
  | 3, rfl => ⟨⟨T.xcSizes, T.ixSizes_BadCount, T.ixSizes_NoJar, T.ixSizes_SameJar, T.ixSizes_Sizes, T.ixSizes_BadStart, T.ixSizes_OtherJars, T.ixSizes_Wide, T.ixSizes_NoName, T.ixSizes_NoRow, T.ixSizes_NoBack, T.ixSizes_BadText⟩, T.ixSizes_DropsError, T.ixSizes_ValueError⟩
  | 4, rfl => ⟨⟨T.xcBadStart, T.ixBadStart_BadCount, T.ixBadStart_NoJar, T.ixBadStart_SameJar, T.ixBadStart_Sizes, T.ixBadStart_BadStart, T.ixBadStart_OtherJars, T.ixBadStart_Wide, T.ixBadStart_NoName, T.ixBadStart_NoRow, T.ixBadStart_NoBack, T.ixBadStart_BadText⟩, T.ixBadStart_DropsError, T.ixBadStart_ValueError⟩
  | 5, rfl => ⟨⟨T.xcOtherJars, T.ixOtherJars_BadCount, T.ixOtherJars_NoJar, T.ixOtherJars_SameJar, T.ixOtherJars_Sizes, T.ixOtherJars_BadStart, T.ixOtherJars_OtherJars, T.ixOtherJars_Wide, T.ixOtherJars_NoName, T.ixOtherJars_NoRow, T.ixOtherJars_NoBack, T.ixOtherJars_BadText⟩, T.ixOtherJars_DropsError, T.ixOtherJars_ValueError⟩
  | 6, rfl => ⟨⟨T.xcWide, T.ixWide_BadCount, T.ixWide_NoJar, T.ixWide_SameJar, T.ixWide_Sizes, T.ixWide_BadStart, T.ixWide_OtherJars, T.ixWide_Wide, T.ixWide_NoName, T.ixWide_NoRow, T.ixWide_NoBack, T.ixWide_BadText⟩, T.ixWide_DropsError, T.ixWide_ValueError⟩
  | 7, rfl => ⟨⟨T.xcNoName, T.ixNoName_BadCount, T.ixNoName_NoJar, T.ixNoName_SameJar, T.ixNoName_Sizes, T.ixNoName_BadStart, T.ixNoName_OtherJars, T.ixNoName_Wide, T.ixNoName_NoName, T.ixNoName_NoRow, T.ixNoName_NoBack, T.ixNoName_BadText⟩, T.ixNoName_DropsError, T.ixNoName_ValueError⟩
  | 8, rfl => ⟨⟨T.xcNoRow, T.ixNoRow_BadCount, T.ixNoRow_NoJar, T.ixNoRow_SameJar, T.ixNoRow_Sizes, T.ixNoRow_BadStart, T.ixNoRow_OtherJars, T.ixNoRow_Wide, T.ixNoRow_NoName, T.ixNoRow_NoRow, T.ixNoRow_NoBack, T.ixNoRow_BadText⟩, T.ixNoRow_DropsError, T.ixNoRow_ValueError⟩
  | 9, rfl => ⟨⟨T.xcNoBack, T.ixNoBack_BadCount, T.ixNoBack_NoJar, T.ixNoBack_SameJar, T.ixNoBack_Sizes, T.ixNoBack_BadStart, T.ixNoBack_OtherJars, T.ixNoBack_Wide, T.ixNoBack_NoName, T.ixNoBack_NoRow, T.ixNoBack_NoBack, T.ixNoBack_BadText⟩, T.ixNoBack_DropsError, T.ixNoBack_ValueError⟩
  | 10, rfl => ⟨⟨T.xcBadText, T.ixBadText_BadCount, T.ixBadText_NoJar, T.ixBadText_SameJar, T.ixBadText_Sizes, T.ixBadText_BadStart, T.ixBadText_OtherJars, T.ixBadText_Wide, T.ixBadText_NoName, T.ixBadText_NoRow, T.ixBadText_NoBack, T.ixBadText_BadText⟩, T.ixBadText_DropsError, T.ixBadText_ValueError⟩
theorem neSame {K : PySem.W.Frag} {H : Hp} {x y : V} {d : PyData} {Q : VK} (h1 : Dp K H x d) (h2 : Dp K H y d) (f : Flat 60 d) (q : Q (.bl false) H) : rNeD K x y H Q := neD h1 h2 f f (by rw [PySem.SeqAt.eqv_refl d f.lay]; exact q)
theorem word_at {i : Nat} {y : V} (h : words11[i]? = some y) : ∃ x : Str, y = .str x ∧ x.length ≤ 20 ∧ toldW[i]? = some (("refused " : Str) ++ x) :=
  match i, h with
  | 0, rfl => ⟨_, rfl, by decide +kernel, by decide +kernel⟩
  | 1, rfl => ⟨_, rfl, by decide +kernel, by decide +kernel⟩
  | 2, rfl => ⟨_, rfl, by decide +kernel, by decide +kernel⟩
  | 3, rfl => ⟨_, rfl, by decide +kernel, by decide +kernel⟩
  | 4, rfl => ⟨_, rfl, by decide +kernel, by decide +kernel⟩
  | 5, rfl => ⟨_, rfl, by decide +kernel, by decide +kernel⟩
  | 6, rfl => ⟨_, rfl, by decide +kernel, by decide +kernel⟩
  | 7, rfl => ⟨_, rfl, by decide +kernel, by decide +kernel⟩
  | 8, rfl => ⟨_, rfl, by decide +kernel, by decide +kernel⟩
  | 9, rfl => ⟨_, rfl, by decide +kernel, by decide +kernel⟩
  | 10, rfl => ⟨_, rfl, by decide +kernel, by decide +kernel⟩
section
variable {P : Program} {w : World} {K : PySem.W.Frag} {mg : Str → Option Value} {base : Heap}
theorem told_at (T : Tx K mg) {u v : V} {i : Nat} {q : Addr × List (Str × V)} (h : (held11 T u v)[i]? = some q) : ∃ (x : Str) (f : Addr) (fd : FuncData) (y : Str) (sp : Sp), toldW[i]? = some x ∧ XfC K q.1 ∧ Meth K q.1 "told" f ∧ List.lookup ("told" : Str) q.2 = none ∧ FnOk P w K mg base CX0 1 f fd [y] sp ∧ Binds K fd [y] [] ∧ ∀ a H Q, Q (.str x) H → sp [.ref a] H Q E0 :=
  match i, h with
  | 0, rfl => ⟨_, T.aBadCountTold, T.dBadCountTold, "self", _, rfl, T.xfBadCount, ⟨T.eBadCountTold, T.eiBadCountTold, T.fBadCountTold.kp⟩, no2 (by decide +kernel) (by decide +kernel), okBadCountTold T, T.bBadCountTold, fun a H Q q => ⟨a, rfl, q⟩⟩
  | 1, rfl => ⟨_, T.aNoJarTold, T.dNoJarTold, "self", _, rfl, T.xfNoJar, ⟨T.eNoJarTold, T.eiNoJarTold, T.fNoJarTold.kp⟩, no1 (by decide +kernel), okNoJarTold T, T.bNoJarTold, fun a H Q q => ⟨a, rfl, q⟩⟩
  | 2, rfl => ⟨_, T.aSameJarTold, T.dSameJarTold, "self", _, rfl, T.xfSameJar, ⟨T.eSameJarTold, T.eiSameJarTold, T.fSameJarTold.kp⟩, no1 (by decide +kernel), okSameJarTold T, T.bSameJarTold, fun a H Q q => ⟨a, rfl, q⟩⟩
  | 3, rfl => ⟨_, T.aSizesTold, T.dSizesTold, "self", _, rfl, T.xfSizes, ⟨T.eSizesTold, T.eiSizesTold, T.fSizesTold.kp⟩, no2 (by decide +kernel) (by decide +kernel), okSizesTold T, T.bSizesTold, fun a H Q q => ⟨a, rfl, q⟩⟩
  | 4, rfl => ⟨_, T.aBadStartTold, T.dBadStartTold, "self", _, rfl, T.xfBadStart, ⟨T.eBadStartTold, T.eiBadStartTold, T.fBadStartTold.kp⟩, no1 (by decide +kernel), okBadStartTold T, T.bBadStartTold, fun a H Q q => ⟨a, rfl, q⟩⟩
  | 5, rfl => ⟨_, T.aOtherJarsTold, T.dOtherJarsTold, "self", _, rfl, T.xfOtherJars, ⟨T.eOtherJarsTold, T.eiOtherJarsTold, T.fOtherJarsTold.kp⟩, rfl, okOtherJarsTold T, T.bOtherJarsTold, fun a H Q q => ⟨a, rfl, q⟩⟩
  | 6, rfl => ⟨_, T.aWideTold, T.dWideTold, "self", _, rfl, T.xfWide, ⟨T.eWideTold, T.eiWideTold, T.fWideTold.kp⟩, no1 (by decide +kernel), okWideTold T, T.bWideTold, fun a H Q q => ⟨a, rfl, q⟩⟩
  | 7, rfl => ⟨_, T.aNoNameTold, T.dNoNameTold, "self", _, rfl, T.xfNoName, ⟨T.eNoNameTold, T.eiNoNameTold, T.fNoNameTold.kp⟩, no1 (by decide +kernel), okNoNameTold T, T.bNoNameTold, fun a H Q q => ⟨a, rfl, q⟩⟩
  | 8, rfl => ⟨_, T.aNoRowTold, T.dNoRowTold, "self", _, rfl, T.xfNoRow, ⟨T.eNoRowTold, T.eiNoRowTold, T.fNoRowTold.kp⟩, no1 (by decide +kernel), okNoRowTold T, T.bNoRowTold, fun a H Q q => ⟨a, rfl, q⟩⟩
  | 9, rfl => ⟨_, T.aNoBackTold, T.dNoBackTold, "self", _, rfl, T.xfNoBack, ⟨T.eNoBackTold, T.eiNoBackTold, T.fNoBackTold.kp⟩, rfl, okNoBackTold T, T.bNoBackTold, fun a H Q q => ⟨a, rfl, q⟩⟩
  | 10, rfl => ⟨_, T.aBadTextTold, T.dBadTextTold, "self", _, rfl, T.xfBadText, ⟨T.eBadTextTold, T.eiBadTextTold, T.fBadTextTold.kp⟩, no1 (by decide +kernel), okBadTextTold T, T.bBadTextTold, fun a H Q q => ⟨a, rfl, q⟩⟩
end
section
variable {P : Program} {w : World} {K : PySem.W.Frag} {mg : Str → Option Value} {base : Heap}
theorem oklaw (T : Tx K mg) : FnOk P w K mg base CX0 4 T.alaw T.dlaw ["_law_script"] (splaw T) := by
  refine T.flaw.ok sclaw (fun vs H Q E h => ?_) (fun cdv A outer s H vs Q E hr h => ?_)
  · obtain ⟨a, ns, rfl, _⟩ := h
    rfl
  · obtain ⟨a, ns, rfl, hS, hlen, hq⟩ := h
    refine ⟨_, (pss_cons (ps_set (i := 1) sclaw.nd rfl (by first | exact Or.inl rfl | exact Or.inr rfl) (pe_lst (pa_cons pe_str (pa_cons pe_str (pa_cons pe_str (pa_cons pe_str (pa_cons pe_str (pa_cons pe_str (pa_cons pe_str (pa_cons pe_str (pa_cons pe_str (pa_cons pe_str pa_nil))))))))))))
      (pss_cons (ps_expr (pe_bm PySem.F.plainAttrs_list PySem.F.slot_list_append PySem.F.type_list_append mt_append (pv 1) (pa_cons pe_str pa_nil)))
      (pss_cons (ps_for PassesOwn.never rfl (pi_list (pe_slice sl_list (pe_op op_catR (pv 0) (pe_lst (pa_cons pe_int pa_nil))) po_none (po_some pe_int))) (pg_name (i := 2) sclaw.nd rfl (by first | exact Or.inl rfl | exact Or.inr rfl)) (pss_cons (ps_set (i := 3) sclaw.nd rfl (by first | exact Or.inl rfl | exact Or.inr rfl) (pe_call (okLwell T) (hr.mono (by decide)) rfl T.gLwell T.fLwell.kp T.bLwell .nil pass0 (pa_cons (pv 2) pa_nil)))
      (pss_cons (ps_set (i := 4) sclaw.nd rfl (by first | exact Or.inl rfl | exact Or.inr rfl) (pe_lst (pa_cons pe_int (pa_cons pe_int (pa_cons pe_str (pa_cons (pe_un un_neg pe_int) (pa_cons pe_str (pa_cons (pe_op op_pow pe_int pe_int) (pa_cons pe_int pa_nil)))))))))
      (pss_cons (ps_par (i := 5) (j := 6) rfl sclaw.nd rfl rfl (by decide) rfl rfl (pa_cons (pe_ix (r := rIxL K) ix_list (pv 4) (pe_call (okLdraw T) (hr.mono (by decide)) rfl T.gLdraw T.fLdraw.kp T.bLdraw .nil pass0 (pa_cons (pv 3) (pa_cons pe_int pa_nil))) (fun _ _ => rfl)) (pa_cons (pe_ix (r := rIxL K) ix_list (pv 4) (pe_call (okLdraw T) (hr.mono (by decide)) rfl T.gLdraw T.fLdraw.kp T.bLdraw .nil pass0 (pa_cons (pv 3) (pa_cons pe_int pa_nil))) (fun _ _ => rfl)) pa_nil)) rfl)
      (pss_cons (ps_set (i := 7) sclaw.nd rfl (by first | exact Or.inl rfl | exact Or.inr rfl) (pe_lst (pa_cons (pe_tup (pa_cons (pv 5) (pa_cons (pv 6) pa_nil))) (pa_cons (pv 5) (pa_cons (pv 5) (pa_cons (pe_tup (pa_cons (pv 5) (pa_cons (pv 6) pa_nil))) (pa_cons (pv 5) (pa_cons (pv 5) (pa_cons (pv 5) (pa_cons (pv 5) (pa_cons (pv 5) pa_nil)))))))))))
      (pss_one (ps_for PassesOwn.never rfl (pi_list (pe_lst (pa_cons (pe_call (okLbyplace T) (hr.mono (by decide)) rfl T.gLbyplace T.fLbyplace.kp T.bLbyplace .nil pass0 (pa_cons (pv 5) (pa_cons (pv 6) pa_nil))) (pa_cons (pe_call (okLbyname T) (hr.mono (by decide)) rfl T.gLbyname T.fLbyname.kp T.bLbyname .nil pass0 (pa_cons (pv 5) (pa_cons (pv 6) pa_nil))) pa_nil)))) (pg_name (i := 8) sclaw.nd rfl (by first | exact Or.inl rfl | exact Or.inr rfl)) (pss_cons (ps_if (PW.pt (pw_or (pt_cmpR (op_neD hr.units) (pe_call (okLfields T) (hr.mono (by decide)) rfl T.gLfields T.fLfields.kp T.bLfields .nil pass0 (pa_cons (pv 8) pa_nil)) (pv 7) (nomark _)) (pw_or1 (pt_cmpR (op_neD hr.units) (pe_lc (own := [("_law_e", 9)]) rfl sclaw.nd (pi_list (pv 8)) (blkOk_by (own := [("_law_e", 9)]) (N := ["_law_script", "_law_words", "_law_cell", "_law_well_here", "_law_things", "_law_one", "_law_other", "_law_due", "_law_some", "_law_e", "_law_word", "_law_at", "_law_k"]) (sc := defScope slaw) (by decide +kernel)) (fun _ _ _ _ _ => (pg_name (i := 9) sclaw.nd rfl (by first | exact Or.inl rfl | exact Or.inr rfl))) (fun _ _ _ _ _ => pts_nil) (fun _ _ _ _ _ => (show PE _ _ (tTold P w K mg base 1 "told" (tVar 9)) from pe_told (pv 9) (hr.mono (by decide))))) (pe_lc (own := [("_law_word", 10)]) rfl sclaw.nd (pi_list (pv 1)) (blkOk_by (own := [("_law_word", 10)]) (N := ["_law_script", "_law_words", "_law_cell", "_law_well_here", "_law_things", "_law_one", "_law_other", "_law_due", "_law_some", "_law_e", "_law_word", "_law_at", "_law_k"]) (sc := defScope slaw) (by decide +kernel)) (fun _ _ _ _ _ => (pg_name (i := 10) sclaw.nd rfl (by first | exact Or.inl rfl | exact Or.inr rfl))) (fun _ _ _ _ _ => pts_nil) (fun _ _ _ _ _ => (pe_op op_add_str pe_str (pv 10)))) (nomark _))))) (pss_one (ps_ret pe_bl)) pss_nil)
      (pss_one (ps_for PassesOwn.never rfl (pi_enum rfl T.nenumerate (pa_cons (pv 8) pa_nil)) (pg_tup rfl (pgs_cons (pg_name (i := 11) sclaw.nd rfl (by first | exact Or.inl rfl | exact Or.inr rfl)) (pgs_cons (pg_name (i := 9) sclaw.nd rfl (by first | exact Or.inl rfl | exact Or.inr rfl)) pgs_nil))) (pss_cons (ps_if (pt_cmpR (op_neD hr.units) (pe_call (okLkinds T) (hr.mono (by decide)) rfl T.gLkinds T.fLkinds.kp T.bLkinds .nil pass0 (pa_cons (pv 9) pa_nil)) (pe_lc (own := [("_law_k", 12)]) rfl sclaw.nd (pi_range1 rfl T.nrange (pa_cons pe_int pa_nil)) (blkOk_by (own := [("_law_k", 12)]) (N := ["_law_script", "_law_words", "_law_cell", "_law_well_here", "_law_things", "_law_one", "_law_other", "_law_due", "_law_some", "_law_e", "_law_word", "_law_at", "_law_k"]) (sc := defScope slaw) (by decide +kernel)) (fun _ _ _ _ _ => (pg_name (i := 12) sclaw.nd rfl (by first | exact Or.inl rfl | exact Or.inr rfl))) (fun _ _ _ _ _ => pts_nil) (fun _ _ _ _ _ => (pe_cmpR op_eq (pv 11) (pv 12) (nomark _)))) (nomark _)) (pss_one (ps_ret pe_bl)) pss_nil)
      (pss_one (ps_if (PW.pt (pw_or (pt_not (pt_val (pe_callB call_isV rfl T.nisinstance (by decide +kernel) (pa_cons (pv 9) (pa_cons (pe_glob (v := .ref T.cDropsError) rfl T.mDropsError rfl) pa_nil))))) (pw_or1 (pt_not (pt_val (pe_callB call_isV rfl T.nisinstance (by decide +kernel) (pa_cons (pv 9) (pa_cons (pe_bltn (v := .ty "ValueError") rfl T.nValueError (by decide +kernel) rfl) pa_nil)))))))) (pss_one (ps_ret pe_bl)) pss_nil)))))))))))))
      (pss_one (ps_ret pe_bl))))), ?_⟩
    refine ⟨(by show 10 ≤ sizeLine; decide), fun wl hwl => ?_⟩
    have g0 : upd H wl (HO.lst [V.str "badcount", V.str "nojar", V.str "samejar", V.str "sizes", V.str "badstart", V.str "otherjars", V.str "wide", V.str "noname", V.str "norow", V.str "noback"]) wl = some (.lst [V.str "badcount", V.str "nojar", V.str "samejar", V.str "sizes", V.str "badstart", V.str "otherjars", V.str "wide", V.str "noname", V.str "norow", V.str "noback"]) := upd_same
    refine ⟨_, rfl, .inl ⟨rfl, _, SqL.of g0⟩, wl, _, _, rfl, rfl, g0, (by show 10 < sizeLine; decide), ?_⟩
    have s0 : Same H (upd (upd H wl (HO.lst [V.str "badcount", V.str "nojar", V.str "samejar", V.str "sizes", V.str "badstart", V.str "otherjars", V.str "wide", V.str "noname", V.str "norow", V.str "noback"])) wl (.lst ([V.str "badcount", V.str "nojar", V.str "samejar", V.str "sizes", V.str "badstart", V.str "otherjars", V.str "wide", V.str "noname", V.str "norow", V.str "noback"] ++ [V.str "badtext"]))) := same_mut (same_new hwl) hwl
    have g1 : upd (upd H wl (HO.lst [V.str "badcount", V.str "nojar", V.str "samejar", V.str "sizes", V.str "badstart", V.str "otherjars", V.str "wide", V.str "noname", V.str "norow", V.str "noback"])) wl (.lst ([V.str "badcount", V.str "nojar", V.str "samejar", V.str "sizes", V.str "badstart", V.str "otherjars", V.str "wide", V.str "noname", V.str "norow", V.str "noback"] ++ [V.str "badtext"])) wl = some (.lst words11) := upd_same
    generalize upd (upd H wl (HO.lst [V.str "badcount", V.str "nojar", V.str "samejar", V.str "sizes", V.str "badstart", V.str "otherjars", V.str "wide", V.str "noname", V.str "norow", V.str "noback"])) wl (.lst ([V.str "badcount", V.str "nojar", V.str "samejar", V.str "sizes", V.str "badstart", V.str "otherjars", V.str "wide", V.str "noname", V.str "norow", V.str "noback"] ++ [V.str "badtext"])) = Hw at s0 g1 ⊢
    refine ⟨_, rfl, (by show 1 ≤ sizeLine; decide), fun z hz => ?_⟩
    have s1 : Same H (upd Hw z (.lst [V.int 0])) := s0.trans (same_new hz)
    have gw1 := (same_new (o := HO.lst [V.int 0]) hz) _ _ g1
    refine ⟨a, z, _, _, rfl, rfl, s1.seq hS, SqL.of upd_same, ?_, fun q hq0 => ?_⟩
    · rw [List.length_map]
      exact Nat.le_trans (by simp; omega : ns.length + [V.int 0].length ≤ 100) (by decide)
    have gw2 := (same_new (o := HO.lst (ns.map V.int ++ [V.int 0])) hq0) _ _ gw1
    refine ⟨_, rfl, q, _, rfl, SqL.of upd_same, fun l hl => ?_⟩
    have gw3 := (same_new (o := HO.lst (cutV (ns.map V.int ++ [V.int 0]) none (some 4))) hl) _ _ gw2
    rw [show (4 : Int) = ((4 : Nat) : Int) from rfl, cut_take] at gw3 ⊢
    refine ⟨l, rfl, ⟨_, SqL.of upd_same⟩, ?_⟩
    have allI : ∀ y ∈ (ns.map V.int ++ [V.int 0]).take 4, ∃ n, y = V.int n := fun y hy => by
      rcases List.mem_append.mp (List.mem_of_mem_take hy) with k | k
      · obtain ⟨n, _, e⟩ := List.mem_map.mp k
        exact ⟨n, e.symm⟩
      · exact ⟨0, by simpa using k⟩
    generalize hxs : (ns.map V.int ++ [V.int 0]).take 4 = xs at *
    generalize hHl : upd (upd (upd Hw z (.lst [V.int 0])) q (.lst (ns.map V.int ++ [V.int 0]))) l (.lst xs) = Hl at *
    have gl : Hl l = some (.lst xs) := by rw [← hHl]; exact upd_same
    refine for_list (K := K) (a := l) (xs := xs) (fun i σ H' => ∃ v2 v3 v4 v5 v6 v7 v8 v9 v10 v11 v12 : Option V, σ = [some (.ref a), some (.ref wl), v2, v3, v4, v5, v6, v7, v8, v9, v10, v11, v12] ∧ Same Hl H') ⟨none, none, none, none, none, none, none, none, none, none, none, rfl, Same.refl _⟩ (fun i σ H' _ ⟨_, _, _, _, _, _, _, _, _, _, _, _, e⟩ => e.seq (SqL.of gl)) ?_ ?_
    · rintro i y σ H0 hi ⟨v2, v3, v4, v5, v6, v7, v8, v9, v10, v11, v12, rfl, sm0⟩
      obtain ⟨n, rfl⟩ := allI y (List.mem_of_getElem? hi)
      refine ⟨_, rfl, n, rfl, fun H2 s s0' w2 s2' => ?_⟩
      have gw4 := (sm0.trans s2') _ _ gw3
      have wls : wl ≠ s := ne_of_none (sm0 _ _ gw3) s0'
      -- the things, the two drawn
      refine ⟨_, rfl, _, _, rfl, rfl, ⟨by decide, by decide, by decide⟩, (by show 7 ≤ sizeLine; decide), fun tl htl => ?_⟩
      have ts := w2.ne htl
      have gt0 : upd H2 tl (HO.lst (things.map Thing.v)) tl = some (.lst (things.map Thing.v)) := upd_same
      have w2t := w2.new (o := HO.lst (things.map Thing.v)) htl
      have gw5 := (same_new (o := HO.lst (things.map Thing.v)) htl) _ _ gw4
      have sT := same_new (o := HO.lst (things.map Thing.v)) htl
      refine ⟨_, rfl, _, rfl, s, 7, rfl, w2t, by decide, by decide, fun H3 x3 lx3 w3 f3 => ?_⟩
      have gt3 := f3 _ _ ts gt0
      obtain ⟨u, hu⟩ : ∃ u : Thing, things[x3]? = some u := ⟨_, List.getElem?_eq_getElem (show x3 < things.length by show x3 < 7; omega)⟩
      refine ⟨tl, _, _, _, rfl, rfl, SqL.of gt3, (show atI (things.map Thing.v) (x3 : Int) = some u.v from atI_nat (by rw [List.getElem?_map, hu]; rfl)), ?_⟩
      refine ⟨_, rfl, _, rfl, s, 7, rfl, w3, by decide, by decide, fun H4 x4 lx4 w4 f4 => ?_⟩
      have gt4 := f4 _ _ ts gt3
      obtain ⟨v, hv⟩ : ∃ v : Thing, things[x4]? = some v := ⟨_, List.getElem?_eq_getElem (show x4 < things.length by show x4 < 7; omega)⟩
      refine ⟨tl, _, _, _, rfl, rfl, SqL.of gt4, (show atI (things.map Thing.v) (x4 : Int) = some v.v from atI_nat (by rw [List.getElem?_map, hv]; rfl)), ?_⟩
      have gw6 := f4 _ _ wls (f3 _ _ wls gw5)
      -- what is due
      refine ⟨_, _, rfl, ?_⟩
      refine ⟨_, rfl, _, rfl, (by show 2 ≤ sizeLine; decide), fun p1 np1 => ?_⟩
      have sp1 := same_new (o := HO.tup [u.v, v.v]) np1
      have hp1 : upd H4 p1 (HO.tup [u.v, v.v]) p1 = some (.tup [u.v, v.v]) := upd_same
      generalize upd H4 p1 (HO.tup [u.v, v.v]) = HA at sp1 hp1 ⊢
      refine ⟨_, rfl, _, rfl, _, rfl, _, rfl, (by show 2 ≤ sizeLine; decide), fun p2 np2 => ?_⟩
      have sp2 := same_new (o := HO.tup [u.v, v.v]) np2
      have hp2 : upd HA p2 (HO.tup [u.v, v.v]) p2 = some (.tup [u.v, v.v]) := upd_same
      generalize upd HA p2 (HO.tup [u.v, v.v]) = HB at sp2 hp2 ⊢
      refine ⟨_, rfl, _, rfl, _, rfl, _, rfl, _, rfl, (by show 9 ≤ sizeLine; decide), fun dl ndl => ?_⟩
      have sdl := same_new (o := HO.lst [V.ref p1, u.v, u.v, V.ref p2, u.v, u.v, u.v, u.v, u.v]) ndl
      have gdl : upd HB dl (HO.lst [V.ref p1, u.v, u.v, V.ref p2, u.v, u.v, u.v, u.v, u.v]) dl = some (.lst [V.ref p1, u.v, u.v, V.ref p2, u.v, u.v, u.v, u.v, u.v]) := upd_same
      generalize upd HB dl (HO.lst [V.ref p1, u.v, u.v, V.ref p2, u.v, u.v, u.v, u.v, u.v]) = HC at sdl gdl ⊢
      refine ⟨_, rfl, _, rfl, u.v, v.v, rfl, fun H5 e1 xs1 nx1 h1 A1 s5 => ?_⟩
      refine ⟨_, rfl, _, rfl, u.v, v.v, rfl, fun H6 e2 xs2 nx2 h2 A2' s6 => ?_⟩
      refine ⟨(by show 2 ≤ sizeLine; decide), fun bl nbl => ?_⟩
      have sbl := same_new (o := HO.lst [V.ref e1, V.ref e2]) nbl
      have gbl : upd H6 bl (HO.lst [V.ref e1, V.ref e2]) bl = some (.lst [V.ref e1, V.ref e2]) := upd_same
      generalize upd H6 bl (HO.lst [V.ref e1, V.ref e2]) = H7 at sbl gbl ⊢
      have s67 := s6.trans sbl
      have s57 := s5.trans s67
      have sC := (sdl.trans s57)
      have fin1 : ∃ xs, H7 e1 = some (.lst xs) ∧ A2 (HeldV H7) xs (held11 T u.v v.v) := ⟨xs1, s67 _ _ h1, A2.mono (fun _ _ k => HeldV.same s67 k) A1⟩
      have fin2 : ∃ xs, H7 e2 = some (.lst xs) ∧ A2 (HeldV H7) xs (held11 T u.v v.v) := ⟨xs2, sbl _ _ h2, A2.mono (fun _ _ k => HeldV.same sbl k) A2'⟩
      have hp1' := sC _ _ (sp2 _ _ hp1)
      have hp2' := sC _ _ hp2
      have gdl' := s57 _ _ gdl
      have gw7 := sC _ _ (sp2 _ _ (sp1 _ _ gw6))
      have all7 : Fr s H0 H7 := ((Fr.of s2').trans (Fr.of sT)).trans (((f3.trans f4).trans (Fr.of sp1)).trans ((Fr.of sp2).trans (Fr.of sC)))
      have all0 : Same H0 H7 := fun b o q => all7 b o (ne_of_none q s0') q
      clear hp1 hp2 gdl gt0 gt3 gt4 h1 h2 A1 A2' s5 s6 sbl sdl sp1 sp2 nbl gw6 gw5 gw4
      refine ⟨bl, rfl, ⟨_, SqL.of gbl⟩, ?_⟩
      refine for_list (K := K) (a := bl) (xs := [V.ref e1, V.ref e2]) (fun i σ H' => ∃ v8 v9 v10 v11 v12 : Option V, σ = [some (.ref a), some (.ref wl), some (.int n), some (.ref s), some (.ref tl), some u.v, some v.v, some (.ref dl), v8, v9, v10, v11, v12] ∧ Same H7 H') ⟨v8, v9, v10, v11, v12, rfl, Same.refl _⟩ (fun i σ H' _ ⟨_, _, _, _, _, _, e⟩ => e.seq (SqL.of gbl)) ?_ ?_
      · rintro i5 y5 σ H8 hi5 ⟨v8, v9, v10, v11, v12, rfl, s8⟩
        obtain ⟨e, rfl, xs, he, hA⟩ : ∃ e, y5 = V.ref e ∧ ∃ xs, H7 e = some (.lst xs) ∧ A2 (HeldV H7) xs (held11 T u.v v.v) := by
          rcases List.mem_cons.mp (List.mem_of_getElem? hi5) with h | h
          · exact ⟨e1, h, fin1⟩
          · exact ⟨e2, by simpa using h, fin2⟩
        have he8 := s8 _ _ he
        have hA8 := A2.mono (fun _ _ k => HeldV.same s8 k) hA
        refine ⟨_, rfl, e, xs, u.v, v.v, rfl, he8, hA8, fun H9 r t1 t2 nr hr9 ht1 ht2 s9 => ?_⟩
        have s79 := s8.trans s9
        have flat : Flat 60 (PyData.list [.tuple [u.d, v.d], u.d, u.d, .tuple [u.d, v.d], u.d, u.d, u.d, u.d, u.d]) := by
          refine ⟨?_, ?_⟩
          · simp [PyData.canLay0, PyData.canLayAll0, thing_lay hu, thing_lay hv]
          · simp [PyData.depth, PyData.depthAll, thing_dep]
        refine ⟨_, rfl, neSame (d := (PyData.list [.tuple [u.d, v.d], u.d, u.d, .tuple [u.d, v.d], u.d, u.d, u.d, u.d, u.d])) (.lst (SqL.of hr9) (.cons (.tup (SqT.of ht1) (.cons (thing_dp u) (.cons (thing_dp v) .nil))) (.cons (thing_dp u) (.cons (thing_dp u) (.cons (.tup (SqT.of ht2) (.cons (thing_dp u) (.cons (thing_dp v) .nil))) (.cons (thing_dp u) (.cons (thing_dp u) (.cons (thing_dp u) (.cons (thing_dp u) (.cons (thing_dp u) .nil)))))))))) (.lst (SqL.of (s79 _ _ gdl')) (.cons (.tup (SqT.of (s79 _ _ hp1')) (.cons (thing_dp u) (.cons (thing_dp v) .nil))) (.cons (thing_dp u) (.cons (thing_dp u) (.cons (.tup (SqT.of (s79 _ _ hp2')) (.cons (thing_dp u) (.cons (thing_dp v) .nil))) (.cons (thing_dp u) (.cons (thing_dp u) (.cons (thing_dp u) (.cons (thing_dp u) (.cons (thing_dp u) .nil)))))))))) flat ⟨_, rfl, ifF rfl ?_⟩⟩
        have he9 := s9 _ _ he8
        have hA9 := A2.mono (fun _ _ k => HeldV.same s9 k) hA8
        have xl : xs.length = 11 := hA.len
        clear hr9 ht1 ht2
        -- what they tell
        refine ⟨_, rfl, e, rfl, ⟨_, SqL.of he9⟩, fun D1 hD1 => ?_⟩
        refine lc_list (K := K) (a := e) (xs := xs) (fun i H' => H' D1 = some (.lst ((toldW.take i).map V.str)) ∧ Same H9 H') ⟨upd_same, same_new hD1⟩ (fun i H' _ ⟨_, e'⟩ => e'.seq (SqL.of he9)) ?_ ?_
        · rintro i6 y6 H' hi6 ⟨k1, k2⟩
          obtain ⟨qq, hqq, hy⟩ := hA9.get hi6
          obtain ⟨ax, rfl, hx⟩ := hy.same k2
          obtain ⟨x, f, fd, y, sp, hw, X1, X2, X3, X4, X5, X6⟩ := told_at (P := P) (w := w) (base := base) T hqq
          refine ⟨rfl, _, rfl, ax, qq.1, f, qq.2, fd, y, sp, rfl, X1, X2, hx, X3, X4, X5, X6 _ _ _ ?_⟩
          refine ⟨_, k1, Nat.lt_of_lt_of_le (by rw [List.length_map, List.length_take]; show min i6 11 < 100; omega) (by decide), ?_, same_mut k2 hD1⟩
          rw [upd_same, List.take_add_one, hw]
          simp
        · rintro H10 ⟨k1, s10⟩
          rw [xl] at k1
          have gwA := s10 _ _ (s79 _ _ gw7)
          -- what is due to be told
          refine ⟨_, rfl, wl, rfl, ⟨_, SqL.of gwA⟩, fun D2 hD2 => ?_⟩
          refine lc_list (K := K) (a := wl) (xs := words11) (fun i H' => H' D2 = some (.lst ((toldW.take i).map V.str)) ∧ Same H10 H') ⟨upd_same, same_new hD2⟩ (fun i H' _ ⟨_, e'⟩ => e'.seq (SqL.of gwA)) ?_ ?_
          · rintro i6 y6 H' hi6 ⟨k3, k4⟩
            obtain ⟨x, rfl, x20, hx⟩ := word_at hi6
            refine ⟨rfl, _, rfl, _, _, rfl, rfl, Nat.le_trans (Nat.add_le_add (show Str.length ("refused " : Str) ≤ 20 by decide +kernel) x20) (by decide), _, k3, Nat.lt_of_lt_of_le (by rw [List.length_map, List.length_take]; show min i6 11 < 100; omega) (by decide), ?_, same_mut k4 hD2⟩
            rw [upd_same, List.take_add_one, hx]
            simp
          · rintro H11 ⟨k3, s11⟩
            refine neSame (d := .list (toldW.map PyData.str)) (.lst (SqL.of (s11 _ _ k1)) (told_dp _)) (.lst (SqL.of k3) (told_dp _)) told_flat ⟨_, rfl, ifF rfl ?_⟩
            have sB := (s79.trans s10).trans s11
            have heB := sB _ _ he
            have hAB := A2.mono (fun _ _ k => HeldV.same sB k) hA
            clear k1 k3 gwA
            refine ⟨_, rfl, e, xs, rfl, SqL.of heB, ?_⟩
            refine for_enumL (K := K) (a := e) (xs := xs) (fun i σ H' => ∃ v9 v10 v11 v12 : Option V, σ = [some (.ref a), some (.ref wl), some (.int n), some (.ref s), some (.ref tl), some u.v, some v.v, some (.ref dl), some (.ref e), v9, v10, v11, v12] ∧ Same H11 H')
              ⟨v9, v10, v11, v12, rfl, Same.refl _⟩ (fun i σ H' ⟨_, _, _, _, _, q⟩ => q.seq (SqL.of heB)) ?_ ?_
            · rintro i7 y7 T7 σ H12 hi7 ⟨v9, v10, v11, v12, rfl, s12⟩ hT7
              obtain ⟨qq, hqq, hy⟩ := hAB.get hi7
              have i11 : i7 < 11 := by
                have := (List.getElem?_eq_some_iff.mp hi7).1
                omega
              have sT7 : Same H12 (upd H12 T7 (.tup [.int (i7 : Nat), y7])) := same_new hT7
              refine ⟨T7, _, rfl, SqT.of upd_same, rfl, ?_⟩
              generalize upd H12 T7 (.tup [.int (i7 : Nat), y7]) = H13 at sT7 ⊢
              have s13 := s12.trans sT7
              obtain ⟨ax, rfl, hx⟩ := hy.same s13
              obtain ⟨hk, f1, f2⟩ := kind_at T hqq
              refine ⟨_, _, rfl, _, _, rfl, rfl, ?_⟩
              refine ⟨_, rfl, ax, qq.1, qq.2, _, rfl, hk, hx, fun H14 r7 nr7 hr7 s14 => ?_⟩
              refine ⟨11, rfl, by decide, by decide, fun D3 hD3 => ?_⟩
              refine lc_range (lo := 0) (n := (11 : Int).toNat) (fun i H' => H' D3 = some (.lst (((List.range i).map fun k => decide (i7 = k)).map V.bl)) ∧ Same H14 H') ⟨upd_same, same_new hD3⟩ ?_ ?_
              · rintro i8 H' hi8 ⟨k1, k2⟩
                have ib : i8 < 11 := hi8
                refine ⟨rfl, _, rfl, _, rfl, rfl, ?_⟩
                refine ⟨_, k1, Nat.lt_of_lt_of_le (by simp; omega : _ < 100) (by decide), ?_, same_mut k2 hD3⟩
                have e : decide (V.int (i7 : Int) = V.int (0 + (i8 : Int))) = decide (i7 = i8) := by
                  refine decide_eq_decide.mpr ⟨fun h => ?_, fun h => ?_⟩
                  · injection h with h
                    omega
                  · rw [h]
                    congr 1
                    omega
                rw [upd_same, List.range_succ, e]
                simp
              · rintro H15 ⟨k1, s15⟩
                refine neSame (d := .list (((List.range 11).map fun k => decide (i7 = k)).map PyData.bool)) (.lst (SqL.of (s15 _ _ hr7)) (bl_dp ((List.range 11).map fun k => decide (i7 = k)))) (.lst (SqL.of k1) (bl_dp _)) ((Flat.list (n := 0) fun _ _ => Flat.bl).mono (by decide)) ⟨_, rfl, ifF rfl ?_⟩
                have hx15 := hx.same (s14.trans s15)
                refine ⟨_, rfl, ax, qq.1, qq.2, _, _, true, rfl, hk.xc, hx15, (fun _ r => r), f1, _, rfl, ifF rfl ?_⟩
                refine ⟨_, rfl, ax, qq.1, qq.2, _, _, true, rfl, hk.xc, hx15, (fun _ r => r), f2, _, rfl, ifF rfl ?_⟩
                exact ⟨_, _, _, _, rfl, s13.trans (s14.trans s15)⟩
            · rintro σ H' ⟨v9, v10, v11, v12, rfl, q⟩
              exact ⟨_, _, _, _, _, rfl, s8.trans (s9.trans (s10.trans (s11.trans q)))⟩
      · rintro σ H' ⟨v8, v9, v10, v11, v12, rfl, e⟩
        exact ⟨_, _, _, _, _, _, _, _, _, _, _, rfl, sm0.trans (all0.trans e)⟩
    · rintro σ H' ⟨_, _, _, _, _, _, _, _, _, _, _, rfl, _⟩
      exact hq H'
end
end Kp

namespace Kp
open PySem PySem.Spec PyProof.Rows L2 KpR
theorem kit_ty {K : PySem.W.Frag} {T : String} {A : Addr} {b : Bool} (h : PySem.W.subIn K (.ref A) (.type T) = some b) (m : PySem.W.kitMeta T = true := by decide +kernel) : PySem.W.kitOne K (.ref A) (.type T) = some b := by
  have ne : ¬ (Value.ref A == Value.type T) = true := fun z => nomatch eq_of_beq z
  unfold PySem.W.kitOne
  rw [if_neg ne]
  show (if PySem.W.kitMeta T = true then PySem.W.subIn K (.ref A) (.type T) else none) = some b
  rw [if_pos m]
  exact h
theorem all_mk {l : PySem.W.OpenLaw} {w : World} {K : PySem.W.Frag} {h : Heap} {mg : Str → Option Value} {fa CBadCount CNoJar CSameJar CSizes CBadStart CWide CNoName CNoRow CBadText COtherJars CNoBack fBadCountInit fNoJarInit fSameJarInit fSizesInit fBadStartInit fWideInit fNoNameInit fNoRowInit fBadTextInit fBadCountTold fNoJarTold fSameJarTold fSizesTold fBadStartTold fOtherJarsTold fWideTold fNoNameTold fNoRowTold fNoBackTold fBadTextTold fLwell fLdraw fLkinds fLbyplace fLbyname fLfields flaw CDropsError : Addr} (X : K.In h) (G : h.Ns mainGlobals mg) (hfa : mg "law" = some (.ref fa))
    {odBadCountInit anBadCountInit odNoJarInit anNoJarInit odSameJarInit anSameJarInit odSizesInit anSizesInit odBadStartInit anBadStartInit odWideInit anWideInit odNoNameInit anNoNameInit odNoRowInit anNoRowInit odBadTextInit anBadTextInit odBadCountTold anBadCountTold odNoJarTold anNoJarTold odSameJarTold anSameJarTold odSizesTold anSizesTold odBadStartTold anBadStartTold odOtherJarsTold anOtherJarsTold odWideTold anWideTold odNoNameTold anNoNameTold odNoRowTold anNoRowTold odNoBackTold anNoBackTold odBadTextTold anBadTextTold odLwell anLwell odLdraw anLdraw odLkinds anLkinds odLbyplace anLbyplace odLbyname anLbyname odLfields anLfields odlaw anlaw : Option Addr} {slBadCountInit slNoJarInit slSameJarInit slSizesInit slBadStartInit slWideInit slNoNameInit slNoRowInit slBadTextInit slBadCountTold slNoJarTold slSameJarTold slSizesTold slBadStartTold slOtherJarsTold slWideTold slNoNameTold slNoRowTold slNoBackTold slBadTextTold slLwell slLdraw slLkinds slLbyplace slLbyname slLfields sllaw : Array (Option Value)} {ocBadCountInit dcBadCountInit pmBadCountInit cdBadCountInit ctBadCountInit kVBadCountInit ocNoJarInit dcNoJarInit pmNoJarInit cdNoJarInit ctNoJarInit kVNoJarInit ocSameJarInit dcSameJarInit pmSameJarInit cdSameJarInit ctSameJarInit kVSameJarInit ocSizesInit dcSizesInit pmSizesInit cdSizesInit ctSizesInit kVSizesInit ocBadStartInit dcBadStartInit pmBadStartInit cdBadStartInit ctBadStartInit kVBadStartInit ocWideInit dcWideInit pmWideInit cdWideInit ctWideInit kVWideInit ocNoNameInit dcNoNameInit pmNoNameInit cdNoNameInit ctNoNameInit kVNoNameInit ocNoRowInit dcNoRowInit pmNoRowInit cdNoRowInit ctNoRowInit kVNoRowInit ocBadTextInit dcBadTextInit pmBadTextInit cdBadTextInit ctBadTextInit kVBadTextInit ocBadCountTold dcBadCountTold pmBadCountTold cdBadCountTold ctBadCountTold kVBadCountTold ocNoJarTold dcNoJarTold pmNoJarTold cdNoJarTold ctNoJarTold kVNoJarTold ocSameJarTold dcSameJarTold pmSameJarTold cdSameJarTold ctSameJarTold kVSameJarTold ocSizesTold dcSizesTold pmSizesTold cdSizesTold ctSizesTold kVSizesTold ocBadStartTold dcBadStartTold pmBadStartTold cdBadStartTold ctBadStartTold kVBadStartTold ocOtherJarsTold dcOtherJarsTold pmOtherJarsTold cdOtherJarsTold ctOtherJarsTold kVOtherJarsTold ocWideTold dcWideTold pmWideTold cdWideTold ctWideTold kVWideTold ocNoNameTold dcNoNameTold pmNoNameTold cdNoNameTold ctNoNameTold kVNoNameTold ocNoRowTold dcNoRowTold pmNoRowTold cdNoRowTold ctNoRowTold kVNoRowTold ocNoBackTold dcNoBackTold pmNoBackTold cdNoBackTold ctNoBackTold kVNoBackTold ocBadTextTold dcBadTextTold pmBadTextTold cdBadTextTold ctBadTextTold kVBadTextTold ocLwell dcLwell pmLwell cdLwell ctLwell kVLwell ocLdraw dcLdraw pmLdraw cdLdraw ctLdraw kVLdraw ocLkinds dcLkinds pmLkinds cdLkinds ctLkinds kVLkinds ocLbyplace dcLbyplace pmLbyplace cdLbyplace ctLbyplace kVLbyplace ocLbyname dcLbyname pmLbyname cdLbyname ctLbyname kVLbyname ocLfields dcLfields pmLfields cdLfields ctLfields kVLfields oclaw dclaw pmlaw cdlaw ctlaw kVlaw : Value}
    {nmXBadCount qXBadCount : Str} {NXBadCount : Addr} {bsXBadCount bmXBadCount : List Value} {abXBadCount : Bool} {snXBadCount : List Str} {subXBadCount : List Value} {colXBadCount : Option Bool} {ddXBadCount : Option Addr} {r0XBadCount r1XBadCount r2XBadCount r3XBadCount r5XBadCount : Option Value}
    {nmXNoJar qXNoJar : Str} {NXNoJar : Addr} {bsXNoJar bmXNoJar : List Value} {abXNoJar : Bool} {snXNoJar : List Str} {subXNoJar : List Value} {colXNoJar : Option Bool} {ddXNoJar : Option Addr} {r0XNoJar r1XNoJar r2XNoJar r3XNoJar r5XNoJar : Option Value}
    {nmXSameJar qXSameJar : Str} {NXSameJar : Addr} {bsXSameJar bmXSameJar : List Value} {abXSameJar : Bool} {snXSameJar : List Str} {subXSameJar : List Value} {colXSameJar : Option Bool} {ddXSameJar : Option Addr} {r0XSameJar r1XSameJar r2XSameJar r3XSameJar r5XSameJar : Option Value}
    {nmXSizes qXSizes : Str} {NXSizes : Addr} {bsXSizes bmXSizes : List Value} {abXSizes : Bool} {snXSizes : List Str} {subXSizes : List Value} {colXSizes : Option Bool} {ddXSizes : Option Addr} {r0XSizes r1XSizes r2XSizes r3XSizes r5XSizes : Option Value}
    {nmXBadStart qXBadStart : Str} {NXBadStart : Addr} {bsXBadStart bmXBadStart : List Value} {abXBadStart : Bool} {snXBadStart : List Str} {subXBadStart : List Value} {colXBadStart : Option Bool} {ddXBadStart : Option Addr} {r0XBadStart r1XBadStart r2XBadStart r3XBadStart r5XBadStart : Option Value}
    {nmXWide qXWide : Str} {NXWide : Addr} {bsXWide bmXWide : List Value} {abXWide : Bool} {snXWide : List Str} {subXWide : List Value} {colXWide : Option Bool} {ddXWide : Option Addr} {r0XWide r1XWide r2XWide r3XWide r5XWide : Option Value}
    {nmXNoName qXNoName : Str} {NXNoName : Addr} {bsXNoName bmXNoName : List Value} {abXNoName : Bool} {snXNoName : List Str} {subXNoName : List Value} {colXNoName : Option Bool} {ddXNoName : Option Addr} {r0XNoName r1XNoName r2XNoName r3XNoName r5XNoName : Option Value}
    {nmXNoRow qXNoRow : Str} {NXNoRow : Addr} {bsXNoRow bmXNoRow : List Value} {abXNoRow : Bool} {snXNoRow : List Str} {subXNoRow : List Value} {colXNoRow : Option Bool} {ddXNoRow : Option Addr} {r0XNoRow r1XNoRow r2XNoRow r3XNoRow r5XNoRow : Option Value}
    {nmXBadText qXBadText : Str} {NXBadText : Addr} {bsXBadText bmXBadText : List Value} {abXBadText : Bool} {snXBadText : List Str} {subXBadText : List Value} {colXBadText : Option Bool} {ddXBadText : Option Addr} {r0XBadText r1XBadText r2XBadText r3XBadText r5XBadText : Option Value}
    (xBadCount : PySem.W.nsIn K mainGlobals "BadCount" = some (some (.ref CBadCount)))
    (xNoJar : PySem.W.nsIn K mainGlobals "NoJar" = some (some (.ref CNoJar)))
    (xSameJar : PySem.W.nsIn K mainGlobals "SameJar" = some (some (.ref CSameJar)))
    (xSizes : PySem.W.nsIn K mainGlobals "Sizes" = some (some (.ref CSizes)))
    (xBadStart : PySem.W.nsIn K mainGlobals "BadStart" = some (some (.ref CBadStart)))
    (xWide : PySem.W.nsIn K mainGlobals "Wide" = some (some (.ref CWide)))
    (xNoName : PySem.W.nsIn K mainGlobals "NoName" = some (some (.ref CNoName)))
    (xNoRow : PySem.W.nsIn K mainGlobals "NoRow" = some (some (.ref CNoRow)))
    (xBadText : PySem.W.nsIn K mainGlobals "BadText" = some (some (.ref CBadText)))
    (xOtherJars : PySem.W.nsIn K mainGlobals "OtherJars" = some (some (.ref COtherJars)))
    (xNoBack : PySem.W.nsIn K mainGlobals "NoBack" = some (some (.ref CNoBack)))
    (aBadCountInit : PySem.W.findIn K (.ref CBadCount) "__init__" = some (some (.ref fBadCountInit)))
    (iBadCountInit : PySem.W.isFn K (.ref fBadCountInit) = true)
    (lBadCountInit : K.lookup fBadCountInit = some ⟨ocBadCountInit, odBadCountInit, .func (PySem.W.fnOf "__init__" "BadCount.__init__" (defArgs sBadCountInit) (defBody sBadCountInit) (defScope sBadCountInit) .none kVBadCountInit dcBadCountInit pmBadCountInit anBadCountInit cdBadCountInit ctBadCountInit), slBadCountInit⟩)
    (qBadCountInit : PySem.W.codeIn K cdBadCountInit "BadCount.__init__" = true)
    (kBadCountInit : PySem.W.keepIn K (.ref fBadCountInit) = true)
    (aNoJarInit : PySem.W.findIn K (.ref CNoJar) "__init__" = some (some (.ref fNoJarInit)))
    (iNoJarInit : PySem.W.isFn K (.ref fNoJarInit) = true)
    (lNoJarInit : K.lookup fNoJarInit = some ⟨ocNoJarInit, odNoJarInit, .func (PySem.W.fnOf "__init__" "NoJar.__init__" (defArgs sNoJarInit) (defBody sNoJarInit) (defScope sNoJarInit) .none kVNoJarInit dcNoJarInit pmNoJarInit anNoJarInit cdNoJarInit ctNoJarInit), slNoJarInit⟩)
    (qNoJarInit : PySem.W.codeIn K cdNoJarInit "NoJar.__init__" = true)
    (kNoJarInit : PySem.W.keepIn K (.ref fNoJarInit) = true)
    (aSameJarInit : PySem.W.findIn K (.ref CSameJar) "__init__" = some (some (.ref fSameJarInit)))
    (iSameJarInit : PySem.W.isFn K (.ref fSameJarInit) = true)
    (lSameJarInit : K.lookup fSameJarInit = some ⟨ocSameJarInit, odSameJarInit, .func (PySem.W.fnOf "__init__" "SameJar.__init__" (defArgs sSameJarInit) (defBody sSameJarInit) (defScope sSameJarInit) .none kVSameJarInit dcSameJarInit pmSameJarInit anSameJarInit cdSameJarInit ctSameJarInit), slSameJarInit⟩)
    (qSameJarInit : PySem.W.codeIn K cdSameJarInit "SameJar.__init__" = true)
    (kSameJarInit : PySem.W.keepIn K (.ref fSameJarInit) = true)
    (aSizesInit : PySem.W.findIn K (.ref CSizes) "__init__" = some (some (.ref fSizesInit)))
    (iSizesInit : PySem.W.isFn K (.ref fSizesInit) = true)
    (lSizesInit : K.lookup fSizesInit = some ⟨ocSizesInit, odSizesInit, .func (PySem.W.fnOf "__init__" "Sizes.__init__" (defArgs sSizesInit) (defBody sSizesInit) (defScope sSizesInit) .none kVSizesInit dcSizesInit pmSizesInit anSizesInit cdSizesInit ctSizesInit), slSizesInit⟩)
    (qSizesInit : PySem.W.codeIn K cdSizesInit "Sizes.__init__" = true)
    (kSizesInit : PySem.W.keepIn K (.ref fSizesInit) = true)
    (aBadStartInit : PySem.W.findIn K (.ref CBadStart) "__init__" = some (some (.ref fBadStartInit)))
    (iBadStartInit : PySem.W.isFn K (.ref fBadStartInit) = true)
    (lBadStartInit : K.lookup fBadStartInit = some ⟨ocBadStartInit, odBadStartInit, .func (PySem.W.fnOf "__init__" "BadStart.__init__" (defArgs sBadStartInit) (defBody sBadStartInit) (defScope sBadStartInit) .none kVBadStartInit dcBadStartInit pmBadStartInit anBadStartInit cdBadStartInit ctBadStartInit), slBadStartInit⟩)
    (qBadStartInit : PySem.W.codeIn K cdBadStartInit "BadStart.__init__" = true)
    (kBadStartInit : PySem.W.keepIn K (.ref fBadStartInit) = true)
    (aWideInit : PySem.W.findIn K (.ref CWide) "__init__" = some (some (.ref fWideInit)))
    (iWideInit : PySem.W.isFn K (.ref fWideInit) = true)
    (lWideInit : K.lookup fWideInit = some ⟨ocWideInit, odWideInit, .func (PySem.W.fnOf "__init__" "Wide.__init__" (defArgs sWideInit) (defBody sWideInit) (defScope sWideInit) .none kVWideInit dcWideInit pmWideInit anWideInit cdWideInit ctWideInit), slWideInit⟩)
    (qWideInit : PySem.W.codeIn K cdWideInit "Wide.__init__" = true)
    (kWideInit : PySem.W.keepIn K (.ref fWideInit) = true)
    (aNoNameInit : PySem.W.findIn K (.ref CNoName) "__init__" = some (some (.ref fNoNameInit)))
    (iNoNameInit : PySem.W.isFn K (.ref fNoNameInit) = true)
    (lNoNameInit : K.lookup fNoNameInit = some ⟨ocNoNameInit, odNoNameInit, .func (PySem.W.fnOf "__init__" "NoName.__init__" (defArgs sNoNameInit) (defBody sNoNameInit) (defScope sNoNameInit) .none kVNoNameInit dcNoNameInit pmNoNameInit anNoNameInit cdNoNameInit ctNoNameInit), slNoNameInit⟩)
    (qNoNameInit : PySem.W.codeIn K cdNoNameInit "NoName.__init__" = true)
    (kNoNameInit : PySem.W.keepIn K (.ref fNoNameInit) = true)
    (aNoRowInit : PySem.W.findIn K (.ref CNoRow) "__init__" = some (some (.ref fNoRowInit)))
    (iNoRowInit : PySem.W.isFn K (.ref fNoRowInit) = true)
    (lNoRowInit : K.lookup fNoRowInit = some ⟨ocNoRowInit, odNoRowInit, .func (PySem.W.fnOf "__init__" "NoRow.__init__" (defArgs sNoRowInit) (defBody sNoRowInit) (defScope sNoRowInit) .none kVNoRowInit dcNoRowInit pmNoRowInit anNoRowInit cdNoRowInit ctNoRowInit), slNoRowInit⟩)
    (qNoRowInit : PySem.W.codeIn K cdNoRowInit "NoRow.__init__" = true)
    (kNoRowInit : PySem.W.keepIn K (.ref fNoRowInit) = true)
    (aBadTextInit : PySem.W.findIn K (.ref CBadText) "__init__" = some (some (.ref fBadTextInit)))
    (iBadTextInit : PySem.W.isFn K (.ref fBadTextInit) = true)
    (lBadTextInit : K.lookup fBadTextInit = some ⟨ocBadTextInit, odBadTextInit, .func (PySem.W.fnOf "__init__" "BadText.__init__" (defArgs sBadTextInit) (defBody sBadTextInit) (defScope sBadTextInit) .none kVBadTextInit dcBadTextInit pmBadTextInit anBadTextInit cdBadTextInit ctBadTextInit), slBadTextInit⟩)
    (qBadTextInit : PySem.W.codeIn K cdBadTextInit "BadText.__init__" = true)
    (kBadTextInit : PySem.W.keepIn K (.ref fBadTextInit) = true)
    (aBadCountTold : PySem.W.findIn K (.ref CBadCount) "told" = some (some (.ref fBadCountTold)))
    (iBadCountTold : PySem.W.isFn K (.ref fBadCountTold) = true)
    (lBadCountTold : K.lookup fBadCountTold = some ⟨ocBadCountTold, odBadCountTold, .func (PySem.W.fnOf "told" "BadCount.told" (defArgs sBadCountTold) (defBody sBadCountTold) (defScope sBadCountTold) .none kVBadCountTold dcBadCountTold pmBadCountTold anBadCountTold cdBadCountTold ctBadCountTold), slBadCountTold⟩)
    (qBadCountTold : PySem.W.codeIn K cdBadCountTold "BadCount.told" = true)
    (kBadCountTold : PySem.W.keepIn K (.ref fBadCountTold) = true)
    (aNoJarTold : PySem.W.findIn K (.ref CNoJar) "told" = some (some (.ref fNoJarTold)))
    (iNoJarTold : PySem.W.isFn K (.ref fNoJarTold) = true)
    (lNoJarTold : K.lookup fNoJarTold = some ⟨ocNoJarTold, odNoJarTold, .func (PySem.W.fnOf "told" "NoJar.told" (defArgs sNoJarTold) (defBody sNoJarTold) (defScope sNoJarTold) .none kVNoJarTold dcNoJarTold pmNoJarTold anNoJarTold cdNoJarTold ctNoJarTold), slNoJarTold⟩)
    (qNoJarTold : PySem.W.codeIn K cdNoJarTold "NoJar.told" = true)
    (kNoJarTold : PySem.W.keepIn K (.ref fNoJarTold) = true)
    (aSameJarTold : PySem.W.findIn K (.ref CSameJar) "told" = some (some (.ref fSameJarTold)))
    (iSameJarTold : PySem.W.isFn K (.ref fSameJarTold) = true)
    (lSameJarTold : K.lookup fSameJarTold = some ⟨ocSameJarTold, odSameJarTold, .func (PySem.W.fnOf "told" "SameJar.told" (defArgs sSameJarTold) (defBody sSameJarTold) (defScope sSameJarTold) .none kVSameJarTold dcSameJarTold pmSameJarTold anSameJarTold cdSameJarTold ctSameJarTold), slSameJarTold⟩)
    (qSameJarTold : PySem.W.codeIn K cdSameJarTold "SameJar.told" = true)
    (kSameJarTold : PySem.W.keepIn K (.ref fSameJarTold) = true)
    (aSizesTold : PySem.W.findIn K (.ref CSizes) "told" = some (some (.ref fSizesTold)))
    (iSizesTold : PySem.W.isFn K (.ref fSizesTold) = true)
    (lSizesTold : K.lookup fSizesTold = some ⟨ocSizesTold, odSizesTold, .func (PySem.W.fnOf "told" "Sizes.told" (defArgs sSizesTold) (defBody sSizesTold) (defScope sSizesTold) .none kVSizesTold dcSizesTold pmSizesTold anSizesTold cdSizesTold ctSizesTold), slSizesTold⟩)
    (qSizesTold : PySem.W.codeIn K cdSizesTold "Sizes.told" = true)
    (kSizesTold : PySem.W.keepIn K (.ref fSizesTold) = true)
    (aBadStartTold : PySem.W.findIn K (.ref CBadStart) "told" = some (some (.ref fBadStartTold)))
    (iBadStartTold : PySem.W.isFn K (.ref fBadStartTold) = true)
    (lBadStartTold : K.lookup fBadStartTold = some ⟨ocBadStartTold, odBadStartTold, .func (PySem.W.fnOf "told" "BadStart.told" (defArgs sBadStartTold) (defBody sBadStartTold) (defScope sBadStartTold) .none kVBadStartTold dcBadStartTold pmBadStartTold anBadStartTold cdBadStartTold ctBadStartTold), slBadStartTold⟩)
    (qBadStartTold : PySem.W.codeIn K cdBadStartTold "BadStart.told" = true)
    (kBadStartTold : PySem.W.keepIn K (.ref fBadStartTold) = true)
    (aOtherJarsTold : PySem.W.findIn K (.ref COtherJars) "told" = some (some (.ref fOtherJarsTold)))
    (iOtherJarsTold : PySem.W.isFn K (.ref fOtherJarsTold) = true)
    (lOtherJarsTold : K.lookup fOtherJarsTold = some ⟨ocOtherJarsTold, odOtherJarsTold, .func (PySem.W.fnOf "told" "OtherJars.told" (defArgs sOtherJarsTold) (defBody sOtherJarsTold) (defScope sOtherJarsTold) .none kVOtherJarsTold dcOtherJarsTold pmOtherJarsTold anOtherJarsTold cdOtherJarsTold ctOtherJarsTold), slOtherJarsTold⟩)
    (qOtherJarsTold : PySem.W.codeIn K cdOtherJarsTold "OtherJars.told" = true)
    (kOtherJarsTold : PySem.W.keepIn K (.ref fOtherJarsTold) = true)
    (aWideTold : PySem.W.findIn K (.ref CWide) "told" = some (some (.ref fWideTold)))
    (iWideTold : PySem.W.isFn K (.ref fWideTold) = true)
    (lWideTold : K.lookup fWideTold = some ⟨ocWideTold, odWideTold, .func (PySem.W.fnOf "told" "Wide.told" (defArgs sWideTold) (defBody sWideTold) (defScope sWideTold) .none kVWideTold dcWideTold pmWideTold anWideTold cdWideTold ctWideTold), slWideTold⟩)
    (qWideTold : PySem.W.codeIn K cdWideTold "Wide.told" = true)
    (kWideTold : PySem.W.keepIn K (.ref fWideTold) = true)
    (aNoNameTold : PySem.W.findIn K (.ref CNoName) "told" = some (some (.ref fNoNameTold)))
    (iNoNameTold : PySem.W.isFn K (.ref fNoNameTold) = true)
    (lNoNameTold : K.lookup fNoNameTold = some ⟨ocNoNameTold, odNoNameTold, .func (PySem.W.fnOf "told" "NoName.told" (defArgs sNoNameTold) (defBody sNoNameTold) (defScope sNoNameTold) .none kVNoNameTold dcNoNameTold pmNoNameTold anNoNameTold cdNoNameTold ctNoNameTold), slNoNameTold⟩)
    (qNoNameTold : PySem.W.codeIn K cdNoNameTold "NoName.told" = true)
    (kNoNameTold : PySem.W.keepIn K (.ref fNoNameTold) = true)
    (aNoRowTold : PySem.W.findIn K (.ref CNoRow) "told" = some (some (.ref fNoRowTold)))
    (iNoRowTold : PySem.W.isFn K (.ref fNoRowTold) = true)
    (lNoRowTold : K.lookup fNoRowTold = some ⟨ocNoRowTold, odNoRowTold, .func (PySem.W.fnOf "told" "NoRow.told" (defArgs sNoRowTold) (defBody sNoRowTold) (defScope sNoRowTold) .none kVNoRowTold dcNoRowTold pmNoRowTold anNoRowTold cdNoRowTold ctNoRowTold), slNoRowTold⟩)
    (qNoRowTold : PySem.W.codeIn K cdNoRowTold "NoRow.told" = true)
    (kNoRowTold : PySem.W.keepIn K (.ref fNoRowTold) = true)
    (aNoBackTold : PySem.W.findIn K (.ref CNoBack) "told" = some (some (.ref fNoBackTold)))
    (iNoBackTold : PySem.W.isFn K (.ref fNoBackTold) = true)
    (lNoBackTold : K.lookup fNoBackTold = some ⟨ocNoBackTold, odNoBackTold, .func (PySem.W.fnOf "told" "NoBack.told" (defArgs sNoBackTold) (defBody sNoBackTold) (defScope sNoBackTold) .none kVNoBackTold dcNoBackTold pmNoBackTold anNoBackTold cdNoBackTold ctNoBackTold), slNoBackTold⟩)
    (qNoBackTold : PySem.W.codeIn K cdNoBackTold "NoBack.told" = true)
    (kNoBackTold : PySem.W.keepIn K (.ref fNoBackTold) = true)
    (aBadTextTold : PySem.W.findIn K (.ref CBadText) "told" = some (some (.ref fBadTextTold)))
    (iBadTextTold : PySem.W.isFn K (.ref fBadTextTold) = true)
    (lBadTextTold : K.lookup fBadTextTold = some ⟨ocBadTextTold, odBadTextTold, .func (PySem.W.fnOf "told" "BadText.told" (defArgs sBadTextTold) (defBody sBadTextTold) (defScope sBadTextTold) .none kVBadTextTold dcBadTextTold pmBadTextTold anBadTextTold cdBadTextTold ctBadTextTold), slBadTextTold⟩)
    (qBadTextTold : PySem.W.codeIn K cdBadTextTold "BadText.told" = true)
    (kBadTextTold : PySem.W.keepIn K (.ref fBadTextTold) = true)
    (aLwell : PySem.W.nsIn K mainGlobals "_law_well" = some (some (.ref fLwell)))
    (lLwell : K.lookup fLwell = some ⟨ocLwell, odLwell, .func (PySem.W.fnOf "_law_well" "_law_well" (defArgs sLwell) (defBody sLwell) (defScope sLwell) .none kVLwell dcLwell pmLwell anLwell cdLwell ctLwell), slLwell⟩)
    (qLwell : PySem.W.codeIn K cdLwell "_law_well" = true)
    (kLwell : PySem.W.keepIn K (.ref fLwell) = true)
    (aLdraw : PySem.W.nsIn K mainGlobals "_law_draw" = some (some (.ref fLdraw)))
    (lLdraw : K.lookup fLdraw = some ⟨ocLdraw, odLdraw, .func (PySem.W.fnOf "_law_draw" "_law_draw" (defArgs sLdraw) (defBody sLdraw) (defScope sLdraw) .none kVLdraw dcLdraw pmLdraw anLdraw cdLdraw ctLdraw), slLdraw⟩)
    (qLdraw : PySem.W.codeIn K cdLdraw "_law_draw" = true)
    (kLdraw : PySem.W.keepIn K (.ref fLdraw) = true)
    (aLkinds : PySem.W.nsIn K mainGlobals "_law_kinds" = some (some (.ref fLkinds)))
    (lLkinds : K.lookup fLkinds = some ⟨ocLkinds, odLkinds, .func (PySem.W.fnOf "_law_kinds" "_law_kinds" (defArgs sLkinds) (defBody sLkinds) (defScope sLkinds) .none kVLkinds dcLkinds pmLkinds anLkinds cdLkinds ctLkinds), slLkinds⟩)
    (qLkinds : PySem.W.codeIn K cdLkinds "_law_kinds" = true)
    (kLkinds : PySem.W.keepIn K (.ref fLkinds) = true)
    (aLbyplace : PySem.W.nsIn K mainGlobals "_law_by_place" = some (some (.ref fLbyplace)))
    (lLbyplace : K.lookup fLbyplace = some ⟨ocLbyplace, odLbyplace, .func (PySem.W.fnOf "_law_by_place" "_law_by_place" (defArgs sLbyplace) (defBody sLbyplace) (defScope sLbyplace) .none kVLbyplace dcLbyplace pmLbyplace anLbyplace cdLbyplace ctLbyplace), slLbyplace⟩)
    (qLbyplace : PySem.W.codeIn K cdLbyplace "_law_by_place" = true)
    (kLbyplace : PySem.W.keepIn K (.ref fLbyplace) = true)
    (aLbyname : PySem.W.nsIn K mainGlobals "_law_by_name" = some (some (.ref fLbyname)))
    (lLbyname : K.lookup fLbyname = some ⟨ocLbyname, odLbyname, .func (PySem.W.fnOf "_law_by_name" "_law_by_name" (defArgs sLbyname) (defBody sLbyname) (defScope sLbyname) .none kVLbyname dcLbyname pmLbyname anLbyname cdLbyname ctLbyname), slLbyname⟩)
    (qLbyname : PySem.W.codeIn K cdLbyname "_law_by_name" = true)
    (kLbyname : PySem.W.keepIn K (.ref fLbyname) = true)
    (aLfields : PySem.W.nsIn K mainGlobals "_law_fields" = some (some (.ref fLfields)))
    (lLfields : K.lookup fLfields = some ⟨ocLfields, odLfields, .func (PySem.W.fnOf "_law_fields" "_law_fields" (defArgs sLfields) (defBody sLfields) (defScope sLfields) .none kVLfields dcLfields pmLfields anLfields cdLfields ctLfields), slLfields⟩)
    (qLfields : PySem.W.codeIn K cdLfields "_law_fields" = true)
    (kLfields : PySem.W.keepIn K (.ref fLfields) = true)
    (alaw : PySem.W.nsIn K mainGlobals "law" = some (some (.ref flaw)))
    (llaw : K.lookup flaw = some ⟨oclaw, odlaw, .func (PySem.W.fnOf "law" "law" (defArgs slaw) (defBody slaw) (defScope slaw) .none kVlaw dclaw pmlaw anlaw cdlaw ctlaw), sllaw⟩)
    (qlaw : PySem.W.codeIn K cdlaw "law" = true)
    (klaw : PySem.W.keepIn K (.ref flaw) = true)
    (tyBadCount : PySem.W.typeIn K (.ref fBadCountInit) = some (.type "function"))
    (oxBadCount : K.lookup CBadCount = some (PySem.excClassObj nmXBadCount qXBadCount CBadCount NXBadCount bsXBadCount bmXBadCount true snXBadCount subXBadCount abXBadCount colXBadCount ddXBadCount r0XBadCount r1XBadCount r2XBadCount r3XBadCount r5XBadCount "ValueError.__new__"))
    (orBadCount : PySem.HandSPX.refsVE bmXBadCount = true)
    (osBadCount : PySem.W.findIn K (.ref CBadCount) "__setattr__" = some (some (.builtin "object.__setattr__")))
    (obBadCount : PySem.W.subIn K (.ref CBadCount) (.type "BaseException") = some true)
    (otBadCount : PySem.W.typeIn K (.ref CBadCount) = some (.type "type"))
    (okBadCount : PySem.W.keepIn K (.ref CBadCount) = true)
    (xgBadCount : PySem.W.findIn K (.ref CBadCount) "__getattribute__" = some (some (.builtin "BaseException.__getattribute__")))
    (xnBadCount : PySem.W.findIn K (.ref CBadCount) "__getattr__" = some none)
    (xdBadCount : PySem.W.hasDictIn K CBadCount = true)
    (nBadCount_what : PySem.W.findIn K (.ref CBadCount) "what" = some none)
    (nBadCount_count : PySem.W.findIn K (.ref CBadCount) "count" = some none)
    (euBadCount_BadCount : PySem.W.subIn K (.ref CBadCount) (.ref CBadCount) = some true)
    (euBadCount_NoJar : PySem.W.subIn K (.ref CBadCount) (.ref CNoJar) = some false)
    (euBadCount_SameJar : PySem.W.subIn K (.ref CBadCount) (.ref CSameJar) = some false)
    (euBadCount_Sizes : PySem.W.subIn K (.ref CBadCount) (.ref CSizes) = some false)
    (euBadCount_BadStart : PySem.W.subIn K (.ref CBadCount) (.ref CBadStart) = some false)
    (euBadCount_Wide : PySem.W.subIn K (.ref CBadCount) (.ref CWide) = some false)
    (euBadCount_NoName : PySem.W.subIn K (.ref CBadCount) (.ref CNoName) = some false)
    (euBadCount_NoRow : PySem.W.subIn K (.ref CBadCount) (.ref CNoRow) = some false)
    (euBadCount_BadText : PySem.W.subIn K (.ref CBadCount) (.ref CBadText) = some false)
    (tyNoJar : PySem.W.typeIn K (.ref fNoJarInit) = some (.type "function"))
    (oxNoJar : K.lookup CNoJar = some (PySem.excClassObj nmXNoJar qXNoJar CNoJar NXNoJar bsXNoJar bmXNoJar true snXNoJar subXNoJar abXNoJar colXNoJar ddXNoJar r0XNoJar r1XNoJar r2XNoJar r3XNoJar r5XNoJar "ValueError.__new__"))
    (orNoJar : PySem.HandSPX.refsVE bmXNoJar = true)
    (osNoJar : PySem.W.findIn K (.ref CNoJar) "__setattr__" = some (some (.builtin "object.__setattr__")))
    (obNoJar : PySem.W.subIn K (.ref CNoJar) (.type "BaseException") = some true)
    (otNoJar : PySem.W.typeIn K (.ref CNoJar) = some (.type "type"))
    (okNoJar : PySem.W.keepIn K (.ref CNoJar) = true)
    (xgNoJar : PySem.W.findIn K (.ref CNoJar) "__getattribute__" = some (some (.builtin "BaseException.__getattribute__")))
    (xnNoJar : PySem.W.findIn K (.ref CNoJar) "__getattr__" = some none)
    (xdNoJar : PySem.W.hasDictIn K CNoJar = true)
    (nNoJar_jar : PySem.W.findIn K (.ref CNoJar) "jar" = some none)
    (euNoJar_BadCount : PySem.W.subIn K (.ref CNoJar) (.ref CBadCount) = some false)
    (euNoJar_NoJar : PySem.W.subIn K (.ref CNoJar) (.ref CNoJar) = some true)
    (euNoJar_SameJar : PySem.W.subIn K (.ref CNoJar) (.ref CSameJar) = some false)
    (euNoJar_Sizes : PySem.W.subIn K (.ref CNoJar) (.ref CSizes) = some false)
    (euNoJar_BadStart : PySem.W.subIn K (.ref CNoJar) (.ref CBadStart) = some false)
    (euNoJar_Wide : PySem.W.subIn K (.ref CNoJar) (.ref CWide) = some false)
    (euNoJar_NoName : PySem.W.subIn K (.ref CNoJar) (.ref CNoName) = some false)
    (euNoJar_NoRow : PySem.W.subIn K (.ref CNoJar) (.ref CNoRow) = some false)
    (euNoJar_BadText : PySem.W.subIn K (.ref CNoJar) (.ref CBadText) = some false)
    (tySameJar : PySem.W.typeIn K (.ref fSameJarInit) = some (.type "function"))
    (oxSameJar : K.lookup CSameJar = some (PySem.excClassObj nmXSameJar qXSameJar CSameJar NXSameJar bsXSameJar bmXSameJar true snXSameJar subXSameJar abXSameJar colXSameJar ddXSameJar r0XSameJar r1XSameJar r2XSameJar r3XSameJar r5XSameJar "ValueError.__new__"))
    (orSameJar : PySem.HandSPX.refsVE bmXSameJar = true)
    (osSameJar : PySem.W.findIn K (.ref CSameJar) "__setattr__" = some (some (.builtin "object.__setattr__")))
    (obSameJar : PySem.W.subIn K (.ref CSameJar) (.type "BaseException") = some true)
    (otSameJar : PySem.W.typeIn K (.ref CSameJar) = some (.type "type"))
    (okSameJar : PySem.W.keepIn K (.ref CSameJar) = true)
    (xgSameJar : PySem.W.findIn K (.ref CSameJar) "__getattribute__" = some (some (.builtin "BaseException.__getattribute__")))
    (xnSameJar : PySem.W.findIn K (.ref CSameJar) "__getattr__" = some none)
    (xdSameJar : PySem.W.hasDictIn K CSameJar = true)
    (nSameJar_jar : PySem.W.findIn K (.ref CSameJar) "jar" = some none)
    (euSameJar_BadCount : PySem.W.subIn K (.ref CSameJar) (.ref CBadCount) = some false)
    (euSameJar_NoJar : PySem.W.subIn K (.ref CSameJar) (.ref CNoJar) = some false)
    (euSameJar_SameJar : PySem.W.subIn K (.ref CSameJar) (.ref CSameJar) = some true)
    (euSameJar_Sizes : PySem.W.subIn K (.ref CSameJar) (.ref CSizes) = some false)
    (euSameJar_BadStart : PySem.W.subIn K (.ref CSameJar) (.ref CBadStart) = some false)
    (euSameJar_Wide : PySem.W.subIn K (.ref CSameJar) (.ref CWide) = some false)
    (euSameJar_NoName : PySem.W.subIn K (.ref CSameJar) (.ref CNoName) = some false)
    (euSameJar_NoRow : PySem.W.subIn K (.ref CSameJar) (.ref CNoRow) = some false)
    (euSameJar_BadText : PySem.W.subIn K (.ref CSameJar) (.ref CBadText) = some false)
    (tySizes : PySem.W.typeIn K (.ref fSizesInit) = some (.type "function"))
    (oxSizes : K.lookup CSizes = some (PySem.excClassObj nmXSizes qXSizes CSizes NXSizes bsXSizes bmXSizes true snXSizes subXSizes abXSizes colXSizes ddXSizes r0XSizes r1XSizes r2XSizes r3XSizes r5XSizes "ValueError.__new__"))
    (orSizes : PySem.HandSPX.refsVE bmXSizes = true)
    (osSizes : PySem.W.findIn K (.ref CSizes) "__setattr__" = some (some (.builtin "object.__setattr__")))
    (obSizes : PySem.W.subIn K (.ref CSizes) (.type "BaseException") = some true)
    (otSizes : PySem.W.typeIn K (.ref CSizes) = some (.type "type"))
    (okSizes : PySem.W.keepIn K (.ref CSizes) = true)
    (xgSizes : PySem.W.findIn K (.ref CSizes) "__getattribute__" = some (some (.builtin "BaseException.__getattribute__")))
    (xnSizes : PySem.W.findIn K (.ref CSizes) "__getattr__" = some none)
    (xdSizes : PySem.W.hasDictIn K CSizes = true)
    (nSizes_a : PySem.W.findIn K (.ref CSizes) "a" = some none)
    (nSizes_b : PySem.W.findIn K (.ref CSizes) "b" = some none)
    (euSizes_BadCount : PySem.W.subIn K (.ref CSizes) (.ref CBadCount) = some false)
    (euSizes_NoJar : PySem.W.subIn K (.ref CSizes) (.ref CNoJar) = some false)
    (euSizes_SameJar : PySem.W.subIn K (.ref CSizes) (.ref CSameJar) = some false)
    (euSizes_Sizes : PySem.W.subIn K (.ref CSizes) (.ref CSizes) = some true)
    (euSizes_BadStart : PySem.W.subIn K (.ref CSizes) (.ref CBadStart) = some false)
    (euSizes_Wide : PySem.W.subIn K (.ref CSizes) (.ref CWide) = some false)
    (euSizes_NoName : PySem.W.subIn K (.ref CSizes) (.ref CNoName) = some false)
    (euSizes_NoRow : PySem.W.subIn K (.ref CSizes) (.ref CNoRow) = some false)
    (euSizes_BadText : PySem.W.subIn K (.ref CSizes) (.ref CBadText) = some false)
    (tyBadStart : PySem.W.typeIn K (.ref fBadStartInit) = some (.type "function"))
    (oxBadStart : K.lookup CBadStart = some (PySem.excClassObj nmXBadStart qXBadStart CBadStart NXBadStart bsXBadStart bmXBadStart true snXBadStart subXBadStart abXBadStart colXBadStart ddXBadStart r0XBadStart r1XBadStart r2XBadStart r3XBadStart r5XBadStart "ValueError.__new__"))
    (orBadStart : PySem.HandSPX.refsVE bmXBadStart = true)
    (osBadStart : PySem.W.findIn K (.ref CBadStart) "__setattr__" = some (some (.builtin "object.__setattr__")))
    (obBadStart : PySem.W.subIn K (.ref CBadStart) (.type "BaseException") = some true)
    (otBadStart : PySem.W.typeIn K (.ref CBadStart) = some (.type "type"))
    (okBadStart : PySem.W.keepIn K (.ref CBadStart) = true)
    (xgBadStart : PySem.W.findIn K (.ref CBadStart) "__getattribute__" = some (some (.builtin "BaseException.__getattribute__")))
    (xnBadStart : PySem.W.findIn K (.ref CBadStart) "__getattr__" = some none)
    (xdBadStart : PySem.W.hasDictIn K CBadStart = true)
    (nBadStart_jar : PySem.W.findIn K (.ref CBadStart) "jar" = some none)
    (euBadStart_BadCount : PySem.W.subIn K (.ref CBadStart) (.ref CBadCount) = some false)
    (euBadStart_NoJar : PySem.W.subIn K (.ref CBadStart) (.ref CNoJar) = some false)
    (euBadStart_SameJar : PySem.W.subIn K (.ref CBadStart) (.ref CSameJar) = some false)
    (euBadStart_Sizes : PySem.W.subIn K (.ref CBadStart) (.ref CSizes) = some false)
    (euBadStart_BadStart : PySem.W.subIn K (.ref CBadStart) (.ref CBadStart) = some true)
    (euBadStart_Wide : PySem.W.subIn K (.ref CBadStart) (.ref CWide) = some false)
    (euBadStart_NoName : PySem.W.subIn K (.ref CBadStart) (.ref CNoName) = some false)
    (euBadStart_NoRow : PySem.W.subIn K (.ref CBadStart) (.ref CNoRow) = some false)
    (euBadStart_BadText : PySem.W.subIn K (.ref CBadStart) (.ref CBadText) = some false)
    (tyWide : PySem.W.typeIn K (.ref fWideInit) = some (.type "function"))
    (oxWide : K.lookup CWide = some (PySem.excClassObj nmXWide qXWide CWide NXWide bsXWide bmXWide true snXWide subXWide abXWide colXWide ddXWide r0XWide r1XWide r2XWide r3XWide r5XWide "ValueError.__new__"))
    (orWide : PySem.HandSPX.refsVE bmXWide = true)
    (osWide : PySem.W.findIn K (.ref CWide) "__setattr__" = some (some (.builtin "object.__setattr__")))
    (obWide : PySem.W.subIn K (.ref CWide) (.type "BaseException") = some true)
    (otWide : PySem.W.typeIn K (.ref CWide) = some (.type "type"))
    (okWide : PySem.W.keepIn K (.ref CWide) = true)
    (xgWide : PySem.W.findIn K (.ref CWide) "__getattribute__" = some (some (.builtin "BaseException.__getattribute__")))
    (xnWide : PySem.W.findIn K (.ref CWide) "__getattr__" = some none)
    (xdWide : PySem.W.hasDictIn K CWide = true)
    (nWide_count : PySem.W.findIn K (.ref CWide) "count" = some none)
    (euWide_BadCount : PySem.W.subIn K (.ref CWide) (.ref CBadCount) = some false)
    (euWide_NoJar : PySem.W.subIn K (.ref CWide) (.ref CNoJar) = some false)
    (euWide_SameJar : PySem.W.subIn K (.ref CWide) (.ref CSameJar) = some false)
    (euWide_Sizes : PySem.W.subIn K (.ref CWide) (.ref CSizes) = some false)
    (euWide_BadStart : PySem.W.subIn K (.ref CWide) (.ref CBadStart) = some false)
    (euWide_Wide : PySem.W.subIn K (.ref CWide) (.ref CWide) = some true)
    (euWide_NoName : PySem.W.subIn K (.ref CWide) (.ref CNoName) = some false)
    (euWide_NoRow : PySem.W.subIn K (.ref CWide) (.ref CNoRow) = some false)
    (euWide_BadText : PySem.W.subIn K (.ref CWide) (.ref CBadText) = some false)
    (tyNoName : PySem.W.typeIn K (.ref fNoNameInit) = some (.type "function"))
    (oxNoName : K.lookup CNoName = some (PySem.excClassObj nmXNoName qXNoName CNoName NXNoName bsXNoName bmXNoName true snXNoName subXNoName abXNoName colXNoName ddXNoName r0XNoName r1XNoName r2XNoName r3XNoName r5XNoName "ValueError.__new__"))
    (orNoName : PySem.HandSPX.refsVE bmXNoName = true)
    (osNoName : PySem.W.findIn K (.ref CNoName) "__setattr__" = some (some (.builtin "object.__setattr__")))
    (obNoName : PySem.W.subIn K (.ref CNoName) (.type "BaseException") = some true)
    (otNoName : PySem.W.typeIn K (.ref CNoName) = some (.type "type"))
    (okNoName : PySem.W.keepIn K (.ref CNoName) = true)
    (xgNoName : PySem.W.findIn K (.ref CNoName) "__getattribute__" = some (some (.builtin "BaseException.__getattribute__")))
    (xnNoName : PySem.W.findIn K (.ref CNoName) "__getattr__" = some none)
    (xdNoName : PySem.W.hasDictIn K CNoName = true)
    (nNoName_name : PySem.W.findIn K (.ref CNoName) "name" = some none)
    (euNoName_BadCount : PySem.W.subIn K (.ref CNoName) (.ref CBadCount) = some false)
    (euNoName_NoJar : PySem.W.subIn K (.ref CNoName) (.ref CNoJar) = some false)
    (euNoName_SameJar : PySem.W.subIn K (.ref CNoName) (.ref CSameJar) = some false)
    (euNoName_Sizes : PySem.W.subIn K (.ref CNoName) (.ref CSizes) = some false)
    (euNoName_BadStart : PySem.W.subIn K (.ref CNoName) (.ref CBadStart) = some false)
    (euNoName_Wide : PySem.W.subIn K (.ref CNoName) (.ref CWide) = some false)
    (euNoName_NoName : PySem.W.subIn K (.ref CNoName) (.ref CNoName) = some true)
    (euNoName_NoRow : PySem.W.subIn K (.ref CNoName) (.ref CNoRow) = some false)
    (euNoName_BadText : PySem.W.subIn K (.ref CNoName) (.ref CBadText) = some false)
    (tyNoRow : PySem.W.typeIn K (.ref fNoRowInit) = some (.type "function"))
    (oxNoRow : K.lookup CNoRow = some (PySem.excClassObj nmXNoRow qXNoRow CNoRow NXNoRow bsXNoRow bmXNoRow true snXNoRow subXNoRow abXNoRow colXNoRow ddXNoRow r0XNoRow r1XNoRow r2XNoRow r3XNoRow r5XNoRow "ValueError.__new__"))
    (orNoRow : PySem.HandSPX.refsVE bmXNoRow = true)
    (osNoRow : PySem.W.findIn K (.ref CNoRow) "__setattr__" = some (some (.builtin "object.__setattr__")))
    (obNoRow : PySem.W.subIn K (.ref CNoRow) (.type "BaseException") = some true)
    (otNoRow : PySem.W.typeIn K (.ref CNoRow) = some (.type "type"))
    (okNoRow : PySem.W.keepIn K (.ref CNoRow) = true)
    (xgNoRow : PySem.W.findIn K (.ref CNoRow) "__getattribute__" = some (some (.builtin "BaseException.__getattribute__")))
    (xnNoRow : PySem.W.findIn K (.ref CNoRow) "__getattr__" = some none)
    (xdNoRow : PySem.W.hasDictIn K CNoRow = true)
    (nNoRow_name : PySem.W.findIn K (.ref CNoRow) "name" = some none)
    (euNoRow_BadCount : PySem.W.subIn K (.ref CNoRow) (.ref CBadCount) = some false)
    (euNoRow_NoJar : PySem.W.subIn K (.ref CNoRow) (.ref CNoJar) = some false)
    (euNoRow_SameJar : PySem.W.subIn K (.ref CNoRow) (.ref CSameJar) = some false)
    (euNoRow_Sizes : PySem.W.subIn K (.ref CNoRow) (.ref CSizes) = some false)
    (euNoRow_BadStart : PySem.W.subIn K (.ref CNoRow) (.ref CBadStart) = some false)
    (euNoRow_Wide : PySem.W.subIn K (.ref CNoRow) (.ref CWide) = some false)
    (euNoRow_NoName : PySem.W.subIn K (.ref CNoRow) (.ref CNoName) = some false)
    (euNoRow_NoRow : PySem.W.subIn K (.ref CNoRow) (.ref CNoRow) = some true)
    (euNoRow_BadText : PySem.W.subIn K (.ref CNoRow) (.ref CBadText) = some false)
    (tyBadText : PySem.W.typeIn K (.ref fBadTextInit) = some (.type "function"))
    (oxBadText : K.lookup CBadText = some (PySem.excClassObj nmXBadText qXBadText CBadText NXBadText bsXBadText bmXBadText true snXBadText subXBadText abXBadText colXBadText ddXBadText r0XBadText r1XBadText r2XBadText r3XBadText r5XBadText "ValueError.__new__"))
    (orBadText : PySem.HandSPX.refsVE bmXBadText = true)
    (osBadText : PySem.W.findIn K (.ref CBadText) "__setattr__" = some (some (.builtin "object.__setattr__")))
    (obBadText : PySem.W.subIn K (.ref CBadText) (.type "BaseException") = some true)
    (otBadText : PySem.W.typeIn K (.ref CBadText) = some (.type "type"))
    (okBadText : PySem.W.keepIn K (.ref CBadText) = true)
    (xgBadText : PySem.W.findIn K (.ref CBadText) "__getattribute__" = some (some (.builtin "BaseException.__getattribute__")))
    (xnBadText : PySem.W.findIn K (.ref CBadText) "__getattr__" = some none)
    (xdBadText : PySem.W.hasDictIn K CBadText = true)
    (nBadText_place : PySem.W.findIn K (.ref CBadText) "place" = some none)
    (euBadText_BadCount : PySem.W.subIn K (.ref CBadText) (.ref CBadCount) = some false)
    (euBadText_NoJar : PySem.W.subIn K (.ref CBadText) (.ref CNoJar) = some false)
    (euBadText_SameJar : PySem.W.subIn K (.ref CBadText) (.ref CSameJar) = some false)
    (euBadText_Sizes : PySem.W.subIn K (.ref CBadText) (.ref CSizes) = some false)
    (euBadText_BadStart : PySem.W.subIn K (.ref CBadText) (.ref CBadStart) = some false)
    (euBadText_Wide : PySem.W.subIn K (.ref CBadText) (.ref CWide) = some false)
    (euBadText_NoName : PySem.W.subIn K (.ref CBadText) (.ref CNoName) = some false)
    (euBadText_NoRow : PySem.W.subIn K (.ref CBadText) (.ref CNoRow) = some false)
    (euBadText_BadText : PySem.W.subIn K (.ref CBadText) (.ref CBadText) = some true)
    (obOtherJars : PySem.W.subIn K (.ref COtherJars) (.type "BaseException") = some true)
    (xgOtherJars : PySem.W.findIn K (.ref COtherJars) "__getattribute__" = some (some (.builtin "BaseException.__getattribute__")))
    (xnOtherJars : PySem.W.findIn K (.ref COtherJars) "__getattr__" = some none)
    (xdOtherJars : PySem.W.hasDictIn K COtherJars = true)
    (xqOtherJars : PySem.W.excIn K COtherJars [.type "ValueError", .type "Exception", .type "BaseException", .type "object"] "ValueError.__new__" = true)
    (kxOtherJars : PySem.W.keepIn K (.ref COtherJars) = true)
    (obNoBack : PySem.W.subIn K (.ref CNoBack) (.type "BaseException") = some true)
    (xgNoBack : PySem.W.findIn K (.ref CNoBack) "__getattribute__" = some (some (.builtin "BaseException.__getattribute__")))
    (xnNoBack : PySem.W.findIn K (.ref CNoBack) "__getattr__" = some none)
    (xdNoBack : PySem.W.hasDictIn K CNoBack = true)
    (xqNoBack : PySem.W.excIn K CNoBack [.type "ValueError", .type "Exception", .type "BaseException", .type "object"] "ValueError.__new__" = true)
    (kxNoBack : PySem.W.keepIn K (.ref CNoBack) = true)
    (xDropsError : PySem.W.nsIn K mainGlobals "DropsError" = some (some (.ref CDropsError)))
    (zValueError : PySem.W.nsIn K mainGlobals "ValueError" = some none)
    (yn : PySem.W.specialIn K (.builtin "object.__class__") "__get__" = some (some (.builtin "getset_descriptor.__get__")))
    (yt : PySem.W.takesIn K (.builtin "object.__class__") = some true)
    (jcBadCount : PySem.W.isClsIn K CBadCount = true)
    (jtBadCount : PySem.W.typeIn K (.ref CBadCount) = some (.type "type"))
    (jcNoJar : PySem.W.isClsIn K CNoJar = true)
    (jtNoJar : PySem.W.typeIn K (.ref CNoJar) = some (.type "type"))
    (jcSameJar : PySem.W.isClsIn K CSameJar = true)
    (jtSameJar : PySem.W.typeIn K (.ref CSameJar) = some (.type "type"))
    (jcSizes : PySem.W.isClsIn K CSizes = true)
    (jtSizes : PySem.W.typeIn K (.ref CSizes) = some (.type "type"))
    (jcBadStart : PySem.W.isClsIn K CBadStart = true)
    (jtBadStart : PySem.W.typeIn K (.ref CBadStart) = some (.type "type"))
    (jcWide : PySem.W.isClsIn K CWide = true)
    (jtWide : PySem.W.typeIn K (.ref CWide) = some (.type "type"))
    (jcNoName : PySem.W.isClsIn K CNoName = true)
    (jtNoName : PySem.W.typeIn K (.ref CNoName) = some (.type "type"))
    (jcNoRow : PySem.W.isClsIn K CNoRow = true)
    (jtNoRow : PySem.W.typeIn K (.ref CNoRow) = some (.type "type"))
    (jcBadText : PySem.W.isClsIn K CBadText = true)
    (jtBadText : PySem.W.typeIn K (.ref CBadText) = some (.type "type"))
    (jcOtherJars : PySem.W.isClsIn K COtherJars = true)
    (jtOtherJars : PySem.W.typeIn K (.ref COtherJars) = some (.type "type"))
    (jcNoBack : PySem.W.isClsIn K CNoBack = true)
    (jtNoBack : PySem.W.typeIn K (.ref CNoBack) = some (.type "type"))
    (jcDropsError : PySem.W.isClsIn K CDropsError = true)
    (jtDropsError : PySem.W.typeIn K (.ref CDropsError) = some (.type "type"))
    (yaBadCount : PySem.W.findIn K (.ref CBadCount) "__class__" = some (some (.builtin "object.__class__")))
    (ymBadCount : PySem.W.mroIn K CBadCount (.type "object") = some true)
    (enBadCount_NoJar : (Value.ref CBadCount == Value.ref CNoJar) = false)
    (enBadCount_SameJar : (Value.ref CBadCount == Value.ref CSameJar) = false)
    (enBadCount_Sizes : (Value.ref CBadCount == Value.ref CSizes) = false)
    (enBadCount_BadStart : (Value.ref CBadCount == Value.ref CBadStart) = false)
    (enBadCount_Wide : (Value.ref CBadCount == Value.ref CWide) = false)
    (enBadCount_NoName : (Value.ref CBadCount == Value.ref CNoName) = false)
    (enBadCount_NoRow : (Value.ref CBadCount == Value.ref CNoRow) = false)
    (enBadCount_BadText : (Value.ref CBadCount == Value.ref CBadText) = false)
    (euBadCount_OtherJars : PySem.W.subIn K (.ref CBadCount) (.ref COtherJars) = some false)
    (enBadCount_OtherJars : (Value.ref CBadCount == Value.ref COtherJars) = false)
    (euBadCount_NoBack : PySem.W.subIn K (.ref CBadCount) (.ref CNoBack) = some false)
    (enBadCount_NoBack : (Value.ref CBadCount == Value.ref CNoBack) = false)
    (euBadCount_DropsError : PySem.W.subIn K (.ref CBadCount) (.ref CDropsError) = some true)
    (enBadCount_DropsError : (Value.ref CBadCount == Value.ref CDropsError) = false)
    (evBadCount : PySem.W.subIn K (.ref CBadCount) (.type "ValueError") = some true)
    (yaNoJar : PySem.W.findIn K (.ref CNoJar) "__class__" = some (some (.builtin "object.__class__")))
    (ymNoJar : PySem.W.mroIn K CNoJar (.type "object") = some true)
    (enNoJar_BadCount : (Value.ref CNoJar == Value.ref CBadCount) = false)
    (enNoJar_SameJar : (Value.ref CNoJar == Value.ref CSameJar) = false)
    (enNoJar_Sizes : (Value.ref CNoJar == Value.ref CSizes) = false)
    (enNoJar_BadStart : (Value.ref CNoJar == Value.ref CBadStart) = false)
    (enNoJar_Wide : (Value.ref CNoJar == Value.ref CWide) = false)
    (enNoJar_NoName : (Value.ref CNoJar == Value.ref CNoName) = false)
    (enNoJar_NoRow : (Value.ref CNoJar == Value.ref CNoRow) = false)
    (enNoJar_BadText : (Value.ref CNoJar == Value.ref CBadText) = false)
    (euNoJar_OtherJars : PySem.W.subIn K (.ref CNoJar) (.ref COtherJars) = some false)
    (enNoJar_OtherJars : (Value.ref CNoJar == Value.ref COtherJars) = false)
    (euNoJar_NoBack : PySem.W.subIn K (.ref CNoJar) (.ref CNoBack) = some false)
    (enNoJar_NoBack : (Value.ref CNoJar == Value.ref CNoBack) = false)
    (euNoJar_DropsError : PySem.W.subIn K (.ref CNoJar) (.ref CDropsError) = some true)
    (enNoJar_DropsError : (Value.ref CNoJar == Value.ref CDropsError) = false)
    (evNoJar : PySem.W.subIn K (.ref CNoJar) (.type "ValueError") = some true)
    (yaSameJar : PySem.W.findIn K (.ref CSameJar) "__class__" = some (some (.builtin "object.__class__")))
    (ymSameJar : PySem.W.mroIn K CSameJar (.type "object") = some true)
    (enSameJar_BadCount : (Value.ref CSameJar == Value.ref CBadCount) = false)
    (enSameJar_NoJar : (Value.ref CSameJar == Value.ref CNoJar) = false)
    (enSameJar_Sizes : (Value.ref CSameJar == Value.ref CSizes) = false)
    (enSameJar_BadStart : (Value.ref CSameJar == Value.ref CBadStart) = false)
    (enSameJar_Wide : (Value.ref CSameJar == Value.ref CWide) = false)
    (enSameJar_NoName : (Value.ref CSameJar == Value.ref CNoName) = false)
    (enSameJar_NoRow : (Value.ref CSameJar == Value.ref CNoRow) = false)
    (enSameJar_BadText : (Value.ref CSameJar == Value.ref CBadText) = false)
    (euSameJar_OtherJars : PySem.W.subIn K (.ref CSameJar) (.ref COtherJars) = some false)
    (enSameJar_OtherJars : (Value.ref CSameJar == Value.ref COtherJars) = false)
    (euSameJar_NoBack : PySem.W.subIn K (.ref CSameJar) (.ref CNoBack) = some false)
    (enSameJar_NoBack : (Value.ref CSameJar == Value.ref CNoBack) = false)
    (euSameJar_DropsError : PySem.W.subIn K (.ref CSameJar) (.ref CDropsError) = some true)
    (enSameJar_DropsError : (Value.ref CSameJar == Value.ref CDropsError) = false)
    (evSameJar : PySem.W.subIn K (.ref CSameJar) (.type "ValueError") = some true)
    (yaSizes : PySem.W.findIn K (.ref CSizes) "__class__" = some (some (.builtin "object.__class__")))
    (ymSizes : PySem.W.mroIn K CSizes (.type "object") = some true)
    (enSizes_BadCount : (Value.ref CSizes == Value.ref CBadCount) = false)
    (enSizes_NoJar : (Value.ref CSizes == Value.ref CNoJar) = false)
    (enSizes_SameJar : (Value.ref CSizes == Value.ref CSameJar) = false)
    (enSizes_BadStart : (Value.ref CSizes == Value.ref CBadStart) = false)
    (enSizes_Wide : (Value.ref CSizes == Value.ref CWide) = false)
    (enSizes_NoName : (Value.ref CSizes == Value.ref CNoName) = false)
    (enSizes_NoRow : (Value.ref CSizes == Value.ref CNoRow) = false)
    (enSizes_BadText : (Value.ref CSizes == Value.ref CBadText) = false)
    (euSizes_OtherJars : PySem.W.subIn K (.ref CSizes) (.ref COtherJars) = some false)
    (enSizes_OtherJars : (Value.ref CSizes == Value.ref COtherJars) = false)
    (euSizes_NoBack : PySem.W.subIn K (.ref CSizes) (.ref CNoBack) = some false)
    (enSizes_NoBack : (Value.ref CSizes == Value.ref CNoBack) = false)
    (euSizes_DropsError : PySem.W.subIn K (.ref CSizes) (.ref CDropsError) = some true)
    (enSizes_DropsError : (Value.ref CSizes == Value.ref CDropsError) = false)
    (evSizes : PySem.W.subIn K (.ref CSizes) (.type "ValueError") = some true)
    (yaBadStart : PySem.W.findIn K (.ref CBadStart) "__class__" = some (some (.builtin "object.__class__")))
    (ymBadStart : PySem.W.mroIn K CBadStart (.type "object") = some true)
    (enBadStart_BadCount : (Value.ref CBadStart == Value.ref CBadCount) = false)
    (enBadStart_NoJar : (Value.ref CBadStart == Value.ref CNoJar) = false)
    (enBadStart_SameJar : (Value.ref CBadStart == Value.ref CSameJar) = false)
    (enBadStart_Sizes : (Value.ref CBadStart == Value.ref CSizes) = false)
    (enBadStart_Wide : (Value.ref CBadStart == Value.ref CWide) = false)
    (enBadStart_NoName : (Value.ref CBadStart == Value.ref CNoName) = false)
    (enBadStart_NoRow : (Value.ref CBadStart == Value.ref CNoRow) = false)
    (enBadStart_BadText : (Value.ref CBadStart == Value.ref CBadText) = false)
    (euBadStart_OtherJars : PySem.W.subIn K (.ref CBadStart) (.ref COtherJars) = some false)
    (enBadStart_OtherJars : (Value.ref CBadStart == Value.ref COtherJars) = false)
    (euBadStart_NoBack : PySem.W.subIn K (.ref CBadStart) (.ref CNoBack) = some false)
    (enBadStart_NoBack : (Value.ref CBadStart == Value.ref CNoBack) = false)
    (euBadStart_DropsError : PySem.W.subIn K (.ref CBadStart) (.ref CDropsError) = some true)
    (enBadStart_DropsError : (Value.ref CBadStart == Value.ref CDropsError) = false)
    (evBadStart : PySem.W.subIn K (.ref CBadStart) (.type "ValueError") = some true)
    (yaWide : PySem.W.findIn K (.ref CWide) "__class__" = some (some (.builtin "object.__class__")))
    (ymWide : PySem.W.mroIn K CWide (.type "object") = some true)
    (enWide_BadCount : (Value.ref CWide == Value.ref CBadCount) = false)
    (enWide_NoJar : (Value.ref CWide == Value.ref CNoJar) = false)
    (enWide_SameJar : (Value.ref CWide == Value.ref CSameJar) = false)
    (enWide_Sizes : (Value.ref CWide == Value.ref CSizes) = false)
    (enWide_BadStart : (Value.ref CWide == Value.ref CBadStart) = false)
    (enWide_NoName : (Value.ref CWide == Value.ref CNoName) = false)
    (enWide_NoRow : (Value.ref CWide == Value.ref CNoRow) = false)
    (enWide_BadText : (Value.ref CWide == Value.ref CBadText) = false)
    (euWide_OtherJars : PySem.W.subIn K (.ref CWide) (.ref COtherJars) = some false)
    (enWide_OtherJars : (Value.ref CWide == Value.ref COtherJars) = false)
    (euWide_NoBack : PySem.W.subIn K (.ref CWide) (.ref CNoBack) = some false)
    (enWide_NoBack : (Value.ref CWide == Value.ref CNoBack) = false)
    (euWide_DropsError : PySem.W.subIn K (.ref CWide) (.ref CDropsError) = some true)
    (enWide_DropsError : (Value.ref CWide == Value.ref CDropsError) = false)
    (evWide : PySem.W.subIn K (.ref CWide) (.type "ValueError") = some true)
    (yaNoName : PySem.W.findIn K (.ref CNoName) "__class__" = some (some (.builtin "object.__class__")))
    (ymNoName : PySem.W.mroIn K CNoName (.type "object") = some true)
    (enNoName_BadCount : (Value.ref CNoName == Value.ref CBadCount) = false)
    (enNoName_NoJar : (Value.ref CNoName == Value.ref CNoJar) = false)
    (enNoName_SameJar : (Value.ref CNoName == Value.ref CSameJar) = false)
    (enNoName_Sizes : (Value.ref CNoName == Value.ref CSizes) = false)
    (enNoName_BadStart : (Value.ref CNoName == Value.ref CBadStart) = false)
    (enNoName_Wide : (Value.ref CNoName == Value.ref CWide) = false)
    (enNoName_NoRow : (Value.ref CNoName == Value.ref CNoRow) = false)
    (enNoName_BadText : (Value.ref CNoName == Value.ref CBadText) = false)
    (euNoName_OtherJars : PySem.W.subIn K (.ref CNoName) (.ref COtherJars) = some false)
    (enNoName_OtherJars : (Value.ref CNoName == Value.ref COtherJars) = false)
    (euNoName_NoBack : PySem.W.subIn K (.ref CNoName) (.ref CNoBack) = some false)
    (enNoName_NoBack : (Value.ref CNoName == Value.ref CNoBack) = false)
    (euNoName_DropsError : PySem.W.subIn K (.ref CNoName) (.ref CDropsError) = some true)
    (enNoName_DropsError : (Value.ref CNoName == Value.ref CDropsError) = false)
    (evNoName : PySem.W.subIn K (.ref CNoName) (.type "ValueError") = some true)
    (yaNoRow : PySem.W.findIn K (.ref CNoRow) "__class__" = some (some (.builtin "object.__class__")))
    (ymNoRow : PySem.W.mroIn K CNoRow (.type "object") = some true)
    (enNoRow_BadCount : (Value.ref CNoRow == Value.ref CBadCount) = false)
    (enNoRow_NoJar : (Value.ref CNoRow == Value.ref CNoJar) = false)
    (enNoRow_SameJar : (Value.ref CNoRow == Value.ref CSameJar) = false)
    (enNoRow_Sizes : (Value.ref CNoRow == Value.ref CSizes) = false)
    (enNoRow_BadStart : (Value.ref CNoRow == Value.ref CBadStart) = false)
    (enNoRow_Wide : (Value.ref CNoRow == Value.ref CWide) = false)
    (enNoRow_NoName : (Value.ref CNoRow == Value.ref CNoName) = false)
    (enNoRow_BadText : (Value.ref CNoRow == Value.ref CBadText) = false)
    (euNoRow_OtherJars : PySem.W.subIn K (.ref CNoRow) (.ref COtherJars) = some false)
    (enNoRow_OtherJars : (Value.ref CNoRow == Value.ref COtherJars) = false)
    (euNoRow_NoBack : PySem.W.subIn K (.ref CNoRow) (.ref CNoBack) = some false)
    (enNoRow_NoBack : (Value.ref CNoRow == Value.ref CNoBack) = false)
    (euNoRow_DropsError : PySem.W.subIn K (.ref CNoRow) (.ref CDropsError) = some true)
    (enNoRow_DropsError : (Value.ref CNoRow == Value.ref CDropsError) = false)
    (evNoRow : PySem.W.subIn K (.ref CNoRow) (.type "ValueError") = some true)
    (yaBadText : PySem.W.findIn K (.ref CBadText) "__class__" = some (some (.builtin "object.__class__")))
    (ymBadText : PySem.W.mroIn K CBadText (.type "object") = some true)
    (enBadText_BadCount : (Value.ref CBadText == Value.ref CBadCount) = false)
    (enBadText_NoJar : (Value.ref CBadText == Value.ref CNoJar) = false)
    (enBadText_SameJar : (Value.ref CBadText == Value.ref CSameJar) = false)
    (enBadText_Sizes : (Value.ref CBadText == Value.ref CSizes) = false)
    (enBadText_BadStart : (Value.ref CBadText == Value.ref CBadStart) = false)
    (enBadText_Wide : (Value.ref CBadText == Value.ref CWide) = false)
    (enBadText_NoName : (Value.ref CBadText == Value.ref CNoName) = false)
    (enBadText_NoRow : (Value.ref CBadText == Value.ref CNoRow) = false)
    (euBadText_OtherJars : PySem.W.subIn K (.ref CBadText) (.ref COtherJars) = some false)
    (enBadText_OtherJars : (Value.ref CBadText == Value.ref COtherJars) = false)
    (euBadText_NoBack : PySem.W.subIn K (.ref CBadText) (.ref CNoBack) = some false)
    (enBadText_NoBack : (Value.ref CBadText == Value.ref CNoBack) = false)
    (euBadText_DropsError : PySem.W.subIn K (.ref CBadText) (.ref CDropsError) = some true)
    (enBadText_DropsError : (Value.ref CBadText == Value.ref CDropsError) = false)
    (evBadText : PySem.W.subIn K (.ref CBadText) (.type "ValueError") = some true)
    (yaOtherJars : PySem.W.findIn K (.ref COtherJars) "__class__" = some (some (.builtin "object.__class__")))
    (ymOtherJars : PySem.W.mroIn K COtherJars (.type "object") = some true)
    (euOtherJars_BadCount : PySem.W.subIn K (.ref COtherJars) (.ref CBadCount) = some false)
    (enOtherJars_BadCount : (Value.ref COtherJars == Value.ref CBadCount) = false)
    (euOtherJars_NoJar : PySem.W.subIn K (.ref COtherJars) (.ref CNoJar) = some false)
    (enOtherJars_NoJar : (Value.ref COtherJars == Value.ref CNoJar) = false)
    (euOtherJars_SameJar : PySem.W.subIn K (.ref COtherJars) (.ref CSameJar) = some false)
    (enOtherJars_SameJar : (Value.ref COtherJars == Value.ref CSameJar) = false)
    (euOtherJars_Sizes : PySem.W.subIn K (.ref COtherJars) (.ref CSizes) = some false)
    (enOtherJars_Sizes : (Value.ref COtherJars == Value.ref CSizes) = false)
    (euOtherJars_BadStart : PySem.W.subIn K (.ref COtherJars) (.ref CBadStart) = some false)
    (enOtherJars_BadStart : (Value.ref COtherJars == Value.ref CBadStart) = false)
    (euOtherJars_Wide : PySem.W.subIn K (.ref COtherJars) (.ref CWide) = some false)
    (enOtherJars_Wide : (Value.ref COtherJars == Value.ref CWide) = false)
    (euOtherJars_NoName : PySem.W.subIn K (.ref COtherJars) (.ref CNoName) = some false)
    (enOtherJars_NoName : (Value.ref COtherJars == Value.ref CNoName) = false)
    (euOtherJars_NoRow : PySem.W.subIn K (.ref COtherJars) (.ref CNoRow) = some false)
    (enOtherJars_NoRow : (Value.ref COtherJars == Value.ref CNoRow) = false)
    (euOtherJars_BadText : PySem.W.subIn K (.ref COtherJars) (.ref CBadText) = some false)
    (enOtherJars_BadText : (Value.ref COtherJars == Value.ref CBadText) = false)
    (euOtherJars_NoBack : PySem.W.subIn K (.ref COtherJars) (.ref CNoBack) = some false)
    (enOtherJars_NoBack : (Value.ref COtherJars == Value.ref CNoBack) = false)
    (euOtherJars_DropsError : PySem.W.subIn K (.ref COtherJars) (.ref CDropsError) = some true)
    (enOtherJars_DropsError : (Value.ref COtherJars == Value.ref CDropsError) = false)
    (evOtherJars : PySem.W.subIn K (.ref COtherJars) (.type "ValueError") = some true)
    (yaNoBack : PySem.W.findIn K (.ref CNoBack) "__class__" = some (some (.builtin "object.__class__")))
    (ymNoBack : PySem.W.mroIn K CNoBack (.type "object") = some true)
    (euNoBack_BadCount : PySem.W.subIn K (.ref CNoBack) (.ref CBadCount) = some false)
    (enNoBack_BadCount : (Value.ref CNoBack == Value.ref CBadCount) = false)
    (euNoBack_NoJar : PySem.W.subIn K (.ref CNoBack) (.ref CNoJar) = some false)
    (enNoBack_NoJar : (Value.ref CNoBack == Value.ref CNoJar) = false)
    (euNoBack_SameJar : PySem.W.subIn K (.ref CNoBack) (.ref CSameJar) = some false)
    (enNoBack_SameJar : (Value.ref CNoBack == Value.ref CSameJar) = false)
    (euNoBack_Sizes : PySem.W.subIn K (.ref CNoBack) (.ref CSizes) = some false)
    (enNoBack_Sizes : (Value.ref CNoBack == Value.ref CSizes) = false)
    (euNoBack_BadStart : PySem.W.subIn K (.ref CNoBack) (.ref CBadStart) = some false)
    (enNoBack_BadStart : (Value.ref CNoBack == Value.ref CBadStart) = false)
    (euNoBack_Wide : PySem.W.subIn K (.ref CNoBack) (.ref CWide) = some false)
    (enNoBack_Wide : (Value.ref CNoBack == Value.ref CWide) = false)
    (euNoBack_NoName : PySem.W.subIn K (.ref CNoBack) (.ref CNoName) = some false)
    (enNoBack_NoName : (Value.ref CNoBack == Value.ref CNoName) = false)
    (euNoBack_NoRow : PySem.W.subIn K (.ref CNoBack) (.ref CNoRow) = some false)
    (enNoBack_NoRow : (Value.ref CNoBack == Value.ref CNoRow) = false)
    (euNoBack_BadText : PySem.W.subIn K (.ref CNoBack) (.ref CBadText) = some false)
    (enNoBack_BadText : (Value.ref CNoBack == Value.ref CBadText) = false)
    (euNoBack_OtherJars : PySem.W.subIn K (.ref CNoBack) (.ref COtherJars) = some false)
    (enNoBack_OtherJars : (Value.ref CNoBack == Value.ref COtherJars) = false)
    (euNoBack_DropsError : PySem.W.subIn K (.ref CNoBack) (.ref CDropsError) = some true)
    (enNoBack_DropsError : (Value.ref CNoBack == Value.ref CDropsError) = false)
    (evNoBack : PySem.W.subIn K (.ref CNoBack) (.type "ValueError") = some true)
    (zabs : PySem.W.nsIn K mainGlobals "abs" = some none)
    (zenumerate : PySem.W.nsIn K mainGlobals "enumerate" = some none)
    (zisinstance : PySem.W.nsIn K mainGlobals "isinstance" = some none)
    (zrange : PySem.W.nsIn K mainGlobals "range" = some none) :
    ∃ fd : FuncData, (∀ (s : Shared) (v : Value), BindsTo s fd ⟨[v], []⟩ [("_law_script", v)]) ∧ ∀ base : Heap, K.In base → base.Ns mainGlobals mg → FnOk l.prog w K mg base CX0 4 fa fd ["_law_script"] (spLaw K) := by
  have e := hfa.symm.trans (PySem.W.mg_of X G alaw)
  cases e
  exact ⟨PySem.W.fnOf "law" "law" (defArgs slaw) (defBody slaw) (defScope slaw) .none kVlaw dclaw pmlaw anlaw cdlaw ctlaw, fun s v => .of_eq rfl, fun base _ _ => oklaw {
    cBadCount := CBadCount
    mBadCount := PySem.W.mg_of X G xBadCount
    cNoJar := CNoJar
    mNoJar := PySem.W.mg_of X G xNoJar
    cSameJar := CSameJar
    mSameJar := PySem.W.mg_of X G xSameJar
    cSizes := CSizes
    mSizes := PySem.W.mg_of X G xSizes
    cBadStart := CBadStart
    mBadStart := PySem.W.mg_of X G xBadStart
    cWide := CWide
    mWide := PySem.W.mg_of X G xWide
    cNoName := CNoName
    mNoName := PySem.W.mg_of X G xNoName
    cNoRow := CNoRow
    mNoRow := PySem.W.mg_of X G xNoRow
    cBadText := CBadText
    mBadText := PySem.W.mg_of X G xBadText
    cOtherJars := COtherJars
    mOtherJars := PySem.W.mg_of X G xOtherJars
    cNoBack := CNoBack
    mNoBack := PySem.W.mg_of X G xNoBack
    aBadCountInit := fBadCountInit
    dBadCountInit := PySem.W.fnOf "__init__" "BadCount.__init__" (defArgs sBadCountInit) (defBody sBadCountInit) (defScope sBadCountInit) .none kVBadCountInit dcBadCountInit pmBadCountInit anBadCountInit cdBadCountInit ctBadCountInit
    fBadCountInit := fun_mk (st := sBadCountInit) lBadCountInit qBadCountInit kBadCountInit
    bBadCountInit := (fun_mk (st := sBadCountInit) lBadCountInit qBadCountInit kBadCountInit).binds (ps := ["self", "what", "count"]) fun _ _ _ _ _ _ us hl => match us, hl with | [_, _, _], _ => rfl
    aNoJarInit := fNoJarInit
    dNoJarInit := PySem.W.fnOf "__init__" "NoJar.__init__" (defArgs sNoJarInit) (defBody sNoJarInit) (defScope sNoJarInit) .none kVNoJarInit dcNoJarInit pmNoJarInit anNoJarInit cdNoJarInit ctNoJarInit
    fNoJarInit := fun_mk (st := sNoJarInit) lNoJarInit qNoJarInit kNoJarInit
    bNoJarInit := (fun_mk (st := sNoJarInit) lNoJarInit qNoJarInit kNoJarInit).binds (ps := ["self", "jar"]) fun _ _ _ _ _ _ us hl => match us, hl with | [_, _], _ => rfl
    aSameJarInit := fSameJarInit
    dSameJarInit := PySem.W.fnOf "__init__" "SameJar.__init__" (defArgs sSameJarInit) (defBody sSameJarInit) (defScope sSameJarInit) .none kVSameJarInit dcSameJarInit pmSameJarInit anSameJarInit cdSameJarInit ctSameJarInit
    fSameJarInit := fun_mk (st := sSameJarInit) lSameJarInit qSameJarInit kSameJarInit
    bSameJarInit := (fun_mk (st := sSameJarInit) lSameJarInit qSameJarInit kSameJarInit).binds (ps := ["self", "jar"]) fun _ _ _ _ _ _ us hl => match us, hl with | [_, _], _ => rfl
    aSizesInit := fSizesInit
    dSizesInit := PySem.W.fnOf "__init__" "Sizes.__init__" (defArgs sSizesInit) (defBody sSizesInit) (defScope sSizesInit) .none kVSizesInit dcSizesInit pmSizesInit anSizesInit cdSizesInit ctSizesInit
    fSizesInit := fun_mk (st := sSizesInit) lSizesInit qSizesInit kSizesInit
    bSizesInit := (fun_mk (st := sSizesInit) lSizesInit qSizesInit kSizesInit).binds (ps := ["self", "a", "b"]) fun _ _ _ _ _ _ us hl => match us, hl with | [_, _, _], _ => rfl
    aBadStartInit := fBadStartInit
    dBadStartInit := PySem.W.fnOf "__init__" "BadStart.__init__" (defArgs sBadStartInit) (defBody sBadStartInit) (defScope sBadStartInit) .none kVBadStartInit dcBadStartInit pmBadStartInit anBadStartInit cdBadStartInit ctBadStartInit
    fBadStartInit := fun_mk (st := sBadStartInit) lBadStartInit qBadStartInit kBadStartInit
    bBadStartInit := (fun_mk (st := sBadStartInit) lBadStartInit qBadStartInit kBadStartInit).binds (ps := ["self", "jar"]) fun _ _ _ _ _ _ us hl => match us, hl with | [_, _], _ => rfl
    aWideInit := fWideInit
    dWideInit := PySem.W.fnOf "__init__" "Wide.__init__" (defArgs sWideInit) (defBody sWideInit) (defScope sWideInit) .none kVWideInit dcWideInit pmWideInit anWideInit cdWideInit ctWideInit
    fWideInit := fun_mk (st := sWideInit) lWideInit qWideInit kWideInit
    bWideInit := (fun_mk (st := sWideInit) lWideInit qWideInit kWideInit).binds (ps := ["self", "count"]) fun _ _ _ _ _ _ us hl => match us, hl with | [_, _], _ => rfl
    aNoNameInit := fNoNameInit
    dNoNameInit := PySem.W.fnOf "__init__" "NoName.__init__" (defArgs sNoNameInit) (defBody sNoNameInit) (defScope sNoNameInit) .none kVNoNameInit dcNoNameInit pmNoNameInit anNoNameInit cdNoNameInit ctNoNameInit
    fNoNameInit := fun_mk (st := sNoNameInit) lNoNameInit qNoNameInit kNoNameInit
    bNoNameInit := (fun_mk (st := sNoNameInit) lNoNameInit qNoNameInit kNoNameInit).binds (ps := ["self", "name"]) fun _ _ _ _ _ _ us hl => match us, hl with | [_, _], _ => rfl
    aNoRowInit := fNoRowInit
    dNoRowInit := PySem.W.fnOf "__init__" "NoRow.__init__" (defArgs sNoRowInit) (defBody sNoRowInit) (defScope sNoRowInit) .none kVNoRowInit dcNoRowInit pmNoRowInit anNoRowInit cdNoRowInit ctNoRowInit
    fNoRowInit := fun_mk (st := sNoRowInit) lNoRowInit qNoRowInit kNoRowInit
    bNoRowInit := (fun_mk (st := sNoRowInit) lNoRowInit qNoRowInit kNoRowInit).binds (ps := ["self", "name"]) fun _ _ _ _ _ _ us hl => match us, hl with | [_, _], _ => rfl
    aBadTextInit := fBadTextInit
    dBadTextInit := PySem.W.fnOf "__init__" "BadText.__init__" (defArgs sBadTextInit) (defBody sBadTextInit) (defScope sBadTextInit) .none kVBadTextInit dcBadTextInit pmBadTextInit anBadTextInit cdBadTextInit ctBadTextInit
    fBadTextInit := fun_mk (st := sBadTextInit) lBadTextInit qBadTextInit kBadTextInit
    bBadTextInit := (fun_mk (st := sBadTextInit) lBadTextInit qBadTextInit kBadTextInit).binds (ps := ["self", "place"]) fun _ _ _ _ _ _ us hl => match us, hl with | [_, _], _ => rfl
    eBadCountTold := aBadCountTold
    eiBadCountTold := iBadCountTold
    aBadCountTold := fBadCountTold
    dBadCountTold := PySem.W.fnOf "told" "BadCount.told" (defArgs sBadCountTold) (defBody sBadCountTold) (defScope sBadCountTold) .none kVBadCountTold dcBadCountTold pmBadCountTold anBadCountTold cdBadCountTold ctBadCountTold
    fBadCountTold := fun_mk (st := sBadCountTold) lBadCountTold qBadCountTold kBadCountTold
    bBadCountTold := (fun_mk (st := sBadCountTold) lBadCountTold qBadCountTold kBadCountTold).binds (ps := ["self"]) fun _ _ _ _ _ _ us hl => match us, hl with | [_], _ => rfl
    eNoJarTold := aNoJarTold
    eiNoJarTold := iNoJarTold
    aNoJarTold := fNoJarTold
    dNoJarTold := PySem.W.fnOf "told" "NoJar.told" (defArgs sNoJarTold) (defBody sNoJarTold) (defScope sNoJarTold) .none kVNoJarTold dcNoJarTold pmNoJarTold anNoJarTold cdNoJarTold ctNoJarTold
    fNoJarTold := fun_mk (st := sNoJarTold) lNoJarTold qNoJarTold kNoJarTold
    bNoJarTold := (fun_mk (st := sNoJarTold) lNoJarTold qNoJarTold kNoJarTold).binds (ps := ["self"]) fun _ _ _ _ _ _ us hl => match us, hl with | [_], _ => rfl
    eSameJarTold := aSameJarTold
    eiSameJarTold := iSameJarTold
    aSameJarTold := fSameJarTold
    dSameJarTold := PySem.W.fnOf "told" "SameJar.told" (defArgs sSameJarTold) (defBody sSameJarTold) (defScope sSameJarTold) .none kVSameJarTold dcSameJarTold pmSameJarTold anSameJarTold cdSameJarTold ctSameJarTold
    fSameJarTold := fun_mk (st := sSameJarTold) lSameJarTold qSameJarTold kSameJarTold
    bSameJarTold := (fun_mk (st := sSameJarTold) lSameJarTold qSameJarTold kSameJarTold).binds (ps := ["self"]) fun _ _ _ _ _ _ us hl => match us, hl with | [_], _ => rfl
    eSizesTold := aSizesTold
    eiSizesTold := iSizesTold
    aSizesTold := fSizesTold
    dSizesTold := PySem.W.fnOf "told" "Sizes.told" (defArgs sSizesTold) (defBody sSizesTold) (defScope sSizesTold) .none kVSizesTold dcSizesTold pmSizesTold anSizesTold cdSizesTold ctSizesTold
    fSizesTold := fun_mk (st := sSizesTold) lSizesTold qSizesTold kSizesTold
    bSizesTold := (fun_mk (st := sSizesTold) lSizesTold qSizesTold kSizesTold).binds (ps := ["self"]) fun _ _ _ _ _ _ us hl => match us, hl with | [_], _ => rfl
    eBadStartTold := aBadStartTold
    eiBadStartTold := iBadStartTold
    aBadStartTold := fBadStartTold
    dBadStartTold := PySem.W.fnOf "told" "BadStart.told" (defArgs sBadStartTold) (defBody sBadStartTold) (defScope sBadStartTold) .none kVBadStartTold dcBadStartTold pmBadStartTold anBadStartTold cdBadStartTold ctBadStartTold
    fBadStartTold := fun_mk (st := sBadStartTold) lBadStartTold qBadStartTold kBadStartTold
    bBadStartTold := (fun_mk (st := sBadStartTold) lBadStartTold qBadStartTold kBadStartTold).binds (ps := ["self"]) fun _ _ _ _ _ _ us hl => match us, hl with | [_], _ => rfl
    eOtherJarsTold := aOtherJarsTold
    eiOtherJarsTold := iOtherJarsTold
    aOtherJarsTold := fOtherJarsTold
    dOtherJarsTold := PySem.W.fnOf "told" "OtherJars.told" (defArgs sOtherJarsTold) (defBody sOtherJarsTold) (defScope sOtherJarsTold) .none kVOtherJarsTold dcOtherJarsTold pmOtherJarsTold anOtherJarsTold cdOtherJarsTold ctOtherJarsTold
    fOtherJarsTold := fun_mk (st := sOtherJarsTold) lOtherJarsTold qOtherJarsTold kOtherJarsTold
    bOtherJarsTold := (fun_mk (st := sOtherJarsTold) lOtherJarsTold qOtherJarsTold kOtherJarsTold).binds (ps := ["self"]) fun _ _ _ _ _ _ us hl => match us, hl with | [_], _ => rfl
    eWideTold := aWideTold
    eiWideTold := iWideTold
    aWideTold := fWideTold
    dWideTold := PySem.W.fnOf "told" "Wide.told" (defArgs sWideTold) (defBody sWideTold) (defScope sWideTold) .none kVWideTold dcWideTold pmWideTold anWideTold cdWideTold ctWideTold
    fWideTold := fun_mk (st := sWideTold) lWideTold qWideTold kWideTold
    bWideTold := (fun_mk (st := sWideTold) lWideTold qWideTold kWideTold).binds (ps := ["self"]) fun _ _ _ _ _ _ us hl => match us, hl with | [_], _ => rfl
    eNoNameTold := aNoNameTold
    eiNoNameTold := iNoNameTold
    aNoNameTold := fNoNameTold
    dNoNameTold := PySem.W.fnOf "told" "NoName.told" (defArgs sNoNameTold) (defBody sNoNameTold) (defScope sNoNameTold) .none kVNoNameTold dcNoNameTold pmNoNameTold anNoNameTold cdNoNameTold ctNoNameTold
    fNoNameTold := fun_mk (st := sNoNameTold) lNoNameTold qNoNameTold kNoNameTold
    bNoNameTold := (fun_mk (st := sNoNameTold) lNoNameTold qNoNameTold kNoNameTold).binds (ps := ["self"]) fun _ _ _ _ _ _ us hl => match us, hl with | [_], _ => rfl
    eNoRowTold := aNoRowTold
    eiNoRowTold := iNoRowTold
    aNoRowTold := fNoRowTold
    dNoRowTold := PySem.W.fnOf "told" "NoRow.told" (defArgs sNoRowTold) (defBody sNoRowTold) (defScope sNoRowTold) .none kVNoRowTold dcNoRowTold pmNoRowTold anNoRowTold cdNoRowTold ctNoRowTold
    fNoRowTold := fun_mk (st := sNoRowTold) lNoRowTold qNoRowTold kNoRowTold
    bNoRowTold := (fun_mk (st := sNoRowTold) lNoRowTold qNoRowTold kNoRowTold).binds (ps := ["self"]) fun _ _ _ _ _ _ us hl => match us, hl with | [_], _ => rfl
    eNoBackTold := aNoBackTold
    eiNoBackTold := iNoBackTold
    aNoBackTold := fNoBackTold
    dNoBackTold := PySem.W.fnOf "told" "NoBack.told" (defArgs sNoBackTold) (defBody sNoBackTold) (defScope sNoBackTold) .none kVNoBackTold dcNoBackTold pmNoBackTold anNoBackTold cdNoBackTold ctNoBackTold
    fNoBackTold := fun_mk (st := sNoBackTold) lNoBackTold qNoBackTold kNoBackTold
    bNoBackTold := (fun_mk (st := sNoBackTold) lNoBackTold qNoBackTold kNoBackTold).binds (ps := ["self"]) fun _ _ _ _ _ _ us hl => match us, hl with | [_], _ => rfl
    eBadTextTold := aBadTextTold
    eiBadTextTold := iBadTextTold
    aBadTextTold := fBadTextTold
    dBadTextTold := PySem.W.fnOf "told" "BadText.told" (defArgs sBadTextTold) (defBody sBadTextTold) (defScope sBadTextTold) .none kVBadTextTold dcBadTextTold pmBadTextTold anBadTextTold cdBadTextTold ctBadTextTold
    fBadTextTold := fun_mk (st := sBadTextTold) lBadTextTold qBadTextTold kBadTextTold
    bBadTextTold := (fun_mk (st := sBadTextTold) lBadTextTold qBadTextTold kBadTextTold).binds (ps := ["self"]) fun _ _ _ _ _ _ us hl => match us, hl with | [_], _ => rfl
    gLwell := PySem.W.mg_of X G aLwell
    aLwell := fLwell
    dLwell := PySem.W.fnOf "_law_well" "_law_well" (defArgs sLwell) (defBody sLwell) (defScope sLwell) .none kVLwell dcLwell pmLwell anLwell cdLwell ctLwell
    fLwell := fun_mk (st := sLwell) lLwell qLwell kLwell
    bLwell := (fun_mk (st := sLwell) lLwell qLwell kLwell).binds (ps := ["_law_cell"]) fun _ _ _ _ _ _ us hl => match us, hl with | [_], _ => rfl
    gLdraw := PySem.W.mg_of X G aLdraw
    aLdraw := fLdraw
    dLdraw := PySem.W.fnOf "_law_draw" "_law_draw" (defArgs sLdraw) (defBody sLdraw) (defScope sLdraw) .none kVLdraw dcLdraw pmLdraw anLdraw cdLdraw ctLdraw
    fLdraw := fun_mk (st := sLdraw) lLdraw qLdraw kLdraw
    bLdraw := (fun_mk (st := sLdraw) lLdraw qLdraw kLdraw).binds (ps := ["_law_well_here", "_law_many"]) fun _ _ _ _ _ _ us hl => match us, hl with | [_, _], _ => rfl
    gLkinds := PySem.W.mg_of X G aLkinds
    aLkinds := fLkinds
    dLkinds := PySem.W.fnOf "_law_kinds" "_law_kinds" (defArgs sLkinds) (defBody sLkinds) (defScope sLkinds) .none kVLkinds dcLkinds pmLkinds anLkinds cdLkinds ctLkinds
    fLkinds := fun_mk (st := sLkinds) lLkinds qLkinds kLkinds
    bLkinds := (fun_mk (st := sLkinds) lLkinds qLkinds kLkinds).binds (ps := ["_law_e"]) fun _ _ _ _ _ _ us hl => match us, hl with | [_], _ => rfl
    gLbyplace := PySem.W.mg_of X G aLbyplace
    aLbyplace := fLbyplace
    dLbyplace := PySem.W.fnOf "_law_by_place" "_law_by_place" (defArgs sLbyplace) (defBody sLbyplace) (defScope sLbyplace) .none kVLbyplace dcLbyplace pmLbyplace anLbyplace cdLbyplace ctLbyplace
    fLbyplace := fun_mk (st := sLbyplace) lLbyplace qLbyplace kLbyplace
    bLbyplace := (fun_mk (st := sLbyplace) lLbyplace qLbyplace kLbyplace).binds (ps := ["_law_one", "_law_other"]) fun _ _ _ _ _ _ us hl => match us, hl with | [_, _], _ => rfl
    gLbyname := PySem.W.mg_of X G aLbyname
    aLbyname := fLbyname
    dLbyname := PySem.W.fnOf "_law_by_name" "_law_by_name" (defArgs sLbyname) (defBody sLbyname) (defScope sLbyname) .none kVLbyname dcLbyname pmLbyname anLbyname cdLbyname ctLbyname
    fLbyname := fun_mk (st := sLbyname) lLbyname qLbyname kLbyname
    bLbyname := (fun_mk (st := sLbyname) lLbyname qLbyname kLbyname).binds (ps := ["_law_one", "_law_other"]) fun _ _ _ _ _ _ us hl => match us, hl with | [_, _], _ => rfl
    gLfields := PySem.W.mg_of X G aLfields
    aLfields := fLfields
    dLfields := PySem.W.fnOf "_law_fields" "_law_fields" (defArgs sLfields) (defBody sLfields) (defScope sLfields) .none kVLfields dcLfields pmLfields anLfields cdLfields ctLfields
    fLfields := fun_mk (st := sLfields) lLfields qLfields kLfields
    bLfields := (fun_mk (st := sLfields) lLfields qLfields kLfields).binds (ps := ["_law_some"]) fun _ _ _ _ _ _ us hl => match us, hl with | [_], _ => rfl
    glaw := PySem.W.mg_of X G alaw
    alaw := fa
    dlaw := PySem.W.fnOf "law" "law" (defArgs slaw) (defBody slaw) (defScope slaw) .none kVlaw dclaw pmlaw anlaw cdlaw ctlaw
    flaw := fun_mk (st := slaw) llaw qlaw klaw
    blaw := (fun_mk (st := slaw) llaw qlaw klaw).binds (ps := ["_law_script"]) fun _ _ _ _ _ _ us hl => match us, hl with | [_], _ => rfl
    iBadCount := aBadCountInit
    tBadCount := tyBadCount
    oBadCount := ⟨⟨nmXBadCount, qXBadCount, NXBadCount, bsXBadCount, bmXBadCount, snXBadCount, subXBadCount, abXBadCount, colXBadCount, ddXBadCount, r0XBadCount, r1XBadCount, r2XBadCount, r3XBadCount, r5XBadCount, oxBadCount, orBadCount⟩, osBadCount, obBadCount, otBadCount, okBadCount⟩
    xfBadCount := ⟨xgBadCount, xnBadCount, obBadCount, xdBadCount⟩
    nBadCount_what := nBadCount_what
    nBadCount_count := nBadCount_count
    emBadCount_BadCount := PySem.W.exm_ref obBadCount xdBadCount otBadCount euBadCount_BadCount
    emBadCount_NoJar := PySem.W.exm_ref obNoJar xdNoJar otNoJar euBadCount_NoJar
    emBadCount_SameJar := PySem.W.exm_ref obSameJar xdSameJar otSameJar euBadCount_SameJar
    emBadCount_Sizes := PySem.W.exm_ref obSizes xdSizes otSizes euBadCount_Sizes
    emBadCount_BadStart := PySem.W.exm_ref obBadStart xdBadStart otBadStart euBadCount_BadStart
    emBadCount_Wide := PySem.W.exm_ref obWide xdWide otWide euBadCount_Wide
    emBadCount_NoName := PySem.W.exm_ref obNoName xdNoName otNoName euBadCount_NoName
    emBadCount_NoRow := PySem.W.exm_ref obNoRow xdNoRow otNoRow euBadCount_NoRow
    emBadCount_BadText := PySem.W.exm_ref obBadText xdBadText otBadText euBadCount_BadText
    iNoJar := aNoJarInit
    tNoJar := tyNoJar
    oNoJar := ⟨⟨nmXNoJar, qXNoJar, NXNoJar, bsXNoJar, bmXNoJar, snXNoJar, subXNoJar, abXNoJar, colXNoJar, ddXNoJar, r0XNoJar, r1XNoJar, r2XNoJar, r3XNoJar, r5XNoJar, oxNoJar, orNoJar⟩, osNoJar, obNoJar, otNoJar, okNoJar⟩
    xfNoJar := ⟨xgNoJar, xnNoJar, obNoJar, xdNoJar⟩
    nNoJar_jar := nNoJar_jar
    emNoJar_BadCount := PySem.W.exm_ref obBadCount xdBadCount otBadCount euNoJar_BadCount
    emNoJar_NoJar := PySem.W.exm_ref obNoJar xdNoJar otNoJar euNoJar_NoJar
    emNoJar_SameJar := PySem.W.exm_ref obSameJar xdSameJar otSameJar euNoJar_SameJar
    emNoJar_Sizes := PySem.W.exm_ref obSizes xdSizes otSizes euNoJar_Sizes
    emNoJar_BadStart := PySem.W.exm_ref obBadStart xdBadStart otBadStart euNoJar_BadStart
    emNoJar_Wide := PySem.W.exm_ref obWide xdWide otWide euNoJar_Wide
    emNoJar_NoName := PySem.W.exm_ref obNoName xdNoName otNoName euNoJar_NoName
    emNoJar_NoRow := PySem.W.exm_ref obNoRow xdNoRow otNoRow euNoJar_NoRow
    emNoJar_BadText := PySem.W.exm_ref obBadText xdBadText otBadText euNoJar_BadText
    iSameJar := aSameJarInit
    tSameJar := tySameJar
    oSameJar := ⟨⟨nmXSameJar, qXSameJar, NXSameJar, bsXSameJar, bmXSameJar, snXSameJar, subXSameJar, abXSameJar, colXSameJar, ddXSameJar, r0XSameJar, r1XSameJar, r2XSameJar, r3XSameJar, r5XSameJar, oxSameJar, orSameJar⟩, osSameJar, obSameJar, otSameJar, okSameJar⟩
    xfSameJar := ⟨xgSameJar, xnSameJar, obSameJar, xdSameJar⟩
    nSameJar_jar := nSameJar_jar
    emSameJar_BadCount := PySem.W.exm_ref obBadCount xdBadCount otBadCount euSameJar_BadCount
    emSameJar_NoJar := PySem.W.exm_ref obNoJar xdNoJar otNoJar euSameJar_NoJar
    emSameJar_SameJar := PySem.W.exm_ref obSameJar xdSameJar otSameJar euSameJar_SameJar
    emSameJar_Sizes := PySem.W.exm_ref obSizes xdSizes otSizes euSameJar_Sizes
    emSameJar_BadStart := PySem.W.exm_ref obBadStart xdBadStart otBadStart euSameJar_BadStart
    emSameJar_Wide := PySem.W.exm_ref obWide xdWide otWide euSameJar_Wide
    emSameJar_NoName := PySem.W.exm_ref obNoName xdNoName otNoName euSameJar_NoName
    emSameJar_NoRow := PySem.W.exm_ref obNoRow xdNoRow otNoRow euSameJar_NoRow
    emSameJar_BadText := PySem.W.exm_ref obBadText xdBadText otBadText euSameJar_BadText
    iSizes := aSizesInit
    tSizes := tySizes
    oSizes := ⟨⟨nmXSizes, qXSizes, NXSizes, bsXSizes, bmXSizes, snXSizes, subXSizes, abXSizes, colXSizes, ddXSizes, r0XSizes, r1XSizes, r2XSizes, r3XSizes, r5XSizes, oxSizes, orSizes⟩, osSizes, obSizes, otSizes, okSizes⟩
    xfSizes := ⟨xgSizes, xnSizes, obSizes, xdSizes⟩
    nSizes_a := nSizes_a
    nSizes_b := nSizes_b
    emSizes_BadCount := PySem.W.exm_ref obBadCount xdBadCount otBadCount euSizes_BadCount
    emSizes_NoJar := PySem.W.exm_ref obNoJar xdNoJar otNoJar euSizes_NoJar
    emSizes_SameJar := PySem.W.exm_ref obSameJar xdSameJar otSameJar euSizes_SameJar
    emSizes_Sizes := PySem.W.exm_ref obSizes xdSizes otSizes euSizes_Sizes
    emSizes_BadStart := PySem.W.exm_ref obBadStart xdBadStart otBadStart euSizes_BadStart
    emSizes_Wide := PySem.W.exm_ref obWide xdWide otWide euSizes_Wide
    emSizes_NoName := PySem.W.exm_ref obNoName xdNoName otNoName euSizes_NoName
    emSizes_NoRow := PySem.W.exm_ref obNoRow xdNoRow otNoRow euSizes_NoRow
    emSizes_BadText := PySem.W.exm_ref obBadText xdBadText otBadText euSizes_BadText
    iBadStart := aBadStartInit
    tBadStart := tyBadStart
    oBadStart := ⟨⟨nmXBadStart, qXBadStart, NXBadStart, bsXBadStart, bmXBadStart, snXBadStart, subXBadStart, abXBadStart, colXBadStart, ddXBadStart, r0XBadStart, r1XBadStart, r2XBadStart, r3XBadStart, r5XBadStart, oxBadStart, orBadStart⟩, osBadStart, obBadStart, otBadStart, okBadStart⟩
    xfBadStart := ⟨xgBadStart, xnBadStart, obBadStart, xdBadStart⟩
    nBadStart_jar := nBadStart_jar
    emBadStart_BadCount := PySem.W.exm_ref obBadCount xdBadCount otBadCount euBadStart_BadCount
    emBadStart_NoJar := PySem.W.exm_ref obNoJar xdNoJar otNoJar euBadStart_NoJar
    emBadStart_SameJar := PySem.W.exm_ref obSameJar xdSameJar otSameJar euBadStart_SameJar
    emBadStart_Sizes := PySem.W.exm_ref obSizes xdSizes otSizes euBadStart_Sizes
    emBadStart_BadStart := PySem.W.exm_ref obBadStart xdBadStart otBadStart euBadStart_BadStart
    emBadStart_Wide := PySem.W.exm_ref obWide xdWide otWide euBadStart_Wide
    emBadStart_NoName := PySem.W.exm_ref obNoName xdNoName otNoName euBadStart_NoName
    emBadStart_NoRow := PySem.W.exm_ref obNoRow xdNoRow otNoRow euBadStart_NoRow
    emBadStart_BadText := PySem.W.exm_ref obBadText xdBadText otBadText euBadStart_BadText
    iWide := aWideInit
    tWide := tyWide
    oWide := ⟨⟨nmXWide, qXWide, NXWide, bsXWide, bmXWide, snXWide, subXWide, abXWide, colXWide, ddXWide, r0XWide, r1XWide, r2XWide, r3XWide, r5XWide, oxWide, orWide⟩, osWide, obWide, otWide, okWide⟩
    xfWide := ⟨xgWide, xnWide, obWide, xdWide⟩
    nWide_count := nWide_count
    emWide_BadCount := PySem.W.exm_ref obBadCount xdBadCount otBadCount euWide_BadCount
    emWide_NoJar := PySem.W.exm_ref obNoJar xdNoJar otNoJar euWide_NoJar
    emWide_SameJar := PySem.W.exm_ref obSameJar xdSameJar otSameJar euWide_SameJar
    emWide_Sizes := PySem.W.exm_ref obSizes xdSizes otSizes euWide_Sizes
    emWide_BadStart := PySem.W.exm_ref obBadStart xdBadStart otBadStart euWide_BadStart
    emWide_Wide := PySem.W.exm_ref obWide xdWide otWide euWide_Wide
    emWide_NoName := PySem.W.exm_ref obNoName xdNoName otNoName euWide_NoName
    emWide_NoRow := PySem.W.exm_ref obNoRow xdNoRow otNoRow euWide_NoRow
    emWide_BadText := PySem.W.exm_ref obBadText xdBadText otBadText euWide_BadText
    iNoName := aNoNameInit
    tNoName := tyNoName
    oNoName := ⟨⟨nmXNoName, qXNoName, NXNoName, bsXNoName, bmXNoName, snXNoName, subXNoName, abXNoName, colXNoName, ddXNoName, r0XNoName, r1XNoName, r2XNoName, r3XNoName, r5XNoName, oxNoName, orNoName⟩, osNoName, obNoName, otNoName, okNoName⟩
    xfNoName := ⟨xgNoName, xnNoName, obNoName, xdNoName⟩
    nNoName_name := nNoName_name
    emNoName_BadCount := PySem.W.exm_ref obBadCount xdBadCount otBadCount euNoName_BadCount
    emNoName_NoJar := PySem.W.exm_ref obNoJar xdNoJar otNoJar euNoName_NoJar
    emNoName_SameJar := PySem.W.exm_ref obSameJar xdSameJar otSameJar euNoName_SameJar
    emNoName_Sizes := PySem.W.exm_ref obSizes xdSizes otSizes euNoName_Sizes
    emNoName_BadStart := PySem.W.exm_ref obBadStart xdBadStart otBadStart euNoName_BadStart
    emNoName_Wide := PySem.W.exm_ref obWide xdWide otWide euNoName_Wide
    emNoName_NoName := PySem.W.exm_ref obNoName xdNoName otNoName euNoName_NoName
    emNoName_NoRow := PySem.W.exm_ref obNoRow xdNoRow otNoRow euNoName_NoRow
    emNoName_BadText := PySem.W.exm_ref obBadText xdBadText otBadText euNoName_BadText
    iNoRow := aNoRowInit
    tNoRow := tyNoRow
    oNoRow := ⟨⟨nmXNoRow, qXNoRow, NXNoRow, bsXNoRow, bmXNoRow, snXNoRow, subXNoRow, abXNoRow, colXNoRow, ddXNoRow, r0XNoRow, r1XNoRow, r2XNoRow, r3XNoRow, r5XNoRow, oxNoRow, orNoRow⟩, osNoRow, obNoRow, otNoRow, okNoRow⟩
    xfNoRow := ⟨xgNoRow, xnNoRow, obNoRow, xdNoRow⟩
    nNoRow_name := nNoRow_name
    emNoRow_BadCount := PySem.W.exm_ref obBadCount xdBadCount otBadCount euNoRow_BadCount
    emNoRow_NoJar := PySem.W.exm_ref obNoJar xdNoJar otNoJar euNoRow_NoJar
    emNoRow_SameJar := PySem.W.exm_ref obSameJar xdSameJar otSameJar euNoRow_SameJar
    emNoRow_Sizes := PySem.W.exm_ref obSizes xdSizes otSizes euNoRow_Sizes
    emNoRow_BadStart := PySem.W.exm_ref obBadStart xdBadStart otBadStart euNoRow_BadStart
    emNoRow_Wide := PySem.W.exm_ref obWide xdWide otWide euNoRow_Wide
    emNoRow_NoName := PySem.W.exm_ref obNoName xdNoName otNoName euNoRow_NoName
    emNoRow_NoRow := PySem.W.exm_ref obNoRow xdNoRow otNoRow euNoRow_NoRow
    emNoRow_BadText := PySem.W.exm_ref obBadText xdBadText otBadText euNoRow_BadText
    iBadText := aBadTextInit
    tBadText := tyBadText
    oBadText := ⟨⟨nmXBadText, qXBadText, NXBadText, bsXBadText, bmXBadText, snXBadText, subXBadText, abXBadText, colXBadText, ddXBadText, r0XBadText, r1XBadText, r2XBadText, r3XBadText, r5XBadText, oxBadText, orBadText⟩, osBadText, obBadText, otBadText, okBadText⟩
    xfBadText := ⟨xgBadText, xnBadText, obBadText, xdBadText⟩
    nBadText_place := nBadText_place
    emBadText_BadCount := PySem.W.exm_ref obBadCount xdBadCount otBadCount euBadText_BadCount
    emBadText_NoJar := PySem.W.exm_ref obNoJar xdNoJar otNoJar euBadText_NoJar
    emBadText_SameJar := PySem.W.exm_ref obSameJar xdSameJar otSameJar euBadText_SameJar
    emBadText_Sizes := PySem.W.exm_ref obSizes xdSizes otSizes euBadText_Sizes
    emBadText_BadStart := PySem.W.exm_ref obBadStart xdBadStart otBadStart euBadText_BadStart
    emBadText_Wide := PySem.W.exm_ref obWide xdWide otWide euBadText_Wide
    emBadText_NoName := PySem.W.exm_ref obNoName xdNoName otNoName euBadText_NoName
    emBadText_NoRow := PySem.W.exm_ref obNoRow xdNoRow otNoRow euBadText_NoRow
    emBadText_BadText := PySem.W.exm_ref obBadText xdBadText otBadText euBadText_BadText
    xfOtherJars := ⟨xgOtherJars, xnOtherJars, obOtherJars, xdOtherJars⟩
    xqOtherJars := xqOtherJars
    kxOtherJars := kxOtherJars
    xfNoBack := ⟨xgNoBack, xnNoBack, obNoBack, xdNoBack⟩
    xqNoBack := xqNoBack
    kxNoBack := kxNoBack
    cDropsError := CDropsError
    mDropsError := PySem.W.mg_of X G xDropsError
    nValueError := PySem.W.mg_none_of X G zValueError
    xcBadCount := ⟨xgBadCount, xnBadCount, obBadCount, xdBadCount, yaBadCount, yn, yt, ymBadCount⟩
    ixBadCount_BadCount := KpR.kit_self (by simp)
    ixBadCount_NoJar := KpR.kit_cls jcNoJar jtNoJar euBadCount_NoJar enBadCount_NoJar
    ixBadCount_SameJar := KpR.kit_cls jcSameJar jtSameJar euBadCount_SameJar enBadCount_SameJar
    ixBadCount_Sizes := KpR.kit_cls jcSizes jtSizes euBadCount_Sizes enBadCount_Sizes
    ixBadCount_BadStart := KpR.kit_cls jcBadStart jtBadStart euBadCount_BadStart enBadCount_BadStart
    ixBadCount_Wide := KpR.kit_cls jcWide jtWide euBadCount_Wide enBadCount_Wide
    ixBadCount_NoName := KpR.kit_cls jcNoName jtNoName euBadCount_NoName enBadCount_NoName
    ixBadCount_NoRow := KpR.kit_cls jcNoRow jtNoRow euBadCount_NoRow enBadCount_NoRow
    ixBadCount_BadText := KpR.kit_cls jcBadText jtBadText euBadCount_BadText enBadCount_BadText
    ixBadCount_OtherJars := KpR.kit_cls jcOtherJars jtOtherJars euBadCount_OtherJars enBadCount_OtherJars
    ixBadCount_NoBack := KpR.kit_cls jcNoBack jtNoBack euBadCount_NoBack enBadCount_NoBack
    ixBadCount_DropsError := KpR.kit_cls jcDropsError jtDropsError euBadCount_DropsError enBadCount_DropsError
    ixBadCount_ValueError := kit_ty evBadCount
    xcNoJar := ⟨xgNoJar, xnNoJar, obNoJar, xdNoJar, yaNoJar, yn, yt, ymNoJar⟩
    ixNoJar_BadCount := KpR.kit_cls jcBadCount jtBadCount euNoJar_BadCount enNoJar_BadCount
    ixNoJar_NoJar := KpR.kit_self (by simp)
    ixNoJar_SameJar := KpR.kit_cls jcSameJar jtSameJar euNoJar_SameJar enNoJar_SameJar
    ixNoJar_Sizes := KpR.kit_cls jcSizes jtSizes euNoJar_Sizes enNoJar_Sizes
    ixNoJar_BadStart := KpR.kit_cls jcBadStart jtBadStart euNoJar_BadStart enNoJar_BadStart
    ixNoJar_Wide := KpR.kit_cls jcWide jtWide euNoJar_Wide enNoJar_Wide
    ixNoJar_NoName := KpR.kit_cls jcNoName jtNoName euNoJar_NoName enNoJar_NoName
    ixNoJar_NoRow := KpR.kit_cls jcNoRow jtNoRow euNoJar_NoRow enNoJar_NoRow
    ixNoJar_BadText := KpR.kit_cls jcBadText jtBadText euNoJar_BadText enNoJar_BadText
    ixNoJar_OtherJars := KpR.kit_cls jcOtherJars jtOtherJars euNoJar_OtherJars enNoJar_OtherJars
    ixNoJar_NoBack := KpR.kit_cls jcNoBack jtNoBack euNoJar_NoBack enNoJar_NoBack
    ixNoJar_DropsError := KpR.kit_cls jcDropsError jtDropsError euNoJar_DropsError enNoJar_DropsError
    ixNoJar_ValueError := kit_ty evNoJar
    xcSameJar := ⟨xgSameJar, xnSameJar, obSameJar, xdSameJar, yaSameJar, yn, yt, ymSameJar⟩
    ixSameJar_BadCount := KpR.kit_cls jcBadCount jtBadCount euSameJar_BadCount enSameJar_BadCount
    ixSameJar_NoJar := KpR.kit_cls jcNoJar jtNoJar euSameJar_NoJar enSameJar_NoJar
    ixSameJar_SameJar := KpR.kit_self (by simp)
    ixSameJar_Sizes := KpR.kit_cls jcSizes jtSizes euSameJar_Sizes enSameJar_Sizes
    ixSameJar_BadStart := KpR.kit_cls jcBadStart jtBadStart euSameJar_BadStart enSameJar_BadStart
    ixSameJar_Wide := KpR.kit_cls jcWide jtWide euSameJar_Wide enSameJar_Wide
    ixSameJar_NoName := KpR.kit_cls jcNoName jtNoName euSameJar_NoName enSameJar_NoName
    ixSameJar_NoRow := KpR.kit_cls jcNoRow jtNoRow euSameJar_NoRow enSameJar_NoRow
    ixSameJar_BadText := KpR.kit_cls jcBadText jtBadText euSameJar_BadText enSameJar_BadText
    ixSameJar_OtherJars := KpR.kit_cls jcOtherJars jtOtherJars euSameJar_OtherJars enSameJar_OtherJars
    ixSameJar_NoBack := KpR.kit_cls jcNoBack jtNoBack euSameJar_NoBack enSameJar_NoBack
    ixSameJar_DropsError := KpR.kit_cls jcDropsError jtDropsError euSameJar_DropsError enSameJar_DropsError
    ixSameJar_ValueError := kit_ty evSameJar
    xcSizes := ⟨xgSizes, xnSizes, obSizes, xdSizes, yaSizes, yn, yt, ymSizes⟩
    ixSizes_BadCount := KpR.kit_cls jcBadCount jtBadCount euSizes_BadCount enSizes_BadCount
    ixSizes_NoJar := KpR.kit_cls jcNoJar jtNoJar euSizes_NoJar enSizes_NoJar
    ixSizes_SameJar := KpR.kit_cls jcSameJar jtSameJar euSizes_SameJar enSizes_SameJar
    ixSizes_Sizes := KpR.kit_self (by simp)
    ixSizes_BadStart := KpR.kit_cls jcBadStart jtBadStart euSizes_BadStart enSizes_BadStart
    ixSizes_Wide := KpR.kit_cls jcWide jtWide euSizes_Wide enSizes_Wide
    ixSizes_NoName := KpR.kit_cls jcNoName jtNoName euSizes_NoName enSizes_NoName
    ixSizes_NoRow := KpR.kit_cls jcNoRow jtNoRow euSizes_NoRow enSizes_NoRow
    ixSizes_BadText := KpR.kit_cls jcBadText jtBadText euSizes_BadText enSizes_BadText
    ixSizes_OtherJars := KpR.kit_cls jcOtherJars jtOtherJars euSizes_OtherJars enSizes_OtherJars
    ixSizes_NoBack := KpR.kit_cls jcNoBack jtNoBack euSizes_NoBack enSizes_NoBack
    ixSizes_DropsError := KpR.kit_cls jcDropsError jtDropsError euSizes_DropsError enSizes_DropsError
    ixSizes_ValueError := kit_ty evSizes
    xcBadStart := ⟨xgBadStart, xnBadStart, obBadStart, xdBadStart, yaBadStart, yn, yt, ymBadStart⟩
    ixBadStart_BadCount := KpR.kit_cls jcBadCount jtBadCount euBadStart_BadCount enBadStart_BadCount
    ixBadStart_NoJar := KpR.kit_cls jcNoJar jtNoJar euBadStart_NoJar enBadStart_NoJar
    ixBadStart_SameJar := KpR.kit_cls jcSameJar jtSameJar euBadStart_SameJar enBadStart_SameJar
    ixBadStart_Sizes := KpR.kit_cls jcSizes jtSizes euBadStart_Sizes enBadStart_Sizes
    ixBadStart_BadStart := KpR.kit_self (by simp)
    ixBadStart_Wide := KpR.kit_cls jcWide jtWide euBadStart_Wide enBadStart_Wide
    ixBadStart_NoName := KpR.kit_cls jcNoName jtNoName euBadStart_NoName enBadStart_NoName
    ixBadStart_NoRow := KpR.kit_cls jcNoRow jtNoRow euBadStart_NoRow enBadStart_NoRow
    ixBadStart_BadText := KpR.kit_cls jcBadText jtBadText euBadStart_BadText enBadStart_BadText
    ixBadStart_OtherJars := KpR.kit_cls jcOtherJars jtOtherJars euBadStart_OtherJars enBadStart_OtherJars
    ixBadStart_NoBack := KpR.kit_cls jcNoBack jtNoBack euBadStart_NoBack enBadStart_NoBack
    ixBadStart_DropsError := KpR.kit_cls jcDropsError jtDropsError euBadStart_DropsError enBadStart_DropsError
    ixBadStart_ValueError := kit_ty evBadStart
    xcWide := ⟨xgWide, xnWide, obWide, xdWide, yaWide, yn, yt, ymWide⟩
    ixWide_BadCount := KpR.kit_cls jcBadCount jtBadCount euWide_BadCount enWide_BadCount
    ixWide_NoJar := KpR.kit_cls jcNoJar jtNoJar euWide_NoJar enWide_NoJar
    ixWide_SameJar := KpR.kit_cls jcSameJar jtSameJar euWide_SameJar enWide_SameJar
    ixWide_Sizes := KpR.kit_cls jcSizes jtSizes euWide_Sizes enWide_Sizes
    ixWide_BadStart := KpR.kit_cls jcBadStart jtBadStart euWide_BadStart enWide_BadStart
    ixWide_Wide := KpR.kit_self (by simp)
    ixWide_NoName := KpR.kit_cls jcNoName jtNoName euWide_NoName enWide_NoName
    ixWide_NoRow := KpR.kit_cls jcNoRow jtNoRow euWide_NoRow enWide_NoRow
    ixWide_BadText := KpR.kit_cls jcBadText jtBadText euWide_BadText enWide_BadText
    ixWide_OtherJars := KpR.kit_cls jcOtherJars jtOtherJars euWide_OtherJars enWide_OtherJars
    ixWide_NoBack := KpR.kit_cls jcNoBack jtNoBack euWide_NoBack enWide_NoBack
    ixWide_DropsError := KpR.kit_cls jcDropsError jtDropsError euWide_DropsError enWide_DropsError
    ixWide_ValueError := kit_ty evWide
    xcNoName := ⟨xgNoName, xnNoName, obNoName, xdNoName, yaNoName, yn, yt, ymNoName⟩
    ixNoName_BadCount := KpR.kit_cls jcBadCount jtBadCount euNoName_BadCount enNoName_BadCount
    ixNoName_NoJar := KpR.kit_cls jcNoJar jtNoJar euNoName_NoJar enNoName_NoJar
    ixNoName_SameJar := KpR.kit_cls jcSameJar jtSameJar euNoName_SameJar enNoName_SameJar
    ixNoName_Sizes := KpR.kit_cls jcSizes jtSizes euNoName_Sizes enNoName_Sizes
    ixNoName_BadStart := KpR.kit_cls jcBadStart jtBadStart euNoName_BadStart enNoName_BadStart
    ixNoName_Wide := KpR.kit_cls jcWide jtWide euNoName_Wide enNoName_Wide
    ixNoName_NoName := KpR.kit_self (by simp)
    ixNoName_NoRow := KpR.kit_cls jcNoRow jtNoRow euNoName_NoRow enNoName_NoRow
    ixNoName_BadText := KpR.kit_cls jcBadText jtBadText euNoName_BadText enNoName_BadText
    ixNoName_OtherJars := KpR.kit_cls jcOtherJars jtOtherJars euNoName_OtherJars enNoName_OtherJars
    ixNoName_NoBack := KpR.kit_cls jcNoBack jtNoBack euNoName_NoBack enNoName_NoBack
    ixNoName_DropsError := KpR.kit_cls jcDropsError jtDropsError euNoName_DropsError enNoName_DropsError
    ixNoName_ValueError := kit_ty evNoName
    xcNoRow := ⟨xgNoRow, xnNoRow, obNoRow, xdNoRow, yaNoRow, yn, yt, ymNoRow⟩
    ixNoRow_BadCount := KpR.kit_cls jcBadCount jtBadCount euNoRow_BadCount enNoRow_BadCount
    ixNoRow_NoJar := KpR.kit_cls jcNoJar jtNoJar euNoRow_NoJar enNoRow_NoJar
    ixNoRow_SameJar := KpR.kit_cls jcSameJar jtSameJar euNoRow_SameJar enNoRow_SameJar
    ixNoRow_Sizes := KpR.kit_cls jcSizes jtSizes euNoRow_Sizes enNoRow_Sizes
    ixNoRow_BadStart := KpR.kit_cls jcBadStart jtBadStart euNoRow_BadStart enNoRow_BadStart
    ixNoRow_Wide := KpR.kit_cls jcWide jtWide euNoRow_Wide enNoRow_Wide
    ixNoRow_NoName := KpR.kit_cls jcNoName jtNoName euNoRow_NoName enNoRow_NoName
    ixNoRow_NoRow := KpR.kit_self (by simp)
    ixNoRow_BadText := KpR.kit_cls jcBadText jtBadText euNoRow_BadText enNoRow_BadText
    ixNoRow_OtherJars := KpR.kit_cls jcOtherJars jtOtherJars euNoRow_OtherJars enNoRow_OtherJars
    ixNoRow_NoBack := KpR.kit_cls jcNoBack jtNoBack euNoRow_NoBack enNoRow_NoBack
    ixNoRow_DropsError := KpR.kit_cls jcDropsError jtDropsError euNoRow_DropsError enNoRow_DropsError
    ixNoRow_ValueError := kit_ty evNoRow
    xcBadText := ⟨xgBadText, xnBadText, obBadText, xdBadText, yaBadText, yn, yt, ymBadText⟩
    ixBadText_BadCount := KpR.kit_cls jcBadCount jtBadCount euBadText_BadCount enBadText_BadCount
    ixBadText_NoJar := KpR.kit_cls jcNoJar jtNoJar euBadText_NoJar enBadText_NoJar
    ixBadText_SameJar := KpR.kit_cls jcSameJar jtSameJar euBadText_SameJar enBadText_SameJar
    ixBadText_Sizes := KpR.kit_cls jcSizes jtSizes euBadText_Sizes enBadText_Sizes
    ixBadText_BadStart := KpR.kit_cls jcBadStart jtBadStart euBadText_BadStart enBadText_BadStart
    ixBadText_Wide := KpR.kit_cls jcWide jtWide euBadText_Wide enBadText_Wide
    ixBadText_NoName := KpR.kit_cls jcNoName jtNoName euBadText_NoName enBadText_NoName
    ixBadText_NoRow := KpR.kit_cls jcNoRow jtNoRow euBadText_NoRow enBadText_NoRow
    ixBadText_BadText := KpR.kit_self (by simp)
    ixBadText_OtherJars := KpR.kit_cls jcOtherJars jtOtherJars euBadText_OtherJars enBadText_OtherJars
    ixBadText_NoBack := KpR.kit_cls jcNoBack jtNoBack euBadText_NoBack enBadText_NoBack
    ixBadText_DropsError := KpR.kit_cls jcDropsError jtDropsError euBadText_DropsError enBadText_DropsError
    ixBadText_ValueError := kit_ty evBadText
    xcOtherJars := ⟨xgOtherJars, xnOtherJars, obOtherJars, xdOtherJars, yaOtherJars, yn, yt, ymOtherJars⟩
    ixOtherJars_BadCount := KpR.kit_cls jcBadCount jtBadCount euOtherJars_BadCount enOtherJars_BadCount
    ixOtherJars_NoJar := KpR.kit_cls jcNoJar jtNoJar euOtherJars_NoJar enOtherJars_NoJar
    ixOtherJars_SameJar := KpR.kit_cls jcSameJar jtSameJar euOtherJars_SameJar enOtherJars_SameJar
    ixOtherJars_Sizes := KpR.kit_cls jcSizes jtSizes euOtherJars_Sizes enOtherJars_Sizes
    ixOtherJars_BadStart := KpR.kit_cls jcBadStart jtBadStart euOtherJars_BadStart enOtherJars_BadStart
    ixOtherJars_Wide := KpR.kit_cls jcWide jtWide euOtherJars_Wide enOtherJars_Wide
    ixOtherJars_NoName := KpR.kit_cls jcNoName jtNoName euOtherJars_NoName enOtherJars_NoName
    ixOtherJars_NoRow := KpR.kit_cls jcNoRow jtNoRow euOtherJars_NoRow enOtherJars_NoRow
    ixOtherJars_BadText := KpR.kit_cls jcBadText jtBadText euOtherJars_BadText enOtherJars_BadText
    ixOtherJars_OtherJars := KpR.kit_self (by simp)
    ixOtherJars_NoBack := KpR.kit_cls jcNoBack jtNoBack euOtherJars_NoBack enOtherJars_NoBack
    ixOtherJars_DropsError := KpR.kit_cls jcDropsError jtDropsError euOtherJars_DropsError enOtherJars_DropsError
    ixOtherJars_ValueError := kit_ty evOtherJars
    xcNoBack := ⟨xgNoBack, xnNoBack, obNoBack, xdNoBack, yaNoBack, yn, yt, ymNoBack⟩
    ixNoBack_BadCount := KpR.kit_cls jcBadCount jtBadCount euNoBack_BadCount enNoBack_BadCount
    ixNoBack_NoJar := KpR.kit_cls jcNoJar jtNoJar euNoBack_NoJar enNoBack_NoJar
    ixNoBack_SameJar := KpR.kit_cls jcSameJar jtSameJar euNoBack_SameJar enNoBack_SameJar
    ixNoBack_Sizes := KpR.kit_cls jcSizes jtSizes euNoBack_Sizes enNoBack_Sizes
    ixNoBack_BadStart := KpR.kit_cls jcBadStart jtBadStart euNoBack_BadStart enNoBack_BadStart
    ixNoBack_Wide := KpR.kit_cls jcWide jtWide euNoBack_Wide enNoBack_Wide
    ixNoBack_NoName := KpR.kit_cls jcNoName jtNoName euNoBack_NoName enNoBack_NoName
    ixNoBack_NoRow := KpR.kit_cls jcNoRow jtNoRow euNoBack_NoRow enNoBack_NoRow
    ixNoBack_BadText := KpR.kit_cls jcBadText jtBadText euNoBack_BadText enNoBack_BadText
    ixNoBack_OtherJars := KpR.kit_cls jcOtherJars jtOtherJars euNoBack_OtherJars enNoBack_OtherJars
    ixNoBack_NoBack := KpR.kit_self (by simp)
    ixNoBack_DropsError := KpR.kit_cls jcDropsError jtDropsError euNoBack_DropsError enNoBack_DropsError
    ixNoBack_ValueError := kit_ty evNoBack
    kbBadCount_count_what := kbOf (fun us ws h1 h2 => match us, ws, h1, h2 with | [_], [_, _], _, _ => rfl) (fun r1 r2 => r1.append (Vals.reverse r2))
    kbNoJar_jar := kbOf (fun us ws h1 h2 => match us, ws, h1, h2 with | [_], [_], _, _ => rfl) (fun r1 r2 => r1.append r2)
    kbSameJar_jar := kbOf (fun us ws h1 h2 => match us, ws, h1, h2 with | [_], [_], _, _ => rfl) (fun r1 r2 => r1.append r2)
    kbSizes_b_a := kbOf (fun us ws h1 h2 => match us, ws, h1, h2 with | [_], [_, _], _, _ => rfl) (fun r1 r2 => r1.append (Vals.reverse r2))
    kbBadStart_jar := kbOf (fun us ws h1 h2 => match us, ws, h1, h2 with | [_], [_], _, _ => rfl) (fun r1 r2 => r1.append r2)
    kbWide_count := kbOf (fun us ws h1 h2 => match us, ws, h1, h2 with | [_], [_], _, _ => rfl) (fun r1 r2 => r1.append r2)
    kbNoName_name := kbOf (fun us ws h1 h2 => match us, ws, h1, h2 with | [_], [_], _, _ => rfl) (fun r1 r2 => r1.append r2)
    kbNoRow_name := kbOf (fun us ws h1 h2 => match us, ws, h1, h2 with | [_], [_], _, _ => rfl) (fun r1 r2 => r1.append r2)
    kbBadText_place := kbOf (fun us ws h1 h2 => match us, ws, h1, h2 with | [_], [_], _, _ => rfl) (fun r1 r2 => r1.append r2)
    nabs := PySem.W.mg_none_of X G zabs
    nenumerate := PySem.W.mg_none_of X G zenumerate
    nisinstance := PySem.W.mg_none_of X G zisinstance
    nrange := PySem.W.mg_none_of X G zrange }⟩
theorem walk {l : PySem.W.OpenLaw} {q : Program} {loose : List Str} {XP : (Str → Option Value) → Heap → Prop} {YP : World → Heap → Prop} {d : DefRec} {K : Params → PySem.W.Frag} (hn : l.most = some 63) (hdf : d.params.defaults = [])
    (hY : ∀ (w : World) (h : Heap), YP w h → (K w.params).In h)
    (F : ∀ (w : World) (mg : Str → Option Value) (fa : Addr) (h : Heap), (K w.params).In h → h.Ns mainGlobals mg → mg d.name = some (.ref fa) →
      ∃ fd : FuncData, (∀ (s : Shared) (u : Value), BindsTo s fd ⟨[u], []⟩ [("_law_script", u)]) ∧ ∀ base : Heap, (K w.params).In base → base.Ns mainGlobals mg → FnOk l.prog w (K w.params) mg base CX0 4 fa fd ["_law_script"] (spLaw (K w.params))) :
    PySem.W.WalkO q loose XP YP l.row.toRowW d [] (fun f vs => PySem.call f vs) :=
  L2.walk_of (n := 63) (k := 4) (x := "_law_script") (CX := fun _ => CX0) (sp := fun w => spLaw (K w.params)) hn (by decide) hdf ⟨rfl, by decide, by decide⟩ hY F (fun _ _ a ns hl _ hS => ⟨a, ns, rfl, hS, hl, fun _ => rfl⟩) fun _ _ _ _ _ z => z
end Kp
open PySem PySem.W PyProof.Rows
set_option maxRecDepth 100000 in
set_option maxHeartbeats 0 in
theorem PySem.Challenge.cw_wholedrops_k05_refusals_made_by_hand_holds : PySem.Challenge.rw_wholedrops_k05_refusals_made_by_hand.Holds := by
  w_on; o_law; k_head; (case hw => w_witness2)
  k_fill
  refine Kp.walk (l := PySem.Challenge.rw_wholedrops_k05_refusals_made_by_hand) rfl rfl (fun w h Y => PySem.W.kIn_of Y) ?F
  case F =>
    intro w mg fa h KX G hmg
    refine' Kp.all_mk KX G hmg ?xBadCount ?xNoJar ?xSameJar ?xSizes ?xBadStart ?xWide ?xNoName ?xNoRow ?xBadText ?xOtherJars ?xNoBack ?aBadCountInit ?iBadCountInit ?lBadCountInit ?qBadCountInit ?kBadCountInit ?aNoJarInit ?iNoJarInit ?lNoJarInit ?qNoJarInit ?kNoJarInit ?aSameJarInit ?iSameJarInit ?lSameJarInit ?qSameJarInit ?kSameJarInit ?aSizesInit ?iSizesInit ?lSizesInit ?qSizesInit ?kSizesInit ?aBadStartInit ?iBadStartInit ?lBadStartInit ?qBadStartInit ?kBadStartInit ?aWideInit ?iWideInit ?lWideInit ?qWideInit ?kWideInit ?aNoNameInit ?iNoNameInit ?lNoNameInit ?qNoNameInit ?kNoNameInit ?aNoRowInit ?iNoRowInit ?lNoRowInit ?qNoRowInit ?kNoRowInit ?aBadTextInit ?iBadTextInit ?lBadTextInit ?qBadTextInit ?kBadTextInit ?aBadCountTold ?iBadCountTold ?lBadCountTold ?qBadCountTold ?kBadCountTold ?aNoJarTold ?iNoJarTold ?lNoJarTold ?qNoJarTold ?kNoJarTold ?aSameJarTold ?iSameJarTold ?lSameJarTold ?qSameJarTold ?kSameJarTold ?aSizesTold ?iSizesTold ?lSizesTold ?qSizesTold ?kSizesTold ?aBadStartTold ?iBadStartTold ?lBadStartTold ?qBadStartTold ?kBadStartTold ?aOtherJarsTold ?iOtherJarsTold ?lOtherJarsTold ?qOtherJarsTold ?kOtherJarsTold ?aWideTold ?iWideTold ?lWideTold ?qWideTold ?kWideTold ?aNoNameTold ?iNoNameTold ?lNoNameTold ?qNoNameTold ?kNoNameTold ?aNoRowTold ?iNoRowTold ?lNoRowTold ?qNoRowTold ?kNoRowTold ?aNoBackTold ?iNoBackTold ?lNoBackTold ?qNoBackTold ?kNoBackTold ?aBadTextTold ?iBadTextTold ?lBadTextTold ?qBadTextTold ?kBadTextTold ?aLwell ?lLwell ?qLwell ?kLwell ?aLdraw ?lLdraw ?qLdraw ?kLdraw ?aLkinds ?lLkinds ?qLkinds ?kLkinds ?aLbyplace ?lLbyplace ?qLbyplace ?kLbyplace ?aLbyname ?lLbyname ?qLbyname ?kLbyname ?aLfields ?lLfields ?qLfields ?kLfields ?alaw ?llaw ?qlaw ?klaw ?tyBadCount ?oxBadCount ?orBadCount ?osBadCount ?obBadCount ?otBadCount ?okBadCount ?xgBadCount ?xnBadCount ?xdBadCount ?nBadCount_what ?nBadCount_count ?euBadCount_BadCount ?euBadCount_NoJar ?euBadCount_SameJar ?euBadCount_Sizes ?euBadCount_BadStart ?euBadCount_Wide ?euBadCount_NoName ?euBadCount_NoRow ?euBadCount_BadText ?tyNoJar ?oxNoJar ?orNoJar ?osNoJar ?obNoJar ?otNoJar ?okNoJar ?xgNoJar ?xnNoJar ?xdNoJar ?nNoJar_jar ?euNoJar_BadCount ?euNoJar_NoJar ?euNoJar_SameJar ?euNoJar_Sizes ?euNoJar_BadStart ?euNoJar_Wide ?euNoJar_NoName ?euNoJar_NoRow ?euNoJar_BadText ?tySameJar ?oxSameJar ?orSameJar ?osSameJar ?obSameJar ?otSameJar ?okSameJar ?xgSameJar ?xnSameJar ?xdSameJar ?nSameJar_jar ?euSameJar_BadCount ?euSameJar_NoJar ?euSameJar_SameJar ?euSameJar_Sizes ?euSameJar_BadStart ?euSameJar_Wide ?euSameJar_NoName ?euSameJar_NoRow ?euSameJar_BadText ?tySizes ?oxSizes ?orSizes ?osSizes ?obSizes ?otSizes ?okSizes ?xgSizes ?xnSizes ?xdSizes ?nSizes_a ?nSizes_b ?euSizes_BadCount ?euSizes_NoJar ?euSizes_SameJar ?euSizes_Sizes ?euSizes_BadStart ?euSizes_Wide ?euSizes_NoName ?euSizes_NoRow ?euSizes_BadText ?tyBadStart ?oxBadStart ?orBadStart ?osBadStart ?obBadStart ?otBadStart ?okBadStart ?xgBadStart ?xnBadStart ?xdBadStart ?nBadStart_jar ?euBadStart_BadCount ?euBadStart_NoJar ?euBadStart_SameJar ?euBadStart_Sizes ?euBadStart_BadStart ?euBadStart_Wide ?euBadStart_NoName ?euBadStart_NoRow ?euBadStart_BadText ?tyWide ?oxWide ?orWide ?osWide ?obWide ?otWide ?okWide ?xgWide ?xnWide ?xdWide ?nWide_count ?euWide_BadCount ?euWide_NoJar ?euWide_SameJar ?euWide_Sizes ?euWide_BadStart ?euWide_Wide ?euWide_NoName ?euWide_NoRow ?euWide_BadText ?tyNoName ?oxNoName ?orNoName ?osNoName ?obNoName ?otNoName ?okNoName ?xgNoName ?xnNoName ?xdNoName ?nNoName_name ?euNoName_BadCount ?euNoName_NoJar ?euNoName_SameJar ?euNoName_Sizes ?euNoName_BadStart ?euNoName_Wide ?euNoName_NoName ?euNoName_NoRow ?euNoName_BadText ?tyNoRow ?oxNoRow ?orNoRow ?osNoRow ?obNoRow ?otNoRow ?okNoRow ?xgNoRow ?xnNoRow ?xdNoRow ?nNoRow_name ?euNoRow_BadCount ?euNoRow_NoJar ?euNoRow_SameJar ?euNoRow_Sizes ?euNoRow_BadStart ?euNoRow_Wide ?euNoRow_NoName ?euNoRow_NoRow ?euNoRow_BadText ?tyBadText ?oxBadText ?orBadText ?osBadText ?obBadText ?otBadText ?okBadText ?xgBadText ?xnBadText ?xdBadText ?nBadText_place ?euBadText_BadCount ?euBadText_NoJar ?euBadText_SameJar ?euBadText_Sizes ?euBadText_BadStart ?euBadText_Wide ?euBadText_NoName ?euBadText_NoRow ?euBadText_BadText ?obOtherJars ?xgOtherJars ?xnOtherJars ?xdOtherJars ?xqOtherJars ?kxOtherJars ?obNoBack ?xgNoBack ?xnNoBack ?xdNoBack ?xqNoBack ?kxNoBack ?xDropsError ?zValueError ?yn ?yt ?jcBadCount ?jtBadCount ?jcNoJar ?jtNoJar ?jcSameJar ?jtSameJar ?jcSizes ?jtSizes ?jcBadStart ?jtBadStart ?jcWide ?jtWide ?jcNoName ?jtNoName ?jcNoRow ?jtNoRow ?jcBadText ?jtBadText ?jcOtherJars ?jtOtherJars ?jcNoBack ?jtNoBack ?jcDropsError ?jtDropsError ?yaBadCount ?ymBadCount ?enBadCount_NoJar ?enBadCount_SameJar ?enBadCount_Sizes ?enBadCount_BadStart ?enBadCount_Wide ?enBadCount_NoName ?enBadCount_NoRow ?enBadCount_BadText ?euBadCount_OtherJars ?enBadCount_OtherJars ?euBadCount_NoBack ?enBadCount_NoBack ?euBadCount_DropsError ?enBadCount_DropsError ?evBadCount ?yaNoJar ?ymNoJar ?enNoJar_BadCount ?enNoJar_SameJar ?enNoJar_Sizes ?enNoJar_BadStart ?enNoJar_Wide ?enNoJar_NoName ?enNoJar_NoRow ?enNoJar_BadText ?euNoJar_OtherJars ?enNoJar_OtherJars ?euNoJar_NoBack ?enNoJar_NoBack ?euNoJar_DropsError ?enNoJar_DropsError ?evNoJar ?yaSameJar ?ymSameJar ?enSameJar_BadCount ?enSameJar_NoJar ?enSameJar_Sizes ?enSameJar_BadStart ?enSameJar_Wide ?enSameJar_NoName ?enSameJar_NoRow ?enSameJar_BadText ?euSameJar_OtherJars ?enSameJar_OtherJars ?euSameJar_NoBack ?enSameJar_NoBack ?euSameJar_DropsError ?enSameJar_DropsError ?evSameJar ?yaSizes ?ymSizes ?enSizes_BadCount ?enSizes_NoJar ?enSizes_SameJar ?enSizes_BadStart ?enSizes_Wide ?enSizes_NoName ?enSizes_NoRow ?enSizes_BadText ?euSizes_OtherJars ?enSizes_OtherJars ?euSizes_NoBack ?enSizes_NoBack ?euSizes_DropsError ?enSizes_DropsError ?evSizes ?yaBadStart ?ymBadStart ?enBadStart_BadCount ?enBadStart_NoJar ?enBadStart_SameJar ?enBadStart_Sizes ?enBadStart_Wide ?enBadStart_NoName ?enBadStart_NoRow ?enBadStart_BadText ?euBadStart_OtherJars ?enBadStart_OtherJars ?euBadStart_NoBack ?enBadStart_NoBack ?euBadStart_DropsError ?enBadStart_DropsError ?evBadStart ?yaWide ?ymWide ?enWide_BadCount ?enWide_NoJar ?enWide_SameJar ?enWide_Sizes ?enWide_BadStart ?enWide_NoName ?enWide_NoRow ?enWide_BadText ?euWide_OtherJars ?enWide_OtherJars ?euWide_NoBack ?enWide_NoBack ?euWide_DropsError ?enWide_DropsError ?evWide ?yaNoName ?ymNoName ?enNoName_BadCount ?enNoName_NoJar ?enNoName_SameJar ?enNoName_Sizes ?enNoName_BadStart ?enNoName_Wide ?enNoName_NoRow ?enNoName_BadText ?euNoName_OtherJars ?enNoName_OtherJars ?euNoName_NoBack ?enNoName_NoBack ?euNoName_DropsError ?enNoName_DropsError ?evNoName ?yaNoRow ?ymNoRow ?enNoRow_BadCount ?enNoRow_NoJar ?enNoRow_SameJar ?enNoRow_Sizes ?enNoRow_BadStart ?enNoRow_Wide ?enNoRow_NoName ?enNoRow_BadText ?euNoRow_OtherJars ?enNoRow_OtherJars ?euNoRow_NoBack ?enNoRow_NoBack ?euNoRow_DropsError ?enNoRow_DropsError ?evNoRow ?yaBadText ?ymBadText ?enBadText_BadCount ?enBadText_NoJar ?enBadText_SameJar ?enBadText_Sizes ?enBadText_BadStart ?enBadText_Wide ?enBadText_NoName ?enBadText_NoRow ?euBadText_OtherJars ?enBadText_OtherJars ?euBadText_NoBack ?enBadText_NoBack ?euBadText_DropsError ?enBadText_DropsError ?evBadText ?yaOtherJars ?ymOtherJars ?euOtherJars_BadCount ?enOtherJars_BadCount ?euOtherJars_NoJar ?enOtherJars_NoJar ?euOtherJars_SameJar ?enOtherJars_SameJar ?euOtherJars_Sizes ?enOtherJars_Sizes ?euOtherJars_BadStart ?enOtherJars_BadStart ?euOtherJars_Wide ?enOtherJars_Wide ?euOtherJars_NoName ?enOtherJars_NoName ?euOtherJars_NoRow ?enOtherJars_NoRow ?euOtherJars_BadText ?enOtherJars_BadText ?euOtherJars_NoBack ?enOtherJars_NoBack ?euOtherJars_DropsError ?enOtherJars_DropsError ?evOtherJars ?yaNoBack ?ymNoBack ?euNoBack_BadCount ?enNoBack_BadCount ?euNoBack_NoJar ?enNoBack_NoJar ?euNoBack_SameJar ?enNoBack_SameJar ?euNoBack_Sizes ?enNoBack_Sizes ?euNoBack_BadStart ?enNoBack_BadStart ?euNoBack_Wide ?enNoBack_Wide ?euNoBack_NoName ?enNoBack_NoName ?euNoBack_NoRow ?enNoBack_NoRow ?euNoBack_BadText ?enNoBack_BadText ?euNoBack_OtherJars ?enNoBack_OtherJars ?euNoBack_DropsError ?enNoBack_DropsError ?evNoBack ?zabs ?zenumerate ?zisinstance ?zrange
    (case xBadCount => k_is)
    (case xNoJar => k_is)
    (case xSameJar => k_is)
    (case xSizes => k_is)
    (case xBadStart => k_is)
    (case xWide => k_is)
    (case xNoName => k_is)
    (case xNoRow => k_is)
    (case xBadText => k_is)
    (case xOtherJars => k_is)
    (case xNoBack => k_is)
    (case aBadCountInit => k_is)
    (case iBadCountInit => k_is)
    (case lBadCountInit => k_is)
    (case qBadCountInit => k_is)
    (case kBadCountInit => k_is)
    (case aNoJarInit => k_is)
    (case iNoJarInit => k_is)
    (case lNoJarInit => k_is)
    (case qNoJarInit => k_is)
    (case kNoJarInit => k_is)
    (case aSameJarInit => k_is)
    (case iSameJarInit => k_is)
    (case lSameJarInit => k_is)
    (case qSameJarInit => k_is)
    (case kSameJarInit => k_is)
    (case aSizesInit => k_is)
    (case iSizesInit => k_is)
    (case lSizesInit => k_is)
    (case qSizesInit => k_is)
    (case kSizesInit => k_is)
    (case aBadStartInit => k_is)
    (case iBadStartInit => k_is)
    (case lBadStartInit => k_is)
    (case qBadStartInit => k_is)
    (case kBadStartInit => k_is)
    (case aWideInit => k_is)
    (case iWideInit => k_is)
    (case lWideInit => k_is)
    (case qWideInit => k_is)
    (case kWideInit => k_is)
    (case aNoNameInit => k_is)
    (case iNoNameInit => k_is)
    (case lNoNameInit => k_is)
    (case qNoNameInit => k_is)
    (case kNoNameInit => k_is)
    (case aNoRowInit => k_is)
    (case iNoRowInit => k_is)
    (case lNoRowInit => k_is)
    (case qNoRowInit => k_is)
    (case kNoRowInit => k_is)
    (case aBadTextInit => k_is)
    (case iBadTextInit => k_is)
    (case lBadTextInit => k_is)
    (case qBadTextInit => k_is)
    (case kBadTextInit => k_is)
    (case aBadCountTold => k_is)
    (case iBadCountTold => k_is)
    (case lBadCountTold => k_is)
    (case qBadCountTold => k_is)
    (case kBadCountTold => k_is)
    (case aNoJarTold => k_is)
    (case iNoJarTold => k_is)
    (case lNoJarTold => k_is)
    (case qNoJarTold => k_is)
    (case kNoJarTold => k_is)
    (case aSameJarTold => k_is)
    (case iSameJarTold => k_is)
    (case lSameJarTold => k_is)
    (case qSameJarTold => k_is)
    (case kSameJarTold => k_is)
    (case aSizesTold => k_is)
    (case iSizesTold => k_is)
    (case lSizesTold => k_is)
    (case qSizesTold => k_is)
    (case kSizesTold => k_is)
    (case aBadStartTold => k_is)
    (case iBadStartTold => k_is)
    (case lBadStartTold => k_is)
    (case qBadStartTold => k_is)
    (case kBadStartTold => k_is)
    (case aOtherJarsTold => k_is)
    (case iOtherJarsTold => k_is)
    (case lOtherJarsTold => k_is)
    (case qOtherJarsTold => k_is)
    (case kOtherJarsTold => k_is)
    (case aWideTold => k_is)
    (case iWideTold => k_is)
    (case lWideTold => k_is)
    (case qWideTold => k_is)
    (case kWideTold => k_is)
    (case aNoNameTold => k_is)
    (case iNoNameTold => k_is)
    (case lNoNameTold => k_is)
    (case qNoNameTold => k_is)
    (case kNoNameTold => k_is)
    (case aNoRowTold => k_is)
    (case iNoRowTold => k_is)
    (case lNoRowTold => k_is)
    (case qNoRowTold => k_is)
    (case kNoRowTold => k_is)
    (case aNoBackTold => k_is)
    (case iNoBackTold => k_is)
    (case lNoBackTold => k_is)
    (case qNoBackTold => k_is)
    (case kNoBackTold => k_is)
    (case aBadTextTold => k_is)
    (case iBadTextTold => k_is)
    (case lBadTextTold => k_is)
    (case qBadTextTold => k_is)
    (case kBadTextTold => k_is)
    (case aLwell => k_is)
    (case lLwell => k_is)
    (case qLwell => k_is)
    (case kLwell => k_is)
    (case aLdraw => k_is)
    (case lLdraw => k_is)
    (case qLdraw => k_is)
    (case kLdraw => k_is)
    (case aLkinds => k_is)
    (case lLkinds => k_is)
    (case qLkinds => k_is)
    (case kLkinds => k_is)
    (case aLbyplace => k_is)
    (case lLbyplace => k_is)
    (case qLbyplace => k_is)
    (case kLbyplace => k_is)
    (case aLbyname => k_is)
    (case lLbyname => k_is)
    (case qLbyname => k_is)
    (case kLbyname => k_is)
    (case aLfields => k_is)
    (case lLfields => k_is)
    (case qLfields => k_is)
    (case kLfields => k_is)
    (case alaw => k_is)
    (case llaw => k_is)
    (case qlaw => k_is)
    (case klaw => k_is)
    (case tyBadCount => k_is)
    (case oxBadCount => k_is)
    (case orBadCount => rfl)
    (case osBadCount => k_is)
    (case obBadCount => k_is)
    (case otBadCount => k_is)
    (case okBadCount => k_is)
    (case xgBadCount => k_is)
    (case xnBadCount => k_is)
    (case xdBadCount => k_is)
    (case nBadCount_what => k_is)
    (case nBadCount_count => k_is)
    (case euBadCount_BadCount => k_is)
    (case euBadCount_NoJar => k_is)
    (case euBadCount_SameJar => k_is)
    (case euBadCount_Sizes => k_is)
    (case euBadCount_BadStart => k_is)
    (case euBadCount_Wide => k_is)
    (case euBadCount_NoName => k_is)
    (case euBadCount_NoRow => k_is)
    (case euBadCount_BadText => k_is)
    (case tyNoJar => k_is)
    (case oxNoJar => k_is)
    (case orNoJar => rfl)
    (case osNoJar => k_is)
    (case obNoJar => k_is)
    (case otNoJar => k_is)
    (case okNoJar => k_is)
    (case xgNoJar => k_is)
    (case xnNoJar => k_is)
    (case xdNoJar => k_is)
    (case nNoJar_jar => k_is)
    (case euNoJar_BadCount => k_is)
    (case euNoJar_NoJar => k_is)
    (case euNoJar_SameJar => k_is)
    (case euNoJar_Sizes => k_is)
    (case euNoJar_BadStart => k_is)
    (case euNoJar_Wide => k_is)
    (case euNoJar_NoName => k_is)
    (case euNoJar_NoRow => k_is)
    (case euNoJar_BadText => k_is)
    (case tySameJar => k_is)
    (case oxSameJar => k_is)
    (case orSameJar => rfl)
    (case osSameJar => k_is)
    (case obSameJar => k_is)
    (case otSameJar => k_is)
    (case okSameJar => k_is)
    (case xgSameJar => k_is)
    (case xnSameJar => k_is)
    (case xdSameJar => k_is)
    (case nSameJar_jar => k_is)
    (case euSameJar_BadCount => k_is)
    (case euSameJar_NoJar => k_is)
    (case euSameJar_SameJar => k_is)
    (case euSameJar_Sizes => k_is)
    (case euSameJar_BadStart => k_is)
    (case euSameJar_Wide => k_is)
    (case euSameJar_NoName => k_is)
    (case euSameJar_NoRow => k_is)
    (case euSameJar_BadText => k_is)
    (case tySizes => k_is)
    (case oxSizes => k_is)
    (case orSizes => rfl)
    (case osSizes => k_is)
    (case obSizes => k_is)
    (case otSizes => k_is)
    (case okSizes => k_is)
    (case xgSizes => k_is)
    (case xnSizes => k_is)
    (case xdSizes => k_is)
    (case nSizes_a => k_is)
    (case nSizes_b => k_is)
    (case euSizes_BadCount => k_is)
    (case euSizes_NoJar => k_is)
    (case euSizes_SameJar => k_is)
    (case euSizes_Sizes => k_is)
    (case euSizes_BadStart => k_is)
    (case euSizes_Wide => k_is)
    (case euSizes_NoName => k_is)
    (case euSizes_NoRow => k_is)
    (case euSizes_BadText => k_is)
    (case tyBadStart => k_is)
    (case oxBadStart => k_is)
    (case orBadStart => rfl)
    (case osBadStart => k_is)
    (case obBadStart => k_is)
    (case otBadStart => k_is)
    (case okBadStart => k_is)
    (case xgBadStart => k_is)
    (case xnBadStart => k_is)
    (case xdBadStart => k_is)
    (case nBadStart_jar => k_is)
    (case euBadStart_BadCount => k_is)
    (case euBadStart_NoJar => k_is)
    (case euBadStart_SameJar => k_is)
    (case euBadStart_Sizes => k_is)
    (case euBadStart_BadStart => k_is)
    (case euBadStart_Wide => k_is)
    (case euBadStart_NoName => k_is)
    (case euBadStart_NoRow => k_is)
    (case euBadStart_BadText => k_is)
    (case tyWide => k_is)
    (case oxWide => k_is)
    (case orWide => rfl)
    (case osWide => k_is)
    (case obWide => k_is)
    (case otWide => k_is)
    (case okWide => k_is)
    (case xgWide => k_is)
    (case xnWide => k_is)
    (case xdWide => k_is)
    (case nWide_count => k_is)
    (case euWide_BadCount => k_is)
    (case euWide_NoJar => k_is)
    (case euWide_SameJar => k_is)
    (case euWide_Sizes => k_is)
    (case euWide_BadStart => k_is)
    (case euWide_Wide => k_is)
    (case euWide_NoName => k_is)
    (case euWide_NoRow => k_is)
    (case euWide_BadText => k_is)
    (case tyNoName => k_is)
    (case oxNoName => k_is)
    (case orNoName => rfl)
    (case osNoName => k_is)
    (case obNoName => k_is)
    (case otNoName => k_is)
    (case okNoName => k_is)
    (case xgNoName => k_is)
    (case xnNoName => k_is)
    (case xdNoName => k_is)
    (case nNoName_name => k_is)
    (case euNoName_BadCount => k_is)
    (case euNoName_NoJar => k_is)
    (case euNoName_SameJar => k_is)
    (case euNoName_Sizes => k_is)
    (case euNoName_BadStart => k_is)
    (case euNoName_Wide => k_is)
    (case euNoName_NoName => k_is)
    (case euNoName_NoRow => k_is)
    (case euNoName_BadText => k_is)
    (case tyNoRow => k_is)
    (case oxNoRow => k_is)
    (case orNoRow => rfl)
    (case osNoRow => k_is)
    (case obNoRow => k_is)
    (case otNoRow => k_is)
    (case okNoRow => k_is)
    (case xgNoRow => k_is)
    (case xnNoRow => k_is)
    (case xdNoRow => k_is)
    (case nNoRow_name => k_is)
    (case euNoRow_BadCount => k_is)
    (case euNoRow_NoJar => k_is)
    (case euNoRow_SameJar => k_is)
    (case euNoRow_Sizes => k_is)
    (case euNoRow_BadStart => k_is)
    (case euNoRow_Wide => k_is)
    (case euNoRow_NoName => k_is)
    (case euNoRow_NoRow => k_is)
    (case euNoRow_BadText => k_is)
    (case tyBadText => k_is)
    (case oxBadText => k_is)
    (case orBadText => rfl)
    (case osBadText => k_is)
    (case obBadText => k_is)
    (case otBadText => k_is)
    (case okBadText => k_is)
    (case xgBadText => k_is)
    (case xnBadText => k_is)
    (case xdBadText => k_is)
    (case nBadText_place => k_is)
    (case euBadText_BadCount => k_is)
    (case euBadText_NoJar => k_is)
    (case euBadText_SameJar => k_is)
    (case euBadText_Sizes => k_is)
    (case euBadText_BadStart => k_is)
    (case euBadText_Wide => k_is)
    (case euBadText_NoName => k_is)
    (case euBadText_NoRow => k_is)
    (case euBadText_BadText => k_is)
    (case obOtherJars => k_is)
    (case xgOtherJars => k_is)
    (case xnOtherJars => k_is)
    (case xdOtherJars => k_is)
    (case xqOtherJars => k_exc)
    (case kxOtherJars => k_is)
    (case obNoBack => k_is)
    (case xgNoBack => k_is)
    (case xnNoBack => k_is)
    (case xdNoBack => k_is)
    (case xqNoBack => k_exc)
    (case kxNoBack => k_is)
    (case xDropsError => k_is)
    (case zValueError => k_is)
    (case yn => k_is)
    (case yt => k_is)
    (case jcBadCount => k_is)
    (case jtBadCount => k_is)
    (case jcNoJar => k_is)
    (case jtNoJar => k_is)
    (case jcSameJar => k_is)
    (case jtSameJar => k_is)
    (case jcSizes => k_is)
    (case jtSizes => k_is)
    (case jcBadStart => k_is)
    (case jtBadStart => k_is)
    (case jcWide => k_is)
    (case jtWide => k_is)
    (case jcNoName => k_is)
    (case jtNoName => k_is)
    (case jcNoRow => k_is)
    (case jtNoRow => k_is)
    (case jcBadText => k_is)
    (case jtBadText => k_is)
    (case jcOtherJars => k_is)
    (case jtOtherJars => k_is)
    (case jcNoBack => k_is)
    (case jtNoBack => k_is)
    (case jcDropsError => k_is)
    (case jtDropsError => k_is)
    (case yaBadCount => k_is)
    (case ymBadCount => k_is)
    (case enBadCount_NoJar => decide)
    (case enBadCount_SameJar => decide)
    (case enBadCount_Sizes => decide)
    (case enBadCount_BadStart => decide)
    (case enBadCount_Wide => decide)
    (case enBadCount_NoName => decide)
    (case enBadCount_NoRow => decide)
    (case enBadCount_BadText => decide)
    (case euBadCount_OtherJars => k_is)
    (case enBadCount_OtherJars => decide)
    (case euBadCount_NoBack => k_is)
    (case enBadCount_NoBack => decide)
    (case euBadCount_DropsError => k_is)
    (case enBadCount_DropsError => decide)
    (case evBadCount => k_is)
    (case yaNoJar => k_is)
    (case ymNoJar => k_is)
    (case enNoJar_BadCount => decide)
    (case enNoJar_SameJar => decide)
    (case enNoJar_Sizes => decide)
    (case enNoJar_BadStart => decide)
    (case enNoJar_Wide => decide)
    (case enNoJar_NoName => decide)
    (case enNoJar_NoRow => decide)
    (case enNoJar_BadText => decide)
    (case euNoJar_OtherJars => k_is)
    (case enNoJar_OtherJars => decide)
    (case euNoJar_NoBack => k_is)
    (case enNoJar_NoBack => decide)
    (case euNoJar_DropsError => k_is)
    (case enNoJar_DropsError => decide)
    (case evNoJar => k_is)
    (case yaSameJar => k_is)
    (case ymSameJar => k_is)
    (case enSameJar_BadCount => decide)
    (case enSameJar_NoJar => decide)
    (case enSameJar_Sizes => decide)
    (case enSameJar_BadStart => decide)
    (case enSameJar_Wide => decide)
    (case enSameJar_NoName => decide)
    (case enSameJar_NoRow => decide)
    (case enSameJar_BadText => decide)
    (case euSameJar_OtherJars => k_is)
    (case enSameJar_OtherJars => decide)
    (case euSameJar_NoBack => k_is)
    (case enSameJar_NoBack => decide)
    (case euSameJar_DropsError => k_is)
    (case enSameJar_DropsError => decide)
    (case evSameJar => k_is)
    (case yaSizes => k_is)
    (case ymSizes => k_is)
    (case enSizes_BadCount => decide)
    (case enSizes_NoJar => decide)
    (case enSizes_SameJar => decide)
    (case enSizes_BadStart => decide)
    (case enSizes_Wide => decide)
    (case enSizes_NoName => decide)
    (case enSizes_NoRow => decide)
    (case enSizes_BadText => decide)
    (case euSizes_OtherJars => k_is)
    (case enSizes_OtherJars => decide)
    (case euSizes_NoBack => k_is)
    (case enSizes_NoBack => decide)
    (case euSizes_DropsError => k_is)
    (case enSizes_DropsError => decide)
    (case evSizes => k_is)
    (case yaBadStart => k_is)
    (case ymBadStart => k_is)
    (case enBadStart_BadCount => decide)
    (case enBadStart_NoJar => decide)
    (case enBadStart_SameJar => decide)
    (case enBadStart_Sizes => decide)
    (case enBadStart_Wide => decide)
    (case enBadStart_NoName => decide)
    (case enBadStart_NoRow => decide)
    (case enBadStart_BadText => decide)
    (case euBadStart_OtherJars => k_is)
    (case enBadStart_OtherJars => decide)
    (case euBadStart_NoBack => k_is)
    (case enBadStart_NoBack => decide)
    (case euBadStart_DropsError => k_is)
    (case enBadStart_DropsError => decide)
    (case evBadStart => k_is)
    (case yaWide => k_is)
    (case ymWide => k_is)
    (case enWide_BadCount => decide)
    (case enWide_NoJar => decide)
    (case enWide_SameJar => decide)
    (case enWide_Sizes => decide)
    (case enWide_BadStart => decide)
    (case enWide_NoName => decide)
    (case enWide_NoRow => decide)
    (case enWide_BadText => decide)
    (case euWide_OtherJars => k_is)
    (case enWide_OtherJars => decide)
    (case euWide_NoBack => k_is)
    (case enWide_NoBack => decide)
    (case euWide_DropsError => k_is)
    (case enWide_DropsError => decide)
    (case evWide => k_is)
    (case yaNoName => k_is)
    (case ymNoName => k_is)
    (case enNoName_BadCount => decide)
    (case enNoName_NoJar => decide)
    (case enNoName_SameJar => decide)
    (case enNoName_Sizes => decide)
    (case enNoName_BadStart => decide)
    (case enNoName_Wide => decide)
    (case enNoName_NoRow => decide)
    (case enNoName_BadText => decide)
    (case euNoName_OtherJars => k_is)
    (case enNoName_OtherJars => decide)
    (case euNoName_NoBack => k_is)
    (case enNoName_NoBack => decide)
    (case euNoName_DropsError => k_is)
    (case enNoName_DropsError => decide)
    (case evNoName => k_is)
    (case yaNoRow => k_is)
    (case ymNoRow => k_is)
    (case enNoRow_BadCount => decide)
    (case enNoRow_NoJar => decide)
    (case enNoRow_SameJar => decide)
    (case enNoRow_Sizes => decide)
    (case enNoRow_BadStart => decide)
    (case enNoRow_Wide => decide)
    (case enNoRow_NoName => decide)
    (case enNoRow_BadText => decide)
    (case euNoRow_OtherJars => k_is)
    (case enNoRow_OtherJars => decide)
    (case euNoRow_NoBack => k_is)
    (case enNoRow_NoBack => decide)
    (case euNoRow_DropsError => k_is)
    (case enNoRow_DropsError => decide)
    (case evNoRow => k_is)
    (case yaBadText => k_is)
    (case ymBadText => k_is)
    (case enBadText_BadCount => decide)
    (case enBadText_NoJar => decide)
    (case enBadText_SameJar => decide)
    (case enBadText_Sizes => decide)
    (case enBadText_BadStart => decide)
    (case enBadText_Wide => decide)
    (case enBadText_NoName => decide)
    (case enBadText_NoRow => decide)
    (case euBadText_OtherJars => k_is)
    (case enBadText_OtherJars => decide)
    (case euBadText_NoBack => k_is)
    (case enBadText_NoBack => decide)
    (case euBadText_DropsError => k_is)
    (case enBadText_DropsError => decide)
    (case evBadText => k_is)
    (case yaOtherJars => k_is)
    (case ymOtherJars => k_is)
    (case euOtherJars_BadCount => k_is)
    (case enOtherJars_BadCount => decide)
    (case euOtherJars_NoJar => k_is)
    (case enOtherJars_NoJar => decide)
    (case euOtherJars_SameJar => k_is)
    (case enOtherJars_SameJar => decide)
    (case euOtherJars_Sizes => k_is)
    (case enOtherJars_Sizes => decide)
    (case euOtherJars_BadStart => k_is)
    (case enOtherJars_BadStart => decide)
    (case euOtherJars_Wide => k_is)
    (case enOtherJars_Wide => decide)
    (case euOtherJars_NoName => k_is)
    (case enOtherJars_NoName => decide)
    (case euOtherJars_NoRow => k_is)
    (case enOtherJars_NoRow => decide)
    (case euOtherJars_BadText => k_is)
    (case enOtherJars_BadText => decide)
    (case euOtherJars_NoBack => k_is)
    (case enOtherJars_NoBack => decide)
    (case euOtherJars_DropsError => k_is)
    (case enOtherJars_DropsError => decide)
    (case evOtherJars => k_is)
    (case yaNoBack => k_is)
    (case ymNoBack => k_is)
    (case euNoBack_BadCount => k_is)
    (case enNoBack_BadCount => decide)
    (case euNoBack_NoJar => k_is)
    (case enNoBack_NoJar => decide)
    (case euNoBack_SameJar => k_is)
    (case enNoBack_SameJar => decide)
    (case euNoBack_Sizes => k_is)
    (case enNoBack_Sizes => decide)
    (case euNoBack_BadStart => k_is)
    (case enNoBack_BadStart => decide)
    (case euNoBack_Wide => k_is)
    (case enNoBack_Wide => decide)
    (case euNoBack_NoName => k_is)
    (case enNoBack_NoName => decide)
    (case euNoBack_NoRow => k_is)
    (case enNoBack_NoRow => decide)
    (case euNoBack_BadText => k_is)
    (case enNoBack_BadText => decide)
    (case euNoBack_OtherJars => k_is)
    (case enNoBack_OtherJars => decide)
    (case euNoBack_DropsError => k_is)
    (case enNoBack_DropsError => decide)
    (case evNoBack => k_is)
    (case zabs => k_is)
    (case zenumerate => k_is)
    (case zisinstance => k_is)
    (case zrange => k_is)


