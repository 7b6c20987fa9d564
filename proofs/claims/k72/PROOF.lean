import PyProof.Rows.All
import Wide.All
import OpenK.AllK
import Wide.FinOn
import HandS.ForMost
import HandS.Defaults
import HandS.MakeKwOnly
import HandS.IsInst
import HandS.Wide
import HandS.Style
import HandS.Zip
import HandS.Codes
import HandS.OwnEq
import HandS.TupAny
import HandS.TupMul
import HandS.More
import HandS.Exc
import HandS.TryMany
import HandS.ExcInit
import HandS.ExcField
import HandS.ExcIs
import HandS.WordsExc
import HandS.Dict
import HandS.Deep
import KE.KDictDisplayH
import PyProof.InstNe
import PyProof.NeKinds
import HandS.Text
import HandS.FStr
import HandS.Flow
import HandS.Iter
import HandS.Walk
import KE.GoesRaise
import PySem.Challenge.RW_wholedrops_k72_row_texts_refused
set_option Elab.async false
set_option linter.all false
set_option maxRecDepth 100000
set_option maxHeartbeats 4000000
namespace Kp
/-! ### an if whose test is a Bool -/
theorem ifT {c : Bool} {A B : Prop} (hc : c = true) (h : A) : if c = true then A else B := by
  rw [if_pos hc]
  exact h
theorem ifF {c : Bool} {A B : Prop} (hc : c = false) (h : B) : if c = true then A else B := by
  rw [hc, if_neg Bool.false_ne_true]
  exact h
theorem ifD {P A B : Prop} [Decidable P] (h1 : P → A) (h2 : ¬ P → B) : if decide P = true then A else B := by
  by_cases h : P
  · exact ifT (decide_eq_true h) (h1 h)
  · exact ifF (decide_eq_false h) (h2 h)
theorem ifN {P A B : Prop} [Decidable P] (h1 : P → B) (h2 : ¬ P → A) : if (!decide P) = true then A else B := by
  by_cases h : P
  · exact ifF (by rw [decide_eq_true h]; rfl) (h1 h)
  · exact ifT (by rw [decide_eq_false h]; rfl) (h2 h)
/-! ### lists of ints -/
def at0 (l : List Int) (i : Nat) : Int := l.getD i 0
theorem at0_get {l : List Int} {i : Nat} (h : i < l.length) : l[i]? = some (at0 l i) := by
  unfold at0
  rw [List.getD_eq_getElem?_getD, List.getElem?_eq_getElem h]
  rfl
theorem at0_of {l : List Int} {i : Nat} {v : Int} (h : l[i]? = some v) : at0 l i = v := by
  unfold at0
  rw [List.getD_eq_getElem?_getD, h]
  rfl
theorem at0_set {l : List Int} {i j : Nat} {v : Int} (h : i < l.length) : at0 (l.set i v) j = if i = j then v else at0 l j := by
  unfold at0
  rw [List.getD_eq_getElem?_getD, List.getD_eq_getElem?_getD, List.getElem?_set]
  by_cases e : i = j
  · subst e
    simp [h]
  · simp [e]
theorem at0_map {l : List Int} {f : Int → Int} {i : Nat} (h : i < l.length) : at0 (l.map f) i = f (at0 l i) := by
  have := at0_get h
  exact at0_of (by rw [List.getElem?_map, this]; rfl)
theorem ext0 {l m : List Int} (h : l.length = m.length) (e : ∀ i, i < l.length → at0 l i = at0 m i) : l = m := by
  apply List.ext_getElem? 
  intro i
  by_cases hi : i < l.length
  · rw [at0_get hi, at0_get (h ▸ hi), e i hi]
  · rw [List.getElem?_eq_none (by omega), List.getElem?_eq_none (by omega)]
/-! ### the deeds -/
inductive D where
  | pour (a b : Nat) | put (a : Nat) (k : Int) | draw (a : Nat) (k : Int) | change (a b : Nat)
  deriving DecidableEq
/-- what a deed must be for jars of these sizes -/
def D.ok (caps : List Int) : D → Prop
  | .pour a b => a < caps.length ∧ b < caps.length ∧ a ≠ b
  | .put a k => a < caps.length ∧ 1 ≤ k ∧ k ≤ 1000000000000
  | .draw a k => a < caps.length ∧ 1 ≤ k ∧ k ≤ 1000000000000
  | .change a b => a < caps.length ∧ b < caps.length ∧ a ≠ b ∧ at0 caps a = at0 caps b
/-- one deed, as behind_deed reckons it -/
def D.act (caps : List Int) (p : Int) (st : List Int) : D → List Int
  | .pour a b =>
    let m := if at0 caps b * p - at0 st b < at0 st a then at0 caps b * p - at0 st b else at0 st a
    (st.set a (at0 st a - m)).set b (at0 st b + m)
  | .put a k => st.set a (if at0 caps a * p < at0 st a + k * p then at0 caps a * p else at0 st a + k * p)
  | .draw a k => st.set a (if 0 > at0 st a - k * p then 0 else at0 st a - k * p)
  | .change a b => (st.set a (at0 st b)).set b (at0 st a)
def run (caps : List Int) (p : Int) (ds : List D) (st : List Int) : List Int := ds.foldl (D.act caps p) st
def runs (caps : List Int) (p : Int) (ds : List D) : Nat → List Int → List Int
  | 0, st => st
  | n + 1, st => run caps p ds (runs caps p ds n st)
/-- a start that can be -/
structure Stand (caps : List Int) (p : Int) (st : List Int) : Prop where
  len : st.length = caps.length
  lo : ∀ i, i < caps.length → 0 ≤ at0 st i
  hi : ∀ i, i < caps.length → at0 st i ≤ at0 caps i * p
structure Caps (caps : List Int) : Prop where
  l1 : 1 ≤ caps.length
  l6 : caps.length ≤ 6
  lo : ∀ i, i < caps.length → 1 ≤ at0 caps i
  hi : ∀ i, i < caps.length → at0 caps i ≤ 1000000000000
theorem act_len {caps st : List Int} {p : Int} {d : D} : (d.act caps p st).length = st.length := by
  cases d <;> simp [D.act]
theorem act_stand {caps st : List Int} {p : Int} {d : D} (hp : 1 ≤ p) (h : Stand caps p st) (hd : d.ok caps) : Stand caps p (d.act caps p st) := by
  have hl := h.len
  refine ⟨by rw [act_len, hl], ?_, ?_⟩
  all_goals
    intro i hi
    have z0 := h.lo i hi
    have z1 := h.hi i hi
    cases d with
    | pour a b =>
      obtain ⟨ha, hb, hab⟩ := hd
      have a0 := h.lo a ha
      have a1 := h.hi a ha
      have b0 := h.lo b hb
      have b1 := h.hi b hb
      simp only [D.act]
      rw [at0_set (by rw [List.length_set]; omega), at0_set (by omega)]
      by_cases e1 : b = i
      · subst e1
        rw [if_pos rfl]
        split <;> omega
      · rw [if_neg e1]
        by_cases e2 : a = i
        · subst e2
          rw [if_pos rfl]
          split <;> omega
        · rw [if_neg e2]
          omega
    | put a k =>
      obtain ⟨ha, hk, _⟩ := hd
      have a0 := h.lo a ha
      have a1 := h.hi a ha
      have kp : 0 ≤ k * p := Int.mul_nonneg (by omega) (by omega)
      simp only [D.act]
      rw [at0_set (by omega)]
      by_cases e1 : a = i
      · subst e1
        rw [if_pos rfl]
        split <;> omega
      · rw [if_neg e1]
        omega
    | draw a k =>
      obtain ⟨ha, hk, _⟩ := hd
      have a0 := h.lo a ha
      have a1 := h.hi a ha
      have kp : 0 ≤ k * p := Int.mul_nonneg (by omega) (by omega)
      simp only [D.act]
      rw [at0_set (by omega)]
      by_cases e1 : a = i
      · subst e1
        rw [if_pos rfl]
        split <;> omega
      · rw [if_neg e1]
        omega
    | change a b =>
      obtain ⟨ha, hb, hab, hs⟩ := hd
      have a0 := h.lo a ha
      have a1 := h.hi a ha
      have b0 := h.lo b hb
      have b1 := h.hi b hb
      simp only [D.act]
      rw [at0_set (by rw [List.length_set]; omega), at0_set (by omega)]
      by_cases e1 : b = i
      · subst e1
        rw [if_pos rfl]
        rw [hs] at a1
        omega
      · rw [if_neg e1]
        by_cases e2 : a = i
        · subst e2
          rw [if_pos rfl]
          rw [← hs] at b1
          omega
        · rw [if_neg e2]
          omega
theorem run_len {caps : List Int} {p : Int} : ∀ {ds : List D} {st : List Int}, (run caps p ds st).length = st.length
  | [], _ => rfl
  | d :: ds, st => (run_len (ds := ds) (st := d.act caps p st)).trans act_len
theorem run_stand {caps : List Int} {p : Int} (hp : 1 ≤ p) : ∀ {ds : List D} {st : List Int}, Stand caps p st → (∀ d ∈ ds, d.ok caps) → Stand caps p (run caps p ds st)
  | [], _, h, _ => h
  | d :: ds, st, h, hd => run_stand (ds := ds) hp (act_stand hp h (hd d (List.mem_cons_self ..))) fun e he => hd e (List.mem_cons_of_mem _ he)
theorem runs_stand {caps : List Int} {p : Int} (hp : 1 ≤ p) {ds : List D} (hd : ∀ d ∈ ds, d.ok caps) : ∀ {n : Nat} {st : List Int}, Stand caps p st → Stand caps p (runs caps p ds n st)
  | 0, _, h => h
  | n + 1, _, h => run_stand hp (runs_stand hp hd (n := n) h) hd
theorem run_app {caps : List Int} {p : Int} {ds es : List D} {st : List Int} : run caps p (ds ++ es) st = run caps p es (run caps p ds st) := List.foldl_append ..
theorem runs_add {caps : List Int} {p : Int} {ds : List D} : ∀ (m n : Nat) (st : List Int), runs caps p ds m (runs caps p ds n st) = runs caps p ds (n + m) st
  | 0, _, _ => rfl
  | m + 1, n, st => congrArg (run caps p ds) (runs_add m n st)
theorem runs_nil {caps : List Int} {p : Int} : ∀ (n : Nat) (st : List Int), runs caps p [] n st = st
  | 0, _ => rfl
  | n + 1, st => runs_nil n st
theorem run_snoc {caps : List Int} {p : Int} {ds : List D} {d : D} {i : Nat} {st : List Int} (h : ds[i]? = some d) : run caps p (ds.take (i + 1)) st = d.act caps p (run caps p (ds.take i) st) := by
  rw [List.take_add_one, h, run_app]
  rfl
end Kp

namespace Kp
theorem at0_app {l : List Int} {z : Int} {i : Nat} : at0 (l ++ [z]) i = if i < l.length then at0 l i else if i = l.length then z else 0 := by
  unfold at0
  rw [List.getD_eq_getElem?_getD, List.getD_eq_getElem?_getD]
  by_cases h : i < l.length
  · rw [if_pos h, List.getElem?_append_left h]
  · rw [if_neg h, List.getElem?_append_right (by omega)]
    by_cases e : i = l.length
    · subst e
      simp
    · rw [if_neg e, List.getElem?_eq_none (by simp; omega)]
      rfl
/-- sizes that are none too small, none too big -/
def Mid (caps : List Int) : Prop := ∀ c ∈ caps, 1 ≤ c ∧ c ≤ 1000000000000
theorem Mid.nil : Mid [] := fun c h => by cases h
theorem Mid.app {caps : List Int} {z : Int} (h : Mid caps) (h1 : 1 ≤ z) (h2 : z ≤ 1000000000000) : Mid (caps ++ [z]) := fun c hc => by
  rcases List.mem_append.mp hc with q | q
  · exact h c q
  · have : c = z := by simpa using q
    subst this
    exact ⟨h1, h2⟩
theorem at0_mem {l : List Int} {i : Nat} (h : i < l.length) : at0 l i ∈ l := List.mem_of_getElem? (at0_get h)
theorem Mid.set {caps : List Int} {i j : Nat} (h : Mid caps) (hj : j < caps.length) : Mid (caps.set i (at0 caps j)) := fun c hc => by
  rcases List.mem_or_eq_of_mem_set hc with q | q
  · exact h c q
  · rw [q]
    exact h _ (at0_mem hj)
theorem Mid.caps {caps : List Int} (h : Mid caps) (h1 : 1 ≤ caps.length) (h6 : caps.length ≤ 6) : Caps caps :=
  ⟨h1, h6, fun i hi => (h _ (at0_mem hi)).1, fun i hi => (h _ (at0_mem hi)).2⟩
/-- starts as far as they are made -/
structure Part (caps : List Int) (p : Int) (st : List Int) : Prop where
  lo : ∀ i, i < st.length → 0 ≤ at0 st i
  hi : ∀ i, i < st.length → at0 st i ≤ at0 caps i * p
theorem Part.nil {caps : List Int} {p : Int} : Part caps p [] := ⟨fun i h => absurd h (Nat.not_lt_zero _), fun i h => absurd h (Nat.not_lt_zero _)⟩
theorem Part.app {caps st : List Int} {p z : Int} (h : Part caps p st) (h0 : 0 ≤ z) (h1 : z ≤ at0 caps st.length * p) : Part caps p (st ++ [z]) := by
  refine ⟨fun i hi => ?_, fun i hi => ?_⟩
  all_goals
    rw [List.length_append] at hi
    rw [at0_app]
    by_cases q : i < st.length
    · rw [if_pos q]
      first | exact h.lo i q | exact h.hi i q
    · have e : i = st.length := by simp at hi; omega
      subst e
      rw [if_neg q, if_pos rfl]
      first | exact h0 | exact h1
theorem Part.stand {caps st : List Int} {p : Int} (h : Part caps p st) (hl : st.length = caps.length) : Stand caps p st :=
  ⟨hl, fun i hi => h.lo i (by omega), fun i hi => h.hi i (by omega)⟩
/-- the words of the deeds -/
inductive Wd where
  | pour | put | draw | change
  deriving DecidableEq
def sixW : List Wd := [.pour, .pour, .pour, .put, .draw, .change]
theorem unit_ok {n : Nat} (h : n < 6) : 1 ≤ at0 [1, 1, 1, 7, 1000000, 100000000000] n ∧ at0 [1, 1, 1, 7, 1000000, 100000000000] n ≤ 100000000000 := by
  have : ∀ n : Fin 6, 1 ≤ at0 [1, 1, 1, 7, 1000000, 100000000000] n.1 ∧ at0 [1, 1, 1, 7, 1000000, 100000000000] n.1 ≤ 100000000000 := by decide
  exact this ⟨n, h⟩
theorem pick4 {a b c d lo hi : Int} {n : Nat} (h : n < 4) (ha : lo ≤ a ∧ a ≤ hi) (hb : lo ≤ b ∧ b ≤ hi) (hc : lo ≤ c ∧ c ≤ hi) (hd : lo ≤ d ∧ d ≤ hi) : lo ≤ at0 [a, b, c, d] n ∧ at0 [a, b, c, d] n ≤ hi := by
  match n, h with
  | 0, _ => exact ha
  | 1, _ => exact hb
  | 2, _ => exact hc
  | 3, _ => exact hd
theorem pick5 {a b c d e lo hi : Int} {n : Nat} (h : n < 5) (ha : lo ≤ a ∧ a ≤ hi) (hb : lo ≤ b ∧ b ≤ hi) (hc : lo ≤ c ∧ c ≤ hi) (hd : lo ≤ d ∧ d ≤ hi) (he : lo ≤ e ∧ e ≤ hi) : lo ≤ at0 [a, b, c, d, e] n ∧ at0 [a, b, c, d, e] n ≤ hi := by
  match n, h with
  | 0, _ => exact ha
  | 1, _ => exact hb
  | 2, _ => exact hc
  | 3, _ => exact hd
  | 4, _ => exact he
end Kp

namespace KpR
open PySem PySem.Spec PyProof.Rows L2
open AutoSeq1 (wpAny_loadPart')
/-! ### xs + ys, each a list that can be read -/
theorem addMeets (l b : Addr) (xs ys : Array Value) (n m : Nat) (sl tl : Array (Option Value)) (hsz : xs.size + ys.size ≤ sizeLine) :
    Meets (Builtin.«list.__add__» ⟨[.ref l, .ref b], []⟩) (fun _ R s =>
      s.heap.get? l = some { cls := .type "list", dict := none, data := .seq xs n, slots := sl } ∧
      s.heap.get? b = some { cls := .type "list", dict := none, data := .seq ys m, slots := tl } ∧
      R (.ok (.ret (.ref s.heap.objs.size))) { s with heap := s.heap.push { cls := .type "list", data := .seq (xs ++ ys) } }) :=
  .of_wp fun prog w A R s h => by
    obtain ⟨hp, g, d, tk, os⟩ := s
    obtain ⟨e1, e2, h⟩ := h
    have z1 := AutoSeq1.idx_int
    have z2 := AutoSeq1.sub_tuple_tuple
    have z3 := AutoSeq1.sub_list_list
    have z4 := AutoSeq1.sub_tuple_list
    have z5 := AutoSeq1.sub_list_tuple
    wp_walk using wpAny_loadPart' e1, wpAny_loadPart' e2
    exact ⟨_, rfl, h⟩
theorem enumNewT (l : Addr) (its : Array Value) (n : Nat) (dct : Option Addr) (sl : Array (Option Value)) :
    Meets (Builtin.«enumerate.__new__» ⟨[.type "enumerate", .ref l], []⟩) (fun _ R s =>
      s.heap.get? l = some { cls := .type "tuple", dict := dct, data := .seq its n, slots := sl } ∧
      R (.ok (.ret (.ref (s.heap.push { cls := .type "tuple_iterator", data := .fields #[.ref l, .int 0 0] }).objs.size)))
        { s with heap := Heap.push (Heap.push s.heap { cls := .type "tuple_iterator", data := .fields #[.ref l, .int 0 0] }) { cls := .type "enumerate", data := .fields #[.none, .bool false, .ref s.heap.objs.size, rawInt 0, .none, .none] } }) :=
  .of_wp fun prog w A R s h => by
    obtain ⟨hp, g, d, tk, os⟩ := s
    obtain ⟨hl, h⟩ := h
    have hsub := sub_enumerate
    have hL : Heap.IsTuple (Shared.heap ⟨hp, g, d, tk, os⟩) l its := ⟨_, hl, rfl, n, rfl⟩
    wp_walk using wpAny_loadPart' hl
    refine wpAny_stack_any fun st => wpAny_pure ?_
    split
    · rename_i c _ _ _ _ _
      cases (c == Value.type "enumerate") <;>
        (wp_walk using wpAny_loadPart' hl, wpAny_pyIter_tuple hL
         exact ⟨_, rfl, h⟩)
    · wp_walk using wpAny_loadPart' hl, wpAny_pyIter_tuple hL
      exact ⟨_, rfl, h⟩
end KpR

namespace KpR
open PySem PySem.Spec PyProof.Rows L2
open AutoSeq1 (wpAny_loadPart')
def rCatR (K : PySem.W.Frag) : R2 := fun x y H Q => ∃ l b xs zs, x = .ref l ∧ y = .ref b ∧ SqL K H l xs ∧ SqL K H b zs ∧ xs.length + zs.length ≤ sizeLine ∧ ∀ q, H q = none → Q (.ref q) (upd H q (.lst (xs ++ zs)))
section
variable {X : Cx}
theorem op_catR : OpR X (binaryOp .Add) (rCatR X.K) := by
  intro pins s σ H x y v u Q I rx ry h
  obtain ⟨l, b, xs, zs, rfl, rfl, h1, h2, hz, q⟩ := h
  cases rx
  cases ry
  obtain ⟨its, r1, p1, _⟩ := I.list h1
  obtain ⟨jts, r2, p2, _⟩ := I.list h2
  obtain ⟨⟨c1, d1, t1, s1⟩, n1, g1, k1, k2, k3⟩ := p1
  obtain ⟨⟨c2, d2, t2, s2⟩, n2, g2, k4, k5, k6⟩ := p2
  cases k1; cases k2; cases k3; cases k4; cases k5; cases k6
  have e1 := r1.length
  have e2 := r2.length
  refine concat_meets ⟨_, g1, rfl⟩ ⟨_, g2, rfl⟩ noFill_list_add seq_list_add F.slot_list_add F.entry_list_add (F.args_list_add_2 _ _)
    (addMeets l b its.toArray jts.toArray n1 n2 s1 s2 (by rw [List.size_toArray, List.size_toArray]; omega)) ⟨g1, g2, ?_⟩
  have ea : its.toArray ++ jts.toArray = (its ++ jts).toArray := by simp
  rw [ea]
  exact ⟨.ref _, _, I.lnew (t' := s.toks) (r1.append r2) (by rw [List.length_append]; omega), rfl, q _ I.fresh⟩
end
/-! ### enumerate(tuple) -/
theorem drawsT {prog : Program} {w : World} {A : Around} (hh : A.handled = none) (it l : Addr) (hne : l ≠ it) (its : Array Value) :
    Draws prog w A it [it, l] its.size (fun i v => its[i]? = some v) (fun i h => h.IsTupleIter it l i ∧ h.IsTuple l its) where
  live := fun _ _ st => by
    obtain ⟨⟨o, ho, _⟩, _⟩ := st
    exact ⟨o, ho⟩
  frame := fun _ _ _ st kp => ⟨st.1.at fun o e => kp it (by simp) o e, st.2.at fun o e => kp l (by simp) o e⟩
  item := fun i s Q E hi st hQ => by
    refine RZ.nextOf_tuple_item st.1 st.2 (x := its[i]) (by simp [hi]) fun h1 hit1 hs1 => ?_
    exact hQ _ h1 s.toks (by simp [hi]) ⟨hit1, st.2.extBut hs1.extBut hne⟩ hs1
  done := fun s Q E st hE => RZ.nextOf_tuple_end hh st.1 st.2 (by simp) hE
section
variable {prog : Program} {w : World} {A : Around} {E : Value → Shared → Prop} {s : Shared}
theorem callEnumT {l : Addr} {its : Array Value} {Q : Value → Shared → Prop} (hL : s.heap.IsTuple l its)
    (h : ∀ h', IsEnum h' (s.heap.objs.size + 1) s.heap.objs.size 0 .none → h'.IsTupleIter s.heap.objs.size l 0 → h'.IsTuple l its →
      (∀ b o, s.heap.get? b = some o → h'.get? b = some o) → Q (.ref (s.heap.objs.size + 1)) { s with heap := h' }) :
    wpAny (model prog w) A (call (.type "enumerate") [.ref l]) Q E s := by
  obtain ⟨⟨c, dct, dt, sl⟩, hl, hc, n, hd⟩ := id hL
  cases hc
  cases hd
  refine callType_new F.called_enumerate (by decide) (F.typeCall_enumerate_1 _) (F.newCall_enumerate_1 _) (fun obj => F.args_object_init_2 obj _) F.entry_enumerate_new
    (enumNewT l its n dct sl) ⟨hl, ?_⟩
  have hz : (s.heap.push { cls := .type "tuple_iterator", data := .fields #[.ref l, .int 0 0] }).objs.size = s.heap.objs.size + 1 := Heap.size_push ..
  show _ ∧ _
  rw [hz]
  have he : IsEnum ((s.heap.push { cls := .type "tuple_iterator", data := .fields #[.ref l, .int 0 0] }).push
      { cls := .type "enumerate", data := .fields #[.none, .bool false, .ref s.heap.objs.size, rawInt 0, .none, .none] }) (s.heap.objs.size + 1) s.heap.objs.size 0 .none := by
    have q := Heap.get?_push_size (s.heap.push { cls := .type "tuple_iterator", data := .fields #[.ref l, .int 0 0] })
      (o := { cls := .type "enumerate", data := .fields #[.none, .bool false, .ref s.heap.objs.size, rawInt 0, .none, .none] }) rfl
    rw [hz] at q
    exact q
  exact ⟨⟨_, he, rfl⟩, h _ he ⟨_, Heap.get?_push_of_some _ (Heap.get?_push_size _ (by rfl)), by rfl, by rfl⟩ ((hL.push _).push _) fun b o x => Heap.get?_push_of_some _ (Heap.get?_push_of_some _ x)⟩
end
/-- the tuple at a: each item in a new pair -/
def IteT (K : PySem.W.Frag) (a : Addr) : It where
  go := fun i H => ∃ (xs : List V) (x : V), SqT K H a xs ∧ xs[i]? = some x
  yld := fun i H v H' => ∃ T x, v = .ref T ∧ H T = none ∧ H' = upd H T (.tup [.int (i : Nat), x]) ∧ ∀ xs, SqT K H a xs → xs[i]? = some x
  stop := fun i H => ∃ xs : List V, SqT K H a xs ∧ xs.length = i
theorem turnEnumT {P : Program} {w : World} {K : PySem.W.Frag} {elts : List Expr} {kk : Nat} {tpos : Pos} (a e it : Addr) :
    Turn P w K (.Tuple elts kk tpos) (IteT K a) [e, it] e (fun i h => (∃ old, IsEnum h e it ((i : Nat) : Int) old) ∧ h.IsTupleIter it a i ∧ e ≠ it ∧ a ≠ it ∧ e ≠ a) where
  mem := by simp
  obj := fun i h st b hb => by
    obtain ⟨⟨old, he⟩, ⟨o, ho, hc, hd⟩, _⟩ := st
    rcases (show b = e ∨ b = it by simpa using hb) with z | z
    · subst z
      exact ⟨_, he, fun v q => nomatch q⟩
    · subst z
      exact ⟨o, ho, fun v q => by rw [hd] at q; cases q⟩
  keep := fun i h h' st k => by
    obtain ⟨⟨old, he⟩, hi, r⟩ := st
    exact ⟨⟨old, k e (by simp) _ he⟩, hi.at fun o q => k it (by simp) o q, r⟩
  item := by
    intro X hP hw hK hc i pins s σ H E I hf st hg
    subst hP hw hK
    obtain ⟨⟨old, he⟩, hit, hne, hai, hea⟩ := st
    obtain ⟨xs, x, hq, hx⟩ := hg
    obtain ⟨its, rv, p, hz⟩ := I.tuple hq
    obtain ⟨u, hu, ru⟩ := rv.get hx
    have el : e < s.heap.objs.size := Heap.lt_size he
    have il : it < s.heap.objs.size := by
      obtain ⟨_, q, _⟩ := hit
      exact Heap.lt_size q
    have hlt : i < its.toArray.size := by
      have := (List.getElem?_eq_some_iff.mp hu).1
      simpa using this
    refine wpAny_pyNext_enum_itemD (drawsT (A := X.A.in1) (I.ok.hd hc) it a hai its.toArray) he ⟨hit, p⟩ hlt hne (by simp; exact ⟨hne, hea⟩) fun y h' tk hy ho st' hT hsz hk => ?_
    obtain rfl : y = u := by
      have q : its.toArray[i]? = some u := by simpa using hu
      rw [q] at hy
      exact (Option.some.inj hy).symm
    refine ⟨_, rfl, wpAny_letOwnedTupleGo_enum (s := { s with heap := h', toks := tk + 1 }) ho fun h2 he2 sb => ?_⟩
    have hT2 : h2.get? s.heap.objs.size = some { cls := .type "tuple", data := .seq #[.int i tk, y] } := (sb.2 _ (Nat.ne_of_gt el)).trans hT
    have new : ObjOk X.prog X.w (upd H s.heap.objs.size (.tup [.int (i : Nat), x])) h2 s.heap.objs.size (.tup [.int (i : Nat), x]) :=
      ⟨by show 2 ≤ sizeLine; decide, [.int i tk, y], .cons ⟨_, rfl⟩ (.cons ru .nil), ⟨_, hT2, rfl, _, rfl⟩⟩
    have I1 : Inv X pins σ (upd H s.heap.objs.size (.tup [.int (i : Nat), x])) { s with heap := h2, toks := tk + 1 } :=
      I.turnedNew (ch := [e, it]) (fun b ob hb q => (sb.2 b (fun z => hb (by simp [z]))).trans (hk b ob (fun z => hb (by simp [z])) (fun z => hb (by simp [z])) q)) hf (Nat.le_refl _) new
    refine ⟨.ref s.heap.objs.size, _, I1, rfl, ⟨_, x, rfl, I.hok.fresh (Nat.le_refl _), rfl, fun ys hy2 => by rw [I.tuple_inj hy2 hq]; exact hx⟩, ⟨⟨y, ?_⟩, st'.1.at fun o q => (sb.2 it (Ne.symm hne)).trans q, hne, hai, hea⟩, fun b hb => ?_⟩
    · have e1 : ((i + 1 : Nat) : Int) = (i : Int) + 1 := by omega
      rw [e1]
      exact he2
    · have hb2 : b < s.heap.objs.size := by
        rcases (show b = e ∨ b = it by simpa using hb) with z | z
        · rw [z]; exact el
        · rw [z]; exact il
      rw [upd_ne (Nat.ne_of_lt hb2)]
      exact (hf b hb).1
  done := by
    intro X hP hw hK hc i pins s σ H E I hf st hg
    subst hP hw hK
    obtain ⟨⟨old, he⟩, hit, hne, hai, hea⟩ := st
    obtain ⟨xs, hq, hx⟩ := hg
    obtain ⟨its, rv, p, hz⟩ := I.tuple hq
    obtain ⟨f0, f1, f2, f3, f4, f5⟩ := hf it (by simp)
    have hl := rv.length
    have hiEq : i = its.toArray.size := by
      rw [List.size_toArray]
      omega
    subst hiEq
    exact wpAny_pyNext_enum_endD (drawsT (A := X.A.in1) (I.ok.hd hc) it a hai its.toArray) he ⟨hit, p⟩ fun h' eb => ⟨rfl, I.turned (t' := s.toks) (fun b o hb q => eb b o hb q) f0 f1 f3 f4 f5⟩
  self := fun A i s Q E st h => by
    obtain ⟨⟨_, he⟩, _⟩ := st
    exact wpAny_pyIter_enum he h
def iEnumT (K : PySem.W.Frag) (ta : TA) : TI := fun σ H R => ta σ H fun vs H1 => ∃ a xs, vs = [.ref a] ∧ SqT K H1 a xs ∧ R (IteT K a) H1
theorem pi_enumT {X : Cx} {e : Expr} {ta : TA} {p pos tpos : Pos} {elts : List Expr} {kk : Nat} (hg : Gl X "enumerate") (hm : X.mg "enumerate" = none) (ha : PA X [e] ta) (hs : starEach [e] X.env = [(false, eval e X.env)] := by rfl) :
    PI X (.Tuple elts kk tpos) (.Call (.Name "enumerate" p) [e] [] pos) (iEnumT X.K ta) := by
  refine ⟨fun pins s σ H R I h => ?_⟩
  refine Call_ (ld_blt I hg hm boot_enumerate (PyProof.Rows.callWith_type1 (thn (ha.run pos pins s σ H _ I h) fun us s1 ⟨vs, H1, I1, r1, a, xs, ex, hq, q⟩ => ?_) hs rfl))
  subst ex
  cases r1 with
  | cons r rr =>
    cases rr
    cases r
    obtain ⟨its, rv, p1, hz⟩ := I1.tuple hq
    refine callEnumT p1 fun h1 he hit hT hk => wpAny_pyIter_enum he ?_
    have al : a < s1.heap.objs.size := by
      obtain ⟨o, ho, _⟩ := p1
      exact Heap.lt_size ho
    have I2 : Inv X pins σ H1 { s1 with heap := h1 } := I1.kept (t' := s1.toks) hk
    refine ⟨s1.heap.objs.size + 1, [s1.heap.objs.size + 1, s1.heap.objs.size], _, _, H1, rfl, I2, turnEnumT a (s1.heap.objs.size + 1) s1.heap.objs.size, ⟨⟨.none, he⟩, hit, Nat.succ_ne_self _, Nat.ne_of_lt al, Nat.ne_of_gt (Nat.lt_succ_of_lt al)⟩, fun b hb => ?_, q⟩
    have le : s1.heap.objs.size ≤ b := by
      rcases (show b = s1.heap.objs.size + 1 ∨ b = s1.heap.objs.size by simpa using hb) with z | z
      · rw [z]
        exact Nat.le_succ _
      · rw [z]
        exact Nat.le_refl _
    exact I1.fpOk le (I1.hok.fresh le)
/-- the loop's bookkeeping: the pair is a new tuple at T -/
theorem for_enumT {K : PySem.W.Frag} {a : Addr} {xs : List V} {g : TG} {tb : TS} {D : Ends} {σ : L2.St} {H : Hp} (Pv : Nat → L2.St → Hp → Prop) (h0 : Pv 0 σ H) (hl : ∀ i σ H, i ≤ xs.length → Pv i σ H → SqT K H a xs)
    (hs : ∀ i x T σ H, xs[i]? = some x → Pv i σ H → H T = none → g (.ref T) σ (upd H T (.tup [.int (i : Nat), x])) fun σ2 H2 => tb { D with nx := Pv (i + 1), ct := Pv (i + 1), bk := D.nx } σ2 H2) (hd : ∀ σ H, Pv xs.length σ H → D.nx σ H) :
    ∃ W : Nat → Nat → L2.St → Hp → Prop, (∃ m, W 0 m σ H) ∧ ∀ i m σ H, W i m σ H →
      ((IteT K a).stop i H ∧ D.nx σ H) ∨ ((IteT K a).go i H ∧ ∃ N : L2.St → Hp → Prop, (∀ σ' H', N σ' H' → ∃ m', m' < m ∧ W (i + 1) m' σ' H') ∧ ∀ x H', (IteT K a).yld i H x H' → g x σ H' fun σ2 H2 => tb { D with nx := N, ct := N, bk := D.nx } σ2 H2) := by
  refine ⟨fun i m σ H => m = xs.length - i ∧ i ≤ xs.length ∧ Pv i σ H, ⟨xs.length, by simp, Nat.zero_le _, h0⟩, ?_⟩
  rintro i m σ1 H1 ⟨rfl, hi, p⟩
  by_cases e : i = xs.length
  · subst e
    exact .inl ⟨⟨xs, hl _ _ _ hi p, rfl⟩, hd _ _ p⟩
  · have lt : i < xs.length := by omega
    have ge : xs[i]? = some xs[i] := List.getElem?_eq_getElem lt
    refine .inr ⟨⟨xs, xs[i], hl _ _ _ hi p, ge⟩, Pv (i + 1), fun σ2 H2 q => ⟨xs.length - (i + 1), by omega, rfl, by omega, q⟩, ?_⟩
    rintro x H2 ⟨T, y, rfl, hT, rfl, hy⟩
    have q := hy xs (hl _ _ _ hi p)
    exact hs i y T σ1 H1 q p hT
/-! ### f(k = v, ..): keywords alone -/
theorem pe_callN0 {X : Cx} {CX : CXT} {k : Nat} {f : Addr} {fd : FuncData} {ps ks : List Str} {sp : Sp} {E : XK} {x : Str} {p pos : Pos} {kws : List Keyword} {tk : TA} {g : List Value → List Value → List Value} {gV : List V → List V → List V}
    (F : FnOk X.prog X.w X.K X.mg X.base CX k f fd ps sp) (hr : Room k X.A) (hg : Gl X x) (hm : X.mg x = some (.ref f)) (hk : PySem.W.keepIn X.K (.ref f) = true) (hb : KBn X.K fd ps 0 ks g gV) (hx : Passes CX X E) (hkw : PK X kws tk)
    (hall : (backToKw pos (keywordEach kws X.env)).all (·.1.isSome) = true := by rfl) (hks : (backToKw pos (keywordEach kws X.env)).filterMap (·.1) = ks := by rfl) (hdb : (x == ("__debug__" : Str)) = false := by decide)
    (hpl : ((backTo pos (starEach [] X.env)).any (·.1) || (backToKw pos (keywordEach kws X.env)).any (·.1.isNone)) = false := by rfl) :
    PE X (.Call (.Name x p) [] kws pos) (tCallN 0 ks.length sp gV E tNil tk) := by
  refine ⟨fun pins s σ H Q I h => ?_⟩
  refine wpAny_Call_Name_kw (ld_glob I hg hm ?_ hdb)
  refine PySem.W.callWith_KW0 (h₀ := X.base) I.ok.mod.kin hk hall (thn (hkw.run pos pins s σ H _ I h) fun ws s2 ⟨zs, H2, I2, rz, l1, l2, q2⟩ => ⟨I2.kIn, ?_⟩) hpl
  rw [hks]
  exact run_fnN (us := []) (vs := []) F hr hb hx I2 .nil rz rfl l2 q2
/-! ### isinstance's answers -/
theorem kit_self {K : PySem.W.Frag} {t : Value} (h : (t == t) = true) : PySem.W.kitOne K t t = some true := by
  unfold PySem.W.kitOne
  rw [if_pos h]
theorem kit_cls {K : PySem.W.Frag} {A C : Addr} {b : Bool} (h1 : PySem.W.isClsIn K C = true) (h2 : PySem.W.typeIn K (.ref C) = some (.type "type")) (h3 : PySem.W.subIn K (.ref A) (.ref C) = some b) (ne : (Value.ref A == Value.ref C) = false) :
    PySem.W.kitOne K (.ref A) (.ref C) = some b := by
  unfold PySem.W.kitOne
  rw [if_neg (by rw [ne]; exact Bool.false_ne_true)]
  show (if ((PySem.W.clsIn K C).isSome && PySem.W.typeIn K (.ref C) == some (.type "type")) = true then PySem.W.subIn K (.ref A) (.ref C) else none) = some b
  have h1' : (PySem.W.clsIn K C).isSome = true := h1
  rw [h1', h2, if_pos (by rfl)]
  exact h3
/-! ### lists of things that stand in the heap -/
def A2 {α : Type} (R : V → α → Prop) : List V → List α → Prop
  | [], [] => True
  | v :: vs, d :: ds => R v d ∧ A2 R vs ds
  | _, _ => False
section
variable {α : Type} {R S : V → α → Prop}
theorem A2.len : ∀ {vs : List V} {ds : List α}, A2 R vs ds → vs.length = ds.length
  | [], [], _ => rfl
  | _ :: _, _ :: _, h => congrArg (· + 1) (A2.len h.2)
  | [], _ :: _, h => h.elim
  | _ :: _, [], h => h.elim
theorem A2.mono (f : ∀ v d, R v d → S v d) : ∀ {vs : List V} {ds : List α}, A2 R vs ds → A2 S vs ds
  | [], [], _ => trivial
  | _ :: _, _ :: _, h => ⟨f _ _ h.1, A2.mono f h.2⟩
  | [], _ :: _, h => h.elim
  | _ :: _, [], h => h.elim
theorem A2.get : ∀ {vs : List V} {ds : List α} {i : Nat} {v : V}, A2 R vs ds → vs[i]? = some v → ∃ d, ds[i]? = some d ∧ R v d
  | [], [], i, v, _, e => by simp at e
  | w :: _, d :: _, 0, v, h, e => by
    have : w = v := by simpa using e
    exact ⟨d, rfl, this ▸ h.1⟩
  | _ :: _, _ :: _, i + 1, v, h, e => by
    obtain ⟨d, e1, r⟩ := A2.get (i := i) h.2 (by simpa using e)
    exact ⟨d, by simpa using e1, r⟩
  | [], _ :: _, _, _, h, _ => h.elim
  | _ :: _, [], _, _, h, _ => h.elim
theorem A2.app : ∀ {vs ws : List V} {ds es : List α}, A2 R vs ds → A2 R ws es → A2 R (vs ++ ws) (ds ++ es)
  | [], _, [], _, _, k => k
  | _ :: _, _, _ :: _, _, h, k => ⟨h.1, A2.app h.2 k⟩
  | [], _, _ :: _, _, h, _ => h.elim
  | _ :: _, _, [], _, h, _ => h.elim
theorem A2.take : ∀ {vs : List V} {ds : List α} (n : Nat), A2 R vs ds → A2 R (vs.take n) (ds.take n)
  | vs, ds, 0, _ => by simp [A2]
  | [], [], n + 1, _ => trivial
  | _ :: _, _ :: _, n + 1, h => ⟨h.1, A2.take n h.2⟩
  | [], _ :: _, _ + 1, h => h.elim
  | _ :: _, [], _ + 1, h => h.elim
theorem A2.drop : ∀ {vs : List V} {ds : List α} (n : Nat), A2 R vs ds → A2 R (vs.drop n) (ds.drop n)
  | vs, ds, 0, h => by simpa using h
  | [], [], n + 1, _ => trivial
  | _ :: _, _ :: _, n + 1, h => A2.drop n h.2
  | [], _ :: _, _ + 1, h => h.elim
  | _ :: _, [], _ + 1, h => h.elim
end
/-! ### heaps -/
/-- all that was tracked, but what stands at w, is as it was -/
def Fr (w : Addr) (H H' : Hp) : Prop := ∀ b o, b ≠ w → H b = some o → H' b = some o
theorem Fr.refl (w : Addr) (H : Hp) : Fr w H H := fun _ _ _ h => h
theorem Fr.trans {w : Addr} {H H1 H2 : Hp} (a : Fr w H H1) (b : Fr w H1 H2) : Fr w H H2 := fun c o n h => b c o n (a c o n h)
theorem Fr.of {w : Addr} {H H1 : Hp} (a : Same H H1) : Fr w H H1 := fun b o _ h => a b o h
theorem Fr.sqL {K : PySem.W.Frag} {w : Addr} {H H' : Hp} {a : Addr} {xs : List V} (e : Fr w H H') (n : a ≠ w) (h : SqL K H a xs) : SqL K H' a xs := by
  rcases h with h | h
  · refine Or.inl ?_
    rcases h with h | ⟨o, h⟩
    · exact Or.inl (e a _ n h)
    · exact Or.inr ⟨o, e a _ n h⟩
  · exact Or.inr h
theorem Fr.sqT {K : PySem.W.Frag} {w : Addr} {H H' : Hp} {a : Addr} {xs : List V} (e : Fr w H H') (n : a ≠ w) (h : SqT K H a xs) : SqT K H' a xs := by
  rcases h with h | h
  · refine Or.inl ?_
    rcases h with h | ⟨o, h⟩
    · exact Or.inl (e a _ n h)
    · exact Or.inr ⟨o, e a _ n h⟩
  · exact Or.inr h
theorem sameT {K : PySem.W.Frag} {H H' : Hp} {a : Addr} {xs : List V} (e : Same H H') (h : SqT K H a xs) : SqT K H' a xs := by
  rcases h with h | h
  · refine Or.inl ?_
    rcases h with h | ⟨o, h⟩
    · exact Or.inl (e a _ h)
    · exact Or.inr ⟨o, e a _ h⟩
  · exact Or.inr h
theorem same_new {H : Hp} {p : Addr} {o : HO} (h : H p = none) : Same H (upd H p o) := fun b u e => by
  rw [upd_ne (ne_of_none e h)]
  exact e
theorem same_mut {H H' : Hp} {p : Addr} {o : HO} (e : Same H H') (h : H p = none) : Same H (upd H' p o) := fun b u ha => by
  rw [upd_ne (ne_of_none ha h)]
  exact e b u ha
theorem fr_mut {w : Addr} {H H' : Hp} {o : HO} (e : Fr w H H') : Fr w H (upd H' w o) := fun b u n h => by
  rw [upd_ne n]
  exact e b u n h
theorem fr_new {w : Addr} {H H' : Hp} {p : Addr} {o : HO} (e : Fr w H H') (h : H p = none) : Fr w H (upd H' p o) := fun b u n ha => by
  rw [upd_ne (ne_of_none ha h)]
  exact e b u n ha
theorem fr_free {w : Addr} {H H' : Hp} {p : Addr} (e : Fr w H H') (n : p ≠ w) (h : H' p = none) : H p = none := by
  cases z : H p with
  | none => rfl
  | some o =>
    rw [e p o n z] at h
    cases h
/-- ints as values -/
abbrev vi (l : List Int) : List V := l.map V.int
theorem vi_get {l : List Int} {i : Nat} {y : V} (h : (vi l)[i]? = some y) : ∃ z, l[i]? = some z ∧ y = .int z := by
  rw [List.getElem?_map] at h
  cases e : l[i]? with
  | none =>
    rw [e] at h
    cases h
  | some z =>
    rw [e] at h
    exact ⟨z, rfl, (Option.some.inj h).symm⟩
theorem vi_at {l : List Int} {i : Nat} (h : i < l.length) : atI (vi l) (i : Int) = some (.int (l.getD i 0)) := by
  refine atI_nat ?_
  rw [List.getElem?_map, List.getElem?_eq_getElem h, List.getD_eq_getElem?_getD, List.getElem?_eq_getElem h]
  rfl
end KpR

namespace KpR
open PySem PySem.Spec PyProof.Rows L2
def strB (es : Array DictEntry) : Bool := es.toList.all fun e => match e.key with
  | .str _ _ => true
  | _ => false
theorem strB_keys {es : Array DictEntry} (h : strB es = true) : StrKeys es := fun e he => by
  have q := List.all_eq_true.mp h e (by simpa using he)
  cases k : e.key <;> rw [k] at q <;> first | exact ⟨_, _, rfl⟩ | cases q
theorem ns_at {K : PySem.W.Frag} {h : Heap} {N : Addr} {c : Value} {d : Option Addr} {es : Array DictEntry} {m : Nat} {sl : Array (Option Value)} (X : K.In h) (l : K.lookup N = some ⟨c, d, .dict es m, sl⟩) (ok : strB es = true) :
    h.Ns N fun x => nsFind es x := ⟨_, es, m, X _ _ l, rfl, strB_keys ok, fun _ => rfl⟩
theorem find_some {K : PySem.W.Frag} {N : Addr} {c : Value} {d : Option Addr} {es : Array DictEntry} {m : Nat} {sl : Array (Option Value)} {x : Str} {v : Value} (l : K.lookup N = some ⟨c, d, .dict es m, sl⟩)
    (e : PySem.W.nsIn K N x = some (some v)) : nsFind es x = some v := by
  unfold PySem.W.nsIn at e
  rw [l] at e
  dsimp only at e
  unfold nsFind findBy
  rw [← Array.find?_toList]
  cases q : es.toList.find? (fun en => en.key.isStr x) with
  | none =>
    rw [q] at e
    dsimp only at e
    split at e <;> cases e
  | some en =>
    rw [q] at e
    cases e
    rfl
theorem find_none {K : PySem.W.Frag} {N : Addr} {c : Value} {d : Option Addr} {es : Array DictEntry} {m : Nat} {sl : Array (Option Value)} {x : Str} (l : K.lookup N = some ⟨c, d, .dict es m, sl⟩)
    (e : PySem.W.nsIn K N x = some none) : nsFind es x = none := by
  unfold PySem.W.nsIn at e
  rw [l] at e
  dsimp only at e
  unfold nsFind findBy
  rw [← Array.find?_toList]
  cases q : es.toList.find? (fun en => en.key.isStr x) with
  | none => rfl
  | some en =>
    rw [q] at e
    cases e
/-- what the written part says of such a class -/
structure NeCls (K : PySem.W.Frag) (C f : Addr) : Prop where
  ob : ∃ (nm q : Str) (N : Addr) (bs : List Value) (hd : Bool) (sn : List Str) (sub : List Value) (ab : Bool) (col : Option Bool) (dd : Option Addr) (k0 k1 k2 k3 k5 : Option Value) (nid : String),
    K.lookup C = some (excClassObj nm q C N bs [.type "object"] hd sn sub ab col dd k0 k1 k2 k3 k5 nid) ∧
    ∃ (c : Value) (d : Option Addr) (es : Array DictEntry) (m : Nat) (sl : Array (Option Value)), K.lookup N = some ⟨c, d, .dict es m, sl⟩ ∧ strB es = true ∧ PySem.W.nsIn K N "__eq__" = some (some (.ref f)) ∧ PySem.W.nsIn K N "__ne__" = some none
  fn : ∃ of : Obj, K.lookup f = some of ∧ of.cls = .type "function"
def rNeG (D : Eqv) : R2 := fun x y H Q => D x y H ∧ ∀ H', Ext H H' → Q (.bl false) H'
section
variable {X : Cx} {CX : CXT} {n : Nat} {C f : Addr} {fd : FuncData} {ps : List Str} {R : Addr → Addr → Hp → Prop} {E : XK}
theorem op_neOwn (G : FnOk X.prog X.w X.K X.mg X.base CX n f fd ps (spEq R)) (hc : NeCls X.K C f) (hb : Binds X.K fd ps []) (hx : Passes CX X E) (hr : Room (n + 1) X.A) :
    OpR X (compareOp .NotEq) (rNeG (DIns C R)) := by
  intro pins s σ H x y v u Q I rx ry hq
  obtain ⟨⟨a, b, dx, dy, fs, gs, rfl, rfl, ha, hb1, hR⟩, q⟩ := hq
  cases rx
  cases ry
  obtain ⟨mA, J, _⟩ := ins_get I.hok ha
  obtain ⟨mB, J1, _⟩ := ins_get I.hok hb1
  obtain ⟨od, J, _⟩ := J.look
  obtain ⟨od1, J1, _⟩ := J1.look
  obtain ⟨nm, qn, N, bs, hd, sn, sub, ab, col, dd, k0, k1, k2, k3, k5, nid, lC, c1, d1, es, m, sl, lN, sb, lE, lNe⟩ := hc.ob
  obtain ⟨of, lf, cf⟩ := hc.fn
  have KI := I.kIn
  obtain ⟨mN, hn, e1, e2⟩ : ∃ mN : Str → Option Value, s.heap.Ns N mN ∧ mN "__eq__" = some (.ref f) ∧ mN "__ne__" = none := ⟨_, ns_at KI lN sb, find_some lN lE, find_none lN lNe⟩
  have XX : s.heap.OwnEqNoNe a C f "object" [.type "object"] :=
    ⟨_, of, nm, qn, N, bs, hd, sn, sub, ab, col, dd, k0, k1, k2, k3, k5, nid, mN, _, J.at_, J.cls, KI _ _ lC, hn, e1, KI _ _ lf, cf, rfl, rfl, e2⟩
  have e0 := I.env0
  have sp1 : spEq R [.ref a, .ref b] H (fun v H' => v = .bl true ∧ Ext H H') E := ⟨a, b, rfl, hR, fun H' e => ⟨rfl, e⟩⟩
  have ln := G.len _ _ _ _ sp1
  have vals : Vals [V.ref a, V.ref b] [Value.ref a, Value.ref b] := .cons rfl (.cons rfl .nil)
  have hr1 : Room n X.A.in1 := hr.in1
  have f0 : Env0 X.prog X.w X.K X.mg X.base X.A.in1 X.stack s H := ⟨e0.frames, e0.mod, e0.bs, e0.bsz, e0.funs, e0.frf, e0.hok, e0.bare⟩
  have bd := hb s [.ref a, .ref b] KI (by simpa using ln)
  obtain ⟨hp, g, dr, tk, os⟩ := s
  refine compareOp_ne_ownEq F.cmp_object XX J1.at_ J1.cls (hu_of hr) ?_
  refine wpAny_call (codeAny_mono (G.run X.A.in1 X.stack _ H ⟨[.ref a, .ref b], []⟩ [.ref a, .ref b] [.ref a, .ref b] _ E hr1 f0 (by simpa using bd) vals sp1) fun r s1 hq1 => ?_)
  cases r with
  | error e => exact hx pins σ H _ e s1 I hq1
  | ok fl =>
    cases fl with
    | ret w1 =>
      obtain ⟨z, H1, I1, rz, ez, ex⟩ := I.after hq1
      subst ez
      cases rz
      exact ⟨true, rfl, .bl false, H1, I1, rfl, q H1 ex⟩
    | next => exact False.elim hq1
    | brk => exact False.elim hq1
    | cont => exact False.elim hq1
end
end KpR

namespace KpR
open PySem PySem.Spec PyProof.Rows L2
section
variable {prog : Program} {w : World} {A : Around} {E : Value → Shared → Prop} {s : Shared} {K : PySem.W.Frag} {x C f : Addr} {ox : Obj} {od : Option Obj}
theorem dec_tup {l : Addr} {its : Array Value} {n : Nat} {dd : Option Addr} {sl : Array (Option Value)} {Q : Value → Shared → Prop} (hl : s.heap.get? l = some { cls := .type "tuple", dict := dd, data := .seq its n, slots := sl })
    (hx : s.heap.get? x = some ox) (hc : ox.cls = .ref C) (hs : PySem.W.Looks (model prog w) s.heap (isSubtype (.ref C) (.type "tuple")) false) (q : Q .notImplemented s) :
    wpAny (model prog w) A (call (.builtin "tuple.__eq__") [.ref l, .ref x]) Q E s := by
  refine GQ.call_here F.slot_tuple_eq ⟨_, hl, rfl⟩ F.entry_tuple_eq (F.args_tuple_eq_2 _ _) ?_
  obtain ⟨hp, g, d, tk, os⟩ := s
  wp_walk using PySem.AutoSeq1.wpAny_loadPart' hx
  rw [hc]
  refine hs.at ?_
  wp_walk
  exact q
theorem dec_int {i : Int} {t : Tok} {Q : Value → Shared → Prop}
    (hx : s.heap.get? x = some ox) (hd : ∀ p, ox.data ≠ .prim p) (q : Q .notImplemented s) :
    wpAny (model prog w) A (call (.builtin "int.__eq__") [.int i t, .ref x]) Q E s := by
  refine GQ.call_here F.slot_int_eq (typeIs_int s i t) F.entry_int_eq (F.args_int_eq_2 _ _) ?_
  obtain ⟨hp, g, d, tk, os⟩ := s
  wp_walk using PySem.AutoSeq1.wpAny_loadPart' hx, wpAny_load hx
  split
  · rename_i i' t' e
    exact absurd e (hd _)
  · wp_walk
    exact q
theorem dec_non {Q : Value → Shared → Prop} (q : Q .notImplemented s) :
    wpAny (model prog w) A (call (.builtin "NoneType.__eq__") [.none, .ref x]) Q E s :=
  call_gives F.slot_NoneType_eq rfl F.entry_NoneType_eq (F.args_NoneType_eq_2 _ _) (SeqAt.NoneType___eq___none_ref_0 x) q
/-- a value that declines, then the own == of the other side -/
theorem rc_behind {v : Value} {T id : String} {Q : Value → Shared → Prop} (tv : s.TypeIs v T) (X : K.In s.heap) (I : PySem.W.InstAt s.heap x ox C od) (hsub : PySem.W.subIn K (.ref C) (.type T) = some false)
    (h1 : Slot T "__eq__" id) (dec : ∀ Q' : Value → Shared → Prop, Q' .notImplemented s → wpAny (model prog w) A (call (.builtin id) [v, .ref x]) Q' E s) (hs : PySem.W.findIn K (.ref C) "__eq__" = some (some (.ref f))) (hf : PySem.W.isFn K (.ref f) = true)
    (hu : A.units < cLine) (h : wpAny (model prog w) A (call (.ref f) [.ref x, v]) (PySem.W.CmpBack Q) E s) : wpAny (model prog w) A (richCompare .Eq v (.ref x)) Q E s := by
  have one : wpAny (model prog w) A (tryCompare (.ref x) "__eq__" v) (fun r s' => ∃ z, r = some z ∧ Q z s') E s := by
    unfold tryCompare
    refine wpAny_bind (PySem.W.ifBound_K X I hs hf (wpAny_mono h (fun z s' hz => ?_) fun _ _ e => e))
    cases z with
    | notImplemented => exact False.elim hz
    | _ => exact wpAny_pure ⟨_, rfl, hz⟩
  have nz : (Value.type T != Value.ref C) = true := rfl
  simp only [richCompare, cmpInfo_Eq, tv.oneThing_none]
  refine wpAny_holding (wpAny_bind (wpAny_cRoomFor hu ?_))
  refine wpAny_bind (wpAny_typeOf tv (wpAny_bind (I.type.here ?_)))
  rw [if_pos nz]
  refine wpAny_bind ((PySem.W.looks_subIn X hsub).here ?_)
  rw [if_neg Bool.false_ne_true]
  refine wpAny_bind (m := tryCompare v _ (.ref x)) (wpAny_tryCompare_declines tv h1 (dec _ ⟨rfl, ?_⟩))
  rw [if_pos (show (!false) = true from rfl)]
  refine wpAny_bind (m := tryCompare (.ref x) _ v) (wpAny_mono one (fun r s' z => ?_) fun _ _ e => e)
  obtain ⟨z, rfl, hq⟩ := z
  exact wpAny_pure hq
end
/-- an own == that answers b where R says so, and only makes objects -/
def spEqB (R : Addr → V → Bool → Hp → Prop) : Sp := fun vs H Q _ => ∃ a y b, vs = [.ref a, y] ∧ R a y b H ∧ ∀ H', Ext H H' → Q (.bl b) H'
/-- either answer, by the abstract heap -/
abbrev EqvB := V → V → Bool → Hp → Prop
def EqB (X : Cx) (n : Nat) (D : EqvB) : Prop :=
  ∀ (B : Around) (pins : List (Addr × Obj)) (s : Shared) (σ : L2.St) (H : Hp) (x y : V) (b : Bool) (u v : Value), Sub X n B → Inv X pins σ H s → RelV x u → RelV y v → D x y b H →
    wpAny (model X.prog X.w) B (eqBool u v) (fun r s' => r = b ∧ LoopI X pins σ H s') X.xe s
def RcB (X : Cx) (n : Nat) (D : EqvB) : Prop :=
  ∀ (B : Around) (pins : List (Addr × Obj)) (s : Shared) (σ : L2.St) (H : Hp) (x y : V) (b : Bool) (u v : Value), Sub X n B → Inv X pins σ H s → RelV x u → RelV y v → D x y b H →
    wpAny (model X.prog X.w) B (richCompare .Eq u v) (fun r s' => r = .bool b ∧ LoopI X pins σ H s') X.xe s
/-- what the written part says of a class with an own == -/
structure EqCls (K : PySem.W.Frag) (C f : Addr) : Prop where
  hs : PySem.W.findIn K (.ref C) "__eq__" = some (some (.ref f))
  hf : PySem.W.isFn K (.ref f) = true
/-- both are instances, the second of no class below the first one's -/
def DInsB (K : PySem.W.Frag) (C : Addr) (R : Addr → V → Bool → Hp → Prop) : EqvB := fun x y b H => ∃ a c C' dx dy fs gs, x = .ref a ∧ y = .ref c ∧ H a = some (.ins C dx fs) ∧ H c = some (.ins C' dy gs) ∧ PySem.W.notFirst K C (.ref C') = true ∧ R a (.ref c) b H
/-- the first one is none of the class -/
inductive Alien (K : PySem.W.Frag) (C : Addr) (H : Hp) : V → Prop
  | non (h : PySem.W.subIn K (.ref C) (.type "NoneType") = some false) : Alien K C H .non
  | int {i : Int} (h : PySem.W.subIn K (.ref C) (.type "int") = some false) : Alien K C H (.int i)
  | tup {a : Addr} {xs : List V} (h : PySem.W.subIn K (.ref C) (.type "tuple") = some false) (e : H a = some (.tup xs)) : Alien K C H (.ref a)
  | lst {a : Addr} {xs : List V} (h : PySem.W.subIn K (.ref C) (.type "list") = some false) (e : H a = some (.lst xs)) : Alien K C H (.ref a)
def DBehB (K : PySem.W.Frag) (C : Addr) (R : Addr → V → Bool → Hp → Prop) : EqvB := fun x y b H => ∃ a dx fs, y = .ref a ∧ H a = some (.ins C dx fs) ∧ Alien K C H x ∧ R a x b H
section
variable {prog : Program} {w : World} {A : Around} {E : Value → Shared → Prop} {s : Shared} {x C : Addr} {ox : Obj}
theorem dec_lst {l : Addr} {its : Array Value} {n : Nat} {dd : Option Addr} {sl : Array (Option Value)} {Q : Value → Shared → Prop} (hl : s.heap.get? l = some { cls := .type "list", dict := dd, data := .seq its n, slots := sl })
    (hx : s.heap.get? x = some ox) (hc : ox.cls = .ref C) (hs : PySem.W.Looks (model prog w) s.heap (isSubtype (.ref C) (.type "list")) false) (q : Q .notImplemented s) :
    wpAny (model prog w) A (call (.builtin "list.__eq__") [.ref l, .ref x]) Q E s := by
  refine GQ.call_here F.slot_list_eq ⟨_, hl, rfl⟩ F.entry_list_eq (F.args_list_eq_2 _ _) ?_
  obtain ⟨hp, g, d, tk, os⟩ := s
  wp_walk using PySem.AutoSeq1.wpAny_loadPart' hx
  rw [hc]
  refine hs.at ?_
  wp_walk
  exact q
end
section
variable {X : Cx} {CX : CXT} {n : Nat} {C f : Addr} {fd : FuncData} {ps : List Str} {R : Addr → V → Bool → Hp → Prop} {E : XK} {pins : List (Addr × Obj)} {σ : L2.St} {H : Hp} {s : Shared} {B : Around}
theorem own_runB (G : FnOk X.prog X.w X.K X.mg X.base CX n f fd ps (spEqB R)) (hb : Binds X.K fd ps []) (hx : Passes CX X E) (sb : Sub X n B) (I : Inv X pins σ H s) {a : Addr} {y : V} {v : Value} {b : Bool} (ry : RelV y v) (hr : R a y b H) :
    wpAny (model X.prog X.w) B (call (.ref f) [.ref a, v]) (PySem.W.CmpBack fun r s' => r = .bool b ∧ LoopI X pins σ H s') X.xe s := by
  have sp1 : spEqB R [.ref a, y] H (fun z H' => z = .bl b ∧ Ext H H') E := ⟨a, y, b, rfl, hr, fun H' e => ⟨rfl, e⟩⟩
  have e0 := I.env0
  have ln := G.len _ _ _ _ sp1
  have vals : Vals [V.ref a, y] [Value.ref a, v] := .cons rfl (.cons ry .nil)
  have f0 : Env0 X.prog X.w X.K X.mg X.base B X.stack s H := ⟨by rw [sb.fr]; exact e0.frames, e0.mod, e0.bs, e0.bsz, e0.funs, e0.frf, e0.hok, e0.bare⟩
  have bd := hb s [.ref a, v] I.kIn (by simpa using ln)
  refine wpAny_call (codeAny_mono (G.run B X.stack s H ⟨[.ref a, v], []⟩ [.ref a, v] [.ref a, y] _ E sb.room f0 (by simpa using bd) vals sp1) fun r s1 hq1 => ?_)
  cases r with
  | error e => exact hx pins σ H s e s1 I hq1
  | ok fl =>
    cases fl with
    | ret w1 =>
      obtain ⟨z, H1, I1, rz, ez, ex⟩ := I.after hq1
      subst ez
      cases rz
      exact ⟨rfl, H1, I1, ex⟩
    | next => exact False.elim hq1
    | brk => exact False.elim hq1
    | cont => exact False.elim hq1
theorem rcB_ins (hc : EqCls X.K C f) (G : FnOk X.prog X.w X.K X.mg X.base CX n f fd ps (spEqB R)) (hb : Binds X.K fd ps []) (hx : Passes CX X E) : RcB X n (DInsB X.K C R) := by
  intro B pins s σ H x y b u v sb I rx ry hd
  obtain ⟨a, c, C', dx, dy, fs, gs, rfl, rfl, ha, hc1, nf, hr⟩ := hd
  cases rx
  cases ry
  obtain ⟨mA, J, _⟩ := ins_get I.hok ha
  obtain ⟨mC, J1, _⟩ := ins_get I.hok hc1
  obtain ⟨od, J, _⟩ := J.look
  obtain ⟨od1, J1, _⟩ := J1.look
  obtain ⟨m, hF⟩ := I.fr
  exact PySem.W.cmp_K (op := .Eq) (tb := .ref C') sb.room.units0 hF I.ok.mod.kin J J1.type nf hc.hs hc.hf (own_runB (y := .ref c) (v := .ref c) G hb hx sb I rfl hr)
theorem rcB_beh (hc : EqCls X.K C f) (G : FnOk X.prog X.w X.K X.mg X.base CX n f fd ps (spEqB R)) (hb : Binds X.K fd ps []) (hx : Passes CX X E) : RcB X n (DBehB X.K C R) := by
  intro B pins s σ H x y b u v sb I rx ry hd
  obtain ⟨a, dx, fs, rfl, ha, al, hr⟩ := hd
  cases ry
  obtain ⟨mA, J, _⟩ := ins_get I.hok ha
  obtain ⟨od, J, _⟩ := J.look
  have go := fun {v : Value} (rv : RelV x v) => own_runB G hb hx sb I rv hr
  cases al with
  | non h =>
    cases (show u = Value.none from rx)
    exact rc_behind rfl I.kIn J h F.slot_NoneType_eq (fun _ q => dec_non q) hc.hs hc.hf sb.room.units0 (go rfl)
  | int h =>
    obtain ⟨t, e⟩ := (show ∃ t, u = Value.int _ t from rx)
    cases e
    exact rc_behind (typeIs_int s _ t) I.kIn J h F.slot_int_eq (fun _ q => dec_int J.at_ (fun _ z => nomatch z) q) hc.hs hc.hf sb.room.units0 (go ⟨t, rfl⟩)
  | tup h e =>
    cases (show u = Value.ref _ from rx)
    obtain ⟨its, r, ⟨⟨cl, dd, dt, sl⟩, e1, e2, k, e3⟩, _⟩ := I.tuple (SqT.of e)
    simp only at e2 e3
    subst e2 e3
    exact rc_behind ⟨_, e1, rfl⟩ I.kIn J h F.slot_tuple_eq (fun _ q => dec_tup e1 J.at_ rfl (PySem.W.looks_subIn I.kIn h) q) hc.hs hc.hf sb.room.units0 (go rfl)
  | lst h e =>
    cases (show u = Value.ref _ from rx)
    obtain ⟨z, its, k, r, e1⟩ := I.hok _ _ e
    exact rc_behind ⟨_, e1, rfl⟩ I.kIn J h F.slot_list_eq (fun _ q => dec_lst e1 J.at_ rfl (PySem.W.looks_subIn I.kIn h) q) hc.hs hc.hf sb.room.units0 (go rfl)
end
section
variable {X : Cx} {n m : Nat} {D D' : EqvB}
theorem RcB.or (h : RcB X n D) (h' : RcB X n D') : RcB X n (fun x y b H => D x y b H ∨ D' x y b H) := fun B pins s σ H x y b u v sb I rx ry d =>
  d.elim (h B pins s σ H x y b u v sb I rx ry) (h' B pins s σ H x y b u v sb I rx ry)
theorem EqB.or (h : EqB X n D) (h' : EqB X n D') : EqB X n (fun x y b H => D x y b H ∨ D' x y b H) := fun B pins s σ H x y b u v sb I rx ry d =>
  d.elim (h B pins s σ H x y b u v sb I rx ry) (h' B pins s σ H x y b u v sb I rx ry)
theorem RcB.mono (h : RcB X n D) (k : n ≤ m) : RcB X m D := fun B pins s σ H x y b u v sb => h B pins s σ H x y b u v (sb.mono k)
/-- inside a list or a tuple: the same object is itself -/
theorem RcB.eqB (h : RcB X n D) (hr : ∀ x y b H, D x y b H → (∃ c, x = .ref c ∧ ∃ a, y = .ref a ∧ (c = a → b = true)) ∨ ((x = .non ∨ ∃ i, x = .int i) ∧ ∃ a, y = .ref a)) : EqB X n D := by
  intro B pins s σ H x y b u v sb I rx ry d
  have go : u ≠ v → (∀ p q, ¬ (u = .float p q)) → wpAny (model X.prog X.w) B (eqBool u v) (fun r s' => r = b ∧ LoopI X pins σ H s') X.xe s := by
    intro ne nf
    unfold eqBool
    refine wpAny_holding ?_
    refine wpAny_ite_split (fun e => absurd (eq_of_beq e) ne) (fun _ => ?_)
    have k := h B pins s σ H x y b u v sb I rx ry d
    have k2 : wpAny (model X.prog X.w) B (do truthOfDropped (← richCompare .Eq u v)) (fun r s' => r = b ∧ LoopI X pins σ H s') X.xe s := by
      refine wpAny_bind (wpAny_mono k (fun z s' q => ?_) fun _ _ e => e)
      obtain ⟨rfl, q⟩ := q
      exact wpAny_truthy_bool ⟨rfl, q⟩
    cases u with
    | float p q => exact absurd rfl (nf p q)
    | _ => exact k2
  rcases hr x y b H d with ⟨c, rfl, a, rfl, q⟩ | ⟨hx, a, rfl⟩
  · cases (show u = Value.ref c from rx)
    cases (show v = Value.ref a from ry)
    by_cases e : c = a
    · have eb := q e
      subst e
      subst eb
      exact SeqAt.EqAt.same (A := B) (s := s) (.ref c) X.prog X.w X.xe _ ⟨rfl, H, I, Ext.rfl'⟩
    · exact go (fun z => e (Value.ref.inj z)) (fun _ _ z => nomatch z)
  · cases (show v = Value.ref a from ry)
    rcases hx with rfl | ⟨i, rfl⟩
    · cases (show u = Value.none from rx)
      exact go (fun z => nomatch z) (fun _ _ z => nomatch z)
    · obtain ⟨t, e⟩ := (show ∃ t, u = Value.int i t from rx)
      cases e
      exact go (fun z => nomatch z) (fun _ _ z => nomatch z)
/-- x == y -/
def rEqB (D : EqvB) : R2 := fun x y H Q => ∃ b, D x y b H ∧ ∀ H', Ext H H' → Q (.bl b) H'
theorem op_eqB (h : RcB X n D) (hr : Room n X.A) : OpR X (compareOp .Eq) (rEqB D) := by
  intro pins s σ H x y v u Q I rx ry hq
  obtain ⟨b, d, q⟩ := hq
  show wpAny (model X.prog X.w) X.A (richCompare .Eq v u) (EP X pins σ Q) X.xe s
  refine wpAny_mono (h X.A pins s σ H x y b v u ⟨hr, rfl⟩ I rx ry d) (fun r s1 z => ?_) fun _ _ e => e
  obtain ⟨rfl, H1, I1, e⟩ := z
  exact ⟨.bl b, H1, I1, rfl, q H1 e⟩
/-- x in a list none of whose items is equal to it -/
def rOutB (D : EqvB) : R2 := fun x y H Q => ∃ l ys, y = .ref l ∧ (∀ H', Ext H H' → H' l = some (.lst ys)) ∧ (∀ z, z ∈ ys → ∀ H', Ext H H' → D z x false H') ∧ ∀ H', Ext H H' → Q (.bl false) H'
theorem has_none (h : EqB X n D) {B : Around} (sb : Sub X (n + 1) B) {pins : List (Addr × Obj)} {σ : L2.St} {H : Hp} {x : V} {v : Value} {l : Addr} {ys : List V} (rx : RelV x v) (hl : ∀ H', Ext H H' → H' l = some (.lst ys)) (hd : ∀ z, z ∈ ys → ∀ H', Ext H H' → D z x false H')
    {Q : Value → Shared → Prop} (fin : ∀ s', LoopI X pins σ H s' → Q (.bool false) s') (k : Nat) : ∀ i : Nat, ys.length - i = k → ∀ s, LoopI X pins σ H s →
      wpAny (model X.prog X.w) B.in1 (Builtin.«list.__contains__.loop» ⟨[.ref l, v, rawInt i], []⟩) (GQ.FinOf X.prog X.w B (wants Q X.xe)) (fun e s' => wants Q X.xe (.error e) s') s := by
  induction k with
  | zero =>
    intro i hi s hs
    obtain ⟨H1, I1, e1⟩ := id hs
    obtain ⟨z, its, kk, r, eo⟩ := I1.hok _ _ (hl H1 e1)
    have out := fin s hs
    have no : its.toArray[((i : Nat) : Int).toNat]? = none := by
      have q := r.length
      simp
      omega
    obtain ⟨hp, g, d, tk, os⟩ := s
    wp_walk using PySem.AutoSeq1.wpAny_loadPart' eo
    rw [no]
    wp_walk
    exact out
  | succ k ih =>
    intro i hi s hs
    obtain ⟨H1, I1, e1⟩ := id hs
    obtain ⟨z, its, kk, r, eo⟩ := I1.hok _ _ (hl H1 e1)
    have lt : i < ys.length := by omega
    have lt2 : i < its.length := by rw [← r.length] <;> exact lt
    have so : its.toArray[((i : Nat) : Int).toNat]? = some its[i] := by simp [lt2]
    obtain ⟨u, hu, ru⟩ := r.get (List.getElem?_eq_getElem lt)
    have eu : its[i] = u := by
      rw [List.getElem?_eq_getElem lt2] at hu
      exact Option.some.inj hu
    have turn := h B.in1 pins s σ H1 _ x false u v sb.in1 I1 ru rx (hd _ (List.getElem_mem lt) H1 e1)
    obtain ⟨hp, g, d, tk, os⟩ := s
    wp_walk using PySem.AutoSeq1.wpAny_loadPart' eo
    rw [so, eu]
    refine wpAny_bind (wpAny_mono turn (fun rr s2 q => ?_) fun _ _ e => e)
    obtain ⟨rfl, H2, I2, e2⟩ := q
    have next := ih (i + 1) (by omega) s2 ⟨H2, I2, e1.trans e2⟩
    have up : ((i : Int) + 1) = ((i + 1 : Nat) : Int) := by omega
    obtain ⟨hp2, g2, d2, tk2, os2⟩ := s2
    wp_walk
    rw [up]
    exact ⟨plainId_quiet MeetsSeq.plain_contains_loop _, codeAny_builtin MeetsSeq.entry_contains_loop (by
      rw [Around.under_plainId MeetsSeq.plain_contains_loop _]
      exact next)⟩
theorem op_outB (h : EqB X n D) (hr : Room (n + 1) X.A) : OpR X (compareOp .In) (rOutB D) := by
  intro pins s σ H x y v u Q I rx ry hq
  obtain ⟨l, ys, rfl, hl, hd, q⟩ := hq
  cases (show u = Value.ref l from ry)
  obtain ⟨z, its, kk, r, eo⟩ := I.hok _ _ (hl H Ext.rfl')
  show wpAny (model X.prog X.w) X.A (do return .bool (← contains (.ref l) v)) (EP X pins σ Q) X.xe s
  have end_ : ∀ s', LoopI X pins σ H s' → EP X pins σ Q (.bool false) s' := fun s' ⟨H1, I1, e1⟩ => ⟨.bl false, H1, I1, rfl, q H1 e1⟩
  have run := has_none (B := X.A) h ⟨hr, rfl⟩ rx hl hd (Q := fun r s' => r = .bool false ∧ LoopI X pins σ H s') (fun s' z => ⟨rfl, z⟩) _ 0 rfl s ⟨H, I, Ext.rfl'⟩
  refine wpAny_bind (wpAny_contains_slot (id := "list.__contains__") ⟨_, eo, rfl⟩ F.slot_list_contains (wpAny_mono (GQ.call_here (Q := fun r s' => r = .bool false ∧ LoopI X pins σ H s') F.slot_list_contains ⟨_, eo, rfl⟩ F.entry_list_contains (F.args_list_contains_2 _ _) ?_) (fun r s' z => ?_) fun _ _ e => e))
  · obtain ⟨hp, g, d, tk, os⟩ := s
    wp_walk
    exact ⟨plainId_quiet MeetsSeq.plain_contains_loop _, codeAny_builtin MeetsSeq.entry_contains_loop (by
      rw [Around.under_plainId MeetsSeq.plain_contains_loop _]
      exact run)⟩
  · obtain ⟨rfl, z⟩ := z
    exact wpAny_truthy_bool (wpAny_pure (end_ s' z))
end
end KpR

namespace KpR
open PySem PySem.Spec PyProof.Rows L2
/-- a callee of which nothing comes -/
theorem passF {X : Cx} : Passes (L2.CX X.prog X.w) X (fun _ _ _ => False) := fun _ _ _ _ _ _ _ ⟨_, _, _, _, _, _, _, _, _, _, _, _, z⟩ => z.elim
/-- what a callee in a try's body may raise: whatever the locals are -/
def anyL (n : Nat) (W : WX) : XK := fun cls d H => ∀ σ : L2.St, σ.length = n → W cls d σ H
theorem passL {X : Cx} {W : WX} {n : Nat} (tk : Takes X W) (hn : X.N.length = n) : Passes (L2.CX X.prog X.w) X (anyL n W) := fun _ σ _ _ e s' I c => tk e s' (XE.of_call I (fun _ _ _ h => h σ (by rw [← hn] <;> exact I.len)) c)
/-- a call by keywords of a def without defaults -/
theorem kbOf {K : PySem.W.Frag} {fd : FuncData} {ps ks : List Str} {n : Nat} {g : List Value → List Value → List Value} {gV : List V → List V → List V}
    (h : ∀ us ws : List Value, us.length = n → ws.length = ks.length → bindArgs fd ⟨us, ks.zip ws⟩ = pure (ps.zip (g us ws))) (r : ∀ {vs : List V} {us : List Value} {zs : List V} {ws : List Value}, Vals vs us → Vals zs ws → Vals (gV vs zs) (g us ws)) : KBn K fd ps n ks g gV :=
  ⟨fun s us ws _ l1 l2 => .of_eq (h us ws l1 l2), r⟩
/-- a builtin's type against an own class -/
theorem kit_tc {K : PySem.W.Frag} {T : String} {C : Addr} {b : Bool} (h1 : PySem.W.isClsIn K C = true) (h2 : PySem.W.typeIn K (.ref C) = some (.type "type")) (h3 : PySem.W.subIn K (.type T) (.ref C) = some b) : PySem.W.kitOne K (.type T) (.ref C) = some b := by
  have ne : ¬ (Value.type T == Value.ref C) = true := fun z => nomatch eq_of_beq z
  unfold PySem.W.kitOne
  rw [if_neg ne]
  show (if ((PySem.W.clsIn K C).isSome && PySem.W.typeIn K (.ref C) == some (.type "type")) = true then PySem.W.subIn K (.type T) (.ref C) else none) = some b
  rw [show (PySem.W.clsIn K C).isSome = true from h1, h2, if_pos (by rfl)]
  exact h3
/-- the first clause takes it -/
def wFst (K : PySem.W.Frag) (c : Value) (i : Nat) (tz : Addr → Value → Option Addr → TS) (D : Ends) : WX := fun cls d σ H =>
  PySem.W.exmOne K cls c = some true ∧ ∀ a, H a = none → tz a cls d ⟨fun τ G => D.nx (τ.set i none) G, D.rt, fun τ G => D.bk (τ.set i none) G, fun τ G => D.ct (τ.set i none) G⟩ (σ.set i (some (.ref a))) H
section
variable {X : Cx} {x n : Str} {c : Value} {i : Nat} {body rest : List Stmt} {z₀ : Stmt} {more : List ExceptHandler} {pn pt pw : Pos} {tb : WX → TS} {tz : Addr → Value → Option Addr → TS}
theorem ps_try_fst (st : X.stack = X.env :: X.outer) (fr : X.env.frame = some X.env.locals) (nd : X.N.Nodup) (at_ : X.N[i]? = some n) (lo : X.env.kindOf n = some .local) (nm : Names X x c)
    (bd : ∀ (W : WX) (qn : List (Addr × Obj)) (xe : Value → Shared → Prop), Takes (X.tr qn xe) W → PassesOwn (model X.prog X.w) X.A X.env xe → PSs (X.tr qn xe) body (tb W))
    (su : ∀ (e : Addr) (oe : Obj) (cls : Value) (d : Option Addr) (qn : List (Addr × Obj)), Zc cls d oe → (∃ fs, oe.data = .fields fs) → PSs (X.suite e ((e, oe) :: qn)) (z₀ :: rest) (tz e cls d)) :
    PS X (.Try body (.ExceptHandler (some (.Name x pn)) (some n) (z₀ :: rest) pw :: more) [] [] pt) (fun D σ H => tb (wFst X.K c i tz D) D σ H) := by
  refine ⟨fun pins s σ H D I hyp => ?_⟩
  have okX := I.ok
  have afr : X.A.frames = some (X.env :: X.outer) := by rw [okX.frames, st]
  have lcl : Loc X.env.scope n := .inl lo
  let hs := ExceptHandler.ExceptHandler (some (.Name x pn)) (some n) (z₀ :: rest) pw :: more
  refine wpAny_Try_except ?_
  refine wpAny_mono ((bd (wFst X.K c i tz D) (X.pn ++ pins) (fun e t1 => wpAny (model X.prog X.w) X.A (noteFrame e X.env) (fun _ t2 => wpAny (model X.prog X.w) X.A (setFlight e none) (fun _ t3 =>
    wpAny (model X.prog X.w) X.A (handleBy e X.env hs) (SP X pins D) X.xe t3) X.xe t2) X.xe t1) (fun u t air => ?_) PassesOwn.looking).run [] s σ H D (I.toTry _) hyp) (fun f t done => ?_) (fun _ _ air => air)
  · obtain ⟨e, G, sI, pq, τ, H1, cls, d, rfl, J0, near, upS, sky0, free, osE, bare, hit, go⟩ := air
    have J : Inv X pins τ H1 sI := J0.ofTry okX
    have sky : Sky G (X.env :: X.outer) e (Zc cls d) X.env.locals t.heap := by rw [← st] <;> exact sky0
    show wpAny (model X.prog X.w) X.A (noteFrame (.ref e) X.env) _ _ _
    refine Sky.land Zc.steady afr fr sky fun hp1 fly1 up1 => ?_
    have J1 : Inv X pins τ H1 { t with heap := hp1 } := J.landed near fly1.1 (upS.trans up1) osE bare
    obtain ⟨o1, fs1, at1, z1, dat1⟩ := fly1.there
    have off : e ∉ frs (X.env :: X.outer) := fun mem => by
      obtain ⟨_, o2, at2, no2⟩ := fly1.2.2.1.mem mem
      have q : o1 = o2 := Option.some.inj (at1.symm.trans at2)
      subst q
      exact no2 _ dat1
    have offL : e ≠ X.env.locals := fun q => off (List.mem_filterMap.mpr ⟨X.env, List.mem_cons_self, by rw [fr, q]⟩)
    have offF : e ∉ X.fs := fun mem => by
      obtain ⟨y, hy, q⟩ := List.mem_filterMap.mp mem
      exact off (List.mem_filterMap.mpr ⟨y, List.mem_cons_of_mem _ hy, q⟩)
    have S1 := J1.suite at1 dat1 free offL offF
    refine wpAny_handleBy_cons (codeAny_handlers_test ?_) (fun q => nomatch q)
    have ty : PySem.W.Looks (model X.prog X.w) hp1 (typeOf (.ref e)) cls := fun A Q E s k q => wpAny_typeOf_ref (k _ _ at1) (by rw [z1.1] <;> exact q)
    have mt := PySem.W.exm_one (M := model X.prog X.w) (J1.kIn) ty hit
    have look : ∀ {Q : Value → Shared → Prop} {E : Value → Shared → Prop}, Q c { t with heap := hp1 } → wpAny (model X.prog X.w) (X.A.mark (some (.ref e))) (eval (.Name x pn) X.env) Q E { t with heap := hp1 } := fun {Q E} q => by
      obtain ⟨gl, nd2, own | ⟨none_, boot, nn⟩⟩ := nm
      · exact ld_glob (X := X.suite e ((e, o1) :: (X.pn ++ pins))) S1 gl own q nd2
      · exact ld_blt (X := X.suite e ((e, o1) :: (X.pn ++ pins))) S1 gl none_ boot q nn nd2
    refine look (mt.here ?_)
    refine codeAny_handlers_suite_as ?_
    refine HandSPX.lands_againZ fly1 fun hp2 fly2 up2 => ?_
    have J2 : Inv X pins τ H1 { t with heap := hp2 } := J.landed near fly2.1 ((upS.trans up1).trans up2) osE bare
    obtain ⟨o2, fs2, at2, z2, dat2⟩ := fly2.there
    have S2 := J2.suite at2 dat2 free offL offF
    refine store_ok (X := X.suite e ((e, o2) :: (X.pn ++ pins))) (v := .ref e) S2 nd at_ lcl rfl (fun t2 S3 => ?_) (.inr lo)
    refine wpAny_mono ((su e o2 cls d (X.pn ++ pins) z2 ⟨_, dat2⟩).run [] t2 _ H1 _ S3 (go e free)) (fun f t3 out => ?_) (fun _ _ q => False.elim q)
    have fin : ∀ {τ1 : L2.St} {H2 : Hp} {R : Shared → Prop}, Inv (X.suite e ((e, o2) :: (X.pn ++ pins))) [] τ1 H2 t3 → (∀ t4, Inv X pins (τ1.set i none) H2 t4 → R t4) →
        wpAny (model X.prog X.w) X.A (do bindName X.env n .none; unbindBehindTheSuite X.env n pw) (fun _ t4 => R t4) X.xe t3 := fun {τ1 H2 R} S4 q => gone_ok (S4.unsuite okX) nd at_ lo q
    match f, out with
    | .next, ⟨_, _, S4, q⟩ => exact fin S4 fun _ J4 => ⟨_, _, J4, q⟩
    | .brk, ⟨_, _, S4, q⟩ => exact fin S4 fun _ J4 => ⟨_, _, J4, q⟩
    | .cont, ⟨_, _, S4, q⟩ => exact fin S4 fun _ J4 => ⟨_, _, J4, q⟩
    | .ret u, ⟨_, _, _, S4, ru, q⟩ => exact fin S4 fun _ J4 => ⟨_, _, _, J4, ru, q⟩
  · match f, done with
    | .next, ⟨_, _, J4, q⟩ => exact wpAny_execs_nil ⟨_, _, J4.ofTry okX, q⟩
    | .brk, ⟨_, _, J4, q⟩ => exact ⟨_, _, J4.ofTry okX, q⟩
    | .cont, ⟨_, _, J4, q⟩ => exact ⟨_, _, J4.ofTry okX, q⟩
    | .ret u, ⟨_, _, _, J4, ru, q⟩ => exact ⟨_, _, _, J4.ofTry okX, ru, q⟩
end
/-- what the written part says of a class with an own == and the != of object, anywhere below object -/
structure NeK (K : PySem.W.Frag) (C f : Addr) : Prop where
  hn : PySem.W.findIn K (.ref C) "__ne__" = some (some (.builtin "object.__ne__"))
  hm : PySem.W.mroIn K C (.type "object") = some true
  hs : PySem.W.findIn K (.ref C) "__eq__" = some (some (.ref f))
  hf : PySem.W.isFn K (.ref f) = true
section
variable {prog : Program} {w : World} {A : Around} {E : Value → Shared → Prop} {s : Shared} {K : PySem.W.Frag} {x y C f : Addr} {ox oy : Obj} {od : Option Obj}
theorem objNe_own {Q : Fin → Shared → Prop} (X : K.In s.heap) (I : PySem.W.InstAt s.heap x ox C od) (c : NeK K C f) (hu : A.units < cLine)
    (h : wpAny (model prog w) A (call (.ref f) [.ref x, .ref y]) (fun v s1 => ∃ b, v = .bool b ∧ Q (.done (.ret (.bool (!b)))) s1) E s) : wpAny (model prog w) A (Builtin.«object.__ne__» ⟨[.ref x, .ref y], []⟩) Q E s := by
  have one : wpAny (model prog w) A (callSpecialIfBound? (.ref x) "__eq__" [.ref y]) (fun r s1 => ∃ b, r = some (.bool b) ∧ Q (.done (.ret (.bool (!b)))) s1) E s :=
    PySem.W.ifBound_K X I c.hs c.hf (wpAny_mono h (fun v s1 ⟨b, e, q⟩ => ⟨b, congrArg some e, q⟩) fun _ _ e => e)
  obtain ⟨hp, g, d, tk, os⟩ := s
  unfold Builtin.«object.__ne__»
  repeat (first
    | with_reducible refine wpAny_cRoomFor hu ?_
    | (refine wpAny_bind (m := callSpecialIfBound? (.ref x) (Str.ofString "__eq__") [.ref y]) (wpAny_mono one (fun r s1 hr => by
          obtain ⟨b, rfl, hq⟩ := hr
          repeat (first | exact hq | exact wpAny_pure hq | exact wpAny_truthy_bool hq | (refine wpAny_bind (m := truthy (.bool _)) (wpAny_truthy_bool ?_)) | wp_step)) fun _ _ e => e))
    | wp_step)
theorem call_objNe {Q : Value → Shared → Prop} (X : K.In s.heap) (I : PySem.W.InstAt s.heap x ox C od) (c : NeK K C f) (hu : A.in1.units < cLine)
    (h : wpAny (model prog w) A.in1 (call (.ref f) [.ref x, .ref y]) (fun v s1 => ∃ b, v = .bool b ∧ Q (.bool (!b)) s1) E s) : wpAny (model prog w) A (call (.builtin "object.__ne__") [.ref x, .ref y]) Q E s :=
  wpAny_call (codeAny_call_builtin F.cmp_object.ne.plain F.cmpEntry_ne (PySem.W.check_slot F.cmpKind_ne F.cmpSplit_ne (I.type.andThen (PySem.W.looks_mroIn X c.hm)) (F.cmpArgs_ne _ _) (objNe_own X I c hu h)))
theorem rc_neK {Q : Value → Shared → Prop} (X : K.In s.heap) (I : PySem.W.InstAt s.heap x ox C od) (c : NeK K C f) (hy : s.heap.get? y = some oy) (cy : oy.cls = .ref C) (hu : A.units + 1 < cLine)
    (h : wpAny (model prog w) A.in1 (call (.ref f) [.ref x, .ref y]) (fun v s1 => ∃ b, v = .bool b ∧ Q (.bool (!b)) s1) E s) : wpAny (model prog w) A (richCompare .NotEq (.ref x) (.ref y)) Q E s := by
  have hu0 : A.units < cLine := Nat.lt_of_succ_lt hu
  have run : wpAny (model prog w) A (callSpecialIfBound? (.ref x) "__ne__" [.ref y]) (fun r s1 => ∃ b, r = some (.bool b) ∧ Q (.bool b) s1) E s := by
    simp only [callSpecialIfBound?, bindSpecialIfBound?]
    refine wpAny_holding (wpAny_bind (wpAny_bind (wpAny_bind (I.type.here ((PySem.W.looks_findIn X c.hn).here ?_)))))
    refine wpAny_bind (wpAny_askSetting (wpAny_ite ?_))
    have fin : wpAny (model prog w) A (call (.builtin "object.__ne__") ([.ref x] ++ [.ref y]) >>= fun v => pure (some v)) (fun r s1 => ∃ b, r = some (.bool b) ∧ Q (.bool b) s1) E s :=
      wpAny_bind (wpAny_mono (call_objNe (Q := fun v s1 => ∃ b, v = .bool b ∧ Q (.bool b) s1) X I c hu (wpAny_mono h (fun v s1 ⟨b, e, q⟩ => ⟨b, e, _, rfl, q⟩) fun _ _ e => e)) (fun v s1 ⟨b, e, q⟩ => wpAny_pure ⟨b, congrArg some e, q⟩) fun _ _ e => e)
    split
    · exact wpAny_bind (wpAny_of_eq (F.cmp_object.ne.bind _) (wpAny_pure (by exact fin)))
    · exact wpAny_tryCatch (wpAny_bind (wpAny_of_eq (F.cmp_object.ne.bind _) (wpAny_pure (by exact fin))))
  have one : wpAny (model prog w) A (tryCompare (.ref x) "__ne__" (.ref y)) (fun r s1 => ∃ b, r = some (.bool b) ∧ Q (.bool b) s1) E s := by
    unfold tryCompare
    refine wpAny_bind (wpAny_mono run (fun r s1 z => ?_) fun _ _ e => e)
    obtain ⟨b, rfl, q⟩ := z
    exact wpAny_pure ⟨b, rfl, q⟩
  unfold richCompare
  simp only [oneThing_ref]
  refine wpAny_holding (wpAny_bind (wpAny_cRoomFor hu0 ?_))
  rw [cmpInfo_NotEq]
  dsimp only
  refine wpAny_bind (I.type.here (wpAny_bind (wpAny_typeOf_ref hy ?_)))
  rw [cy, show (Value.ref C != Value.ref C) = false from by simp]
  simp only [Bool.false_eq_true, if_false]
  refine wpAny_bind (wpAny_pure ?_)
  simp only [Bool.false_eq_true, if_false]
  refine wpAny_bind (wpAny_mono one (fun r s1 z => ?_) fun _ _ e => e)
  obtain ⟨b, rfl, q⟩ := z
  exact wpAny_pure q
end
section
variable {X : Cx} {CX : CXT} {n : Nat} {C f : Addr} {fd : FuncData} {ps : List Str} {R : Addr → V → Bool → Hp → Prop} {E : XK}
/-- x != y of two instances of one such class -/
def rNeK (C : Addr) (R : Addr → V → Bool → Hp → Prop) : R2 := fun x y H Q => ∃ a c b dx dy fs gs, x = .ref a ∧ y = .ref c ∧ H a = some (.ins C dx fs) ∧ H c = some (.ins C dy gs) ∧ R a (.ref c) b H ∧ ∀ H', Ext H H' → Q (.bl (!b)) H'
theorem op_neK (G : FnOk X.prog X.w X.K X.mg X.base CX n f fd ps (spEqB R)) (hc : NeK X.K C f) (hb : Binds X.K fd ps []) (hx : Passes CX X E) (hr : Room (n + 1) X.A) : OpR X (compareOp .NotEq) (rNeK C R) := by
  intro pins s σ H x y v u Q I rx ry hq
  obtain ⟨a, c, b, dx, dy, fs, gs, rfl, rfl, ha, hc1, hR, q⟩ := hq
  cases rx
  cases ry
  obtain ⟨mA, J, _⟩ := ins_get I.hok ha
  obtain ⟨mC, J1, _⟩ := ins_get I.hok hc1
  obtain ⟨od, J, _⟩ := J.look
  obtain ⟨od1, J1, _⟩ := J1.look
  have r1 : Room n X.A.in1 := hr.in1
  have go := own_runB (B := X.A.in1) (y := .ref c) (v := .ref c) G hb hx ⟨r1, rfl⟩ I rfl hR
  show wpAny (model X.prog X.w) X.A (richCompare .NotEq (.ref a) (.ref c)) (EP X pins σ Q) X.xe s
  refine rc_neK I.kIn J hc J1.at_ J1.cls (hu_of hr) (wpAny_mono go (fun r s1 z => ?_) fun _ _ e => e)
  cases r with
  | notImplemented => exact False.elim z
  | bool b' =>
    obtain ⟨e, H1, I1, ex⟩ := z
    cases e
    exact ⟨_, rfl, .bl _, H1, I1, rfl, q H1 ex⟩
  | _ => exact (nomatch z.1)
end
end KpR

namespace KpR
open PySem PySem.Spec PyProof.Rows L2
/-- clause by clause: class, the name's slot, the suite's reading; at the end: what is asked where none takes it -/
def wNam (K : PySem.W.Frag) (Wend : WX) (D : Ends) : List (Value × Nat × (Addr → Value → Option Addr → TS)) → WX
  | [] => Wend
  | (c, i, tz) :: r => fun cls d σ H => ∃ b, PySem.W.exmOne K cls c = some b ∧
    (b = true → ∀ a, H a = none → tz a cls d ⟨fun τ G => D.nx (τ.set i none) G, D.rt, fun τ G => D.bk (τ.set i none) G, fun τ G => D.ct (τ.set i none) G⟩ (σ.set i (some (.ref a))) H) ∧ (b = false → wNam K Wend D r cls d σ H)
/-- the clauses that are looked at; more: those behind them, that are never looked at (Wend is then False) -/
inductive NamOk (X : Cx) (more : List ExceptHandler) : List ExceptHandler → List (Value × Nat × (Addr → Value → Option Addr → TS)) → Prop
  | nil : NamOk X more more []
  | cons {x n : Str} {c : Value} {i : Nat} {tz : Addr → Value → Option Addr → TS} {z₀ : Stmt} {rest : List Stmt} {pn pw : Pos} {hs : List ExceptHandler} {l : List (Value × Nat × (Addr → Value → Option Addr → TS))}
      (at_ : X.N[i]? = some n) (lo : X.env.kindOf n = some .local) (nm : Names X x c)
      (su : ∀ (e : Addr) (oe : Obj) (cls : Value) (d : Option Addr) (qn : List (Addr × Obj)), Zc cls d oe → (∃ fs, oe.data = .fields fs) → PSs (X.suite e ((e, oe) :: qn)) (z₀ :: rest) (tz e cls d)) (r : NamOk X more hs l) :
      NamOk X more (.ExceptHandler (some (.Name x pn)) (some n) (z₀ :: rest) pw :: hs) ((c, i, tz) :: l)
section
variable {X : Cx} {body : List Stmt} {more : List ExceptHandler} {h₀ : ExceptHandler} {hds : List ExceptHandler} {l : List (Value × Nat × (Addr → Value → Option Addr → TS))} {pt : Pos} {tb : WX → TS}
theorem ps_try_nam (st : X.stack = X.env :: X.outer) (fr : X.env.frame = some X.env.locals) (nd : X.N.Nodup)
    (bd : ∀ (W : WX) (qn : List (Addr × Obj)) (xe : Value → Shared → Prop), Takes (X.tr qn xe) W → PassesOwn (model X.prog X.w) X.A X.env xe → PSs (X.tr qn xe) body (tb W))
    (hk : NamOk X more (h₀ :: hds) l) : PS X (.Try body (h₀ :: hds) [] [] pt) (fun D σ H => tb (wNam X.K (fun _ _ _ _ => False) D l) D σ H) := by
  refine ⟨fun pins s σ H D I hyp => ?_⟩
  have okX := I.ok
  have afr : X.A.frames = some (X.env :: X.outer) := by rw [okX.frames, st]
  refine wpAny_Try_except ?_
  refine wpAny_mono ((bd (wNam X.K (fun _ _ _ _ => False) D l) (X.pn ++ pins) (fun e t1 => wpAny (model X.prog X.w) X.A (noteFrame e X.env) (fun _ t2 => wpAny (model X.prog X.w) X.A (setFlight e none) (fun _ t3 =>
    wpAny (model X.prog X.w) X.A (handleBy e X.env (h₀ :: hds)) (SP X pins D) X.xe t3) X.xe t2) X.xe t1) (fun u t air => ?_) PassesOwn.looking).run [] s σ H D (I.toTry _) hyp) (fun f t done => ?_) (fun _ _ air => air)
  · obtain ⟨e, G, sI, pq, τ, H1, cls, d, rfl, J0, near, upS, sky0, free, osE, bare, want⟩ := air
    have J : Inv X pins τ H1 sI := J0.ofTry okX
    have sky : Sky G (X.env :: X.outer) e (Zc cls d) X.env.locals t.heap := by rw [← st] <;> exact sky0
    show wpAny (model X.prog X.w) X.A (noteFrame (.ref e) X.env) _ _ _
    refine Sky.land Zc.steady afr fr sky fun hp1 fly1 up1 => ?_
    have J1 : Inv X pins τ H1 { t with heap := hp1 } := J.landed near fly1.1 (upS.trans up1) osE bare
    obtain ⟨o1, fs1, at1, z1, dat1⟩ := fly1.there
    have off : e ∉ frs (X.env :: X.outer) := fun mem => by
      obtain ⟨_, o2, at2, no2⟩ := fly1.2.2.1.mem mem
      have q : o1 = o2 := Option.some.inj (at1.symm.trans at2)
      subst q
      exact no2 _ dat1
    have offL : e ≠ X.env.locals := fun q => off (List.mem_filterMap.mpr ⟨X.env, List.mem_cons_self, by rw [fr, q]⟩)
    have offF : e ∉ X.fs := fun mem => by
      obtain ⟨y, hy, q⟩ := List.mem_filterMap.mp mem
      exact off (List.mem_filterMap.mpr ⟨y, List.mem_cons_of_mem _ hy, q⟩)
    have S1 := J1.suite at1 dat1 free offL offF
    have ty : PySem.W.Looks (model X.prog X.w) hp1 (typeOf (.ref e)) cls := fun A Q E s k q => wpAny_typeOf_ref (k _ _ at1) (by rw [z1.1] <;> exact q)
    have each : ∀ {hs : List ExceptHandler} {l' : List (Value × Nat × (Addr → Value → Option Addr → TS))}, NamOk X more hs l' → wNam X.K (fun _ _ _ _ => False) D l' cls d τ H1 →
        wpAny (model X.prog X.w) X.A (handleBy (.ref e) X.env hs) (SP X pins D) X.xe { t with heap := hp1 } := by
      intro hs l' ok
      induction ok with
      | nil => exact fun w => w.elim
      | @cons x n c i tz z₀ rest pn pw hs2 l2 at_ lo nm su r ih =>
        rintro ⟨b, hit, go, on⟩
        have lcl : Loc X.env.scope n := .inl lo
        refine wpAny_handleBy_cons (codeAny_handlers_test ?_) (fun q => nomatch q)
        have mt := PySem.W.exm_one (M := model X.prog X.w) (J1.kIn) ty hit
        have look : ∀ {Q : Value → Shared → Prop} {E : Value → Shared → Prop}, Q c { t with heap := hp1 } → wpAny (model X.prog X.w) (X.A.mark (some (.ref e))) (eval (.Name x pn) X.env) Q E { t with heap := hp1 } := fun {Q E} q => by
          obtain ⟨gl, nd2, own | ⟨none_, boot, nn⟩⟩ := nm
          · exact ld_glob (X := X.suite e ((e, o1) :: (X.pn ++ pins))) S1 gl own q nd2
          · exact ld_blt (X := X.suite e ((e, o1) :: (X.pn ++ pins))) S1 gl none_ boot q nn nd2
        refine look (mt.here ?_)
        cases b with
        | false =>
          show wpAny _ X.A (handleBy (.ref e) X.env hs2) _ _ _
          exact ih (on rfl)
        | true =>
          refine codeAny_handlers_suite_as ?_
          refine HandSPX.lands_againZ fly1 fun hp2 fly2 up2 => ?_
          have J2 : Inv X pins τ H1 { t with heap := hp2 } := J.landed near fly2.1 ((upS.trans up1).trans up2) osE bare
          obtain ⟨o2, fs2, at2, z2, dat2⟩ := fly2.there
          have S2 := J2.suite at2 dat2 free offL offF
          refine store_ok (X := X.suite e ((e, o2) :: (X.pn ++ pins))) (v := .ref e) S2 nd at_ lcl rfl (fun t2 S3 => ?_) (.inr lo)
          refine wpAny_mono ((su e o2 cls d (X.pn ++ pins) z2 ⟨_, dat2⟩).run [] t2 _ H1 _ S3 (go rfl e free)) (fun f t3 out => ?_) (fun _ _ q => False.elim q)
          have fin : ∀ {τ1 : L2.St} {H2 : Hp} {R : Shared → Prop}, Inv (X.suite e ((e, o2) :: (X.pn ++ pins))) [] τ1 H2 t3 → (∀ t4, Inv X pins (τ1.set i none) H2 t4 → R t4) →
              wpAny (model X.prog X.w) X.A (do bindName X.env n .none; unbindBehindTheSuite X.env n pw) (fun _ t4 => R t4) X.xe t3 := fun {τ1 H2 R} S4 q => gone_ok (S4.unsuite okX) nd at_ lo q
          match f, out with
          | .next, ⟨_, _, S4, q⟩ => exact fin S4 fun _ J4 => ⟨_, _, J4, q⟩
          | .brk, ⟨_, _, S4, q⟩ => exact fin S4 fun _ J4 => ⟨_, _, J4, q⟩
          | .cont, ⟨_, _, S4, q⟩ => exact fin S4 fun _ J4 => ⟨_, _, J4, q⟩
          | .ret u, ⟨_, _, _, S4, ru, q⟩ => exact fin S4 fun _ J4 => ⟨_, _, _, J4, ru, q⟩
    exact each hk want
  · match f, done with
    | .next, ⟨_, _, J4, q⟩ => exact wpAny_execs_nil ⟨_, _, J4.ofTry okX, q⟩
    | .brk, ⟨_, _, J4, q⟩ => exact ⟨_, _, J4.ofTry okX, q⟩
    | .cont, ⟨_, _, J4, q⟩ => exact ⟨_, _, J4.ofTry okX, q⟩
    | .ret u, ⟨_, _, _, J4, ru, q⟩ => exact ⟨_, _, _, J4.ofTry okX, ru, q⟩
end
end KpR

namespace KpR
open PySem PySem.Spec PyProof.Rows L2
open PySem.AutoSeq1 (wpAny_loadPart')
section
variable {prog : Program} {w : World} {A : Around} {R : Result → Shared → Prop}
/-- up to the first pair that is unlike -/
theorem tup_either (l b : Addr) (us vs : Array Value) (n n2 : Nat) (dd dd2 : Option Addr) (sl sl2 : Array (Option Value)) (ans : Nat → Bool) (J : Shared → Prop)
    (turn : ∀ i (h1 : i < us.size) (h2 : i < vs.size) s, J s → wpAny (model prog w) A.in1 (eqBool us[i] vs[i]) (fun r s' => r = ans i ∧ J s') (fun e s' => R (.error e) s') s)
    (no : ∀ i, i < us.size → i < vs.size → ans i = false → ∀ s, J s → R (.ok (.ret (.bool false))) s)
    (fin : (∀ i, i < us.size → i < vs.size → ans i = true) → ∀ s, J s → R (.ok (.ret (.bool (us.size == vs.size)))) s) {s : Shared}
    (hl : s.heap.get? l = some { cls := .type "tuple", dict := dd, data := .seq us n, slots := sl }) (hb : s.heap.get? b = some { cls := .type "tuple", dict := dd2, data := .seq vs n2, slots := sl2 }) (h : J s) :
    wpAny (model prog w) A.in1 (Builtin.«tuple.__eq__» ⟨[.ref l, .ref b], []⟩) (GQ.FinOf prog w A R) (fun e s' => R (.error e) s') s := by
  have f2 := AutoSeq1.sub_tuple_tuple
  have zl : (us.toList.zip vs.toList).length = min us.size vs.size := by simp
  have h0 := h
  obtain ⟨hp, g, d, tk, os⟩ := s
  wp_walk using wpAny_loadPart' hl, wpAny_loadPart' hb, wpAny_forIn_list _ (fun rest q s' => q.1 = none ∧ J s' ∧ ∃ i, rest = (us.toList.zip vs.toList).drop i ∧ i ≤ min us.size vs.size ∧ ∀ j, j < i → ans j = true) _
  case turn =>
    rintro ⟨y, x⟩ rest q s' ⟨hq, hJ, i, hz, hi, before⟩
    have lt : i < (us.toList.zip vs.toList).length := by
      rcases Nat.lt_or_ge i (us.toList.zip vs.toList).length with c | c
      · exact c
      · rw [List.drop_of_length_le c] at hz
        cases hz
    have lm := Nat.lt_min.mp (zl ▸ lt)
    rw [List.drop_eq_getElem_cons lt] at hz
    injection hz with hp1 hrest
    have ey : y = us[i]'lm.1 := by simpa using congrArg Prod.fst hp1
    have ex : x = vs[i]'lm.2 := by simpa using congrArg Prod.snd hp1
    subst ey ex
    refine wpAny_bind (wpAny_mono (turn i lm.1 lm.2 s' hJ) (fun r s2 z => ?_) fun _ _ e => e)
    obtain ⟨rfl, J2⟩ := z
    cases c : ans i with
    | true =>
      wp_walk
      refine ⟨rfl, J2, i + 1, hrest, Nat.lt_min.mpr lm, fun j hj => ?_⟩
      by_cases e : j = i
      · rw [e]
        exact c
      · exact before j (by omega)
    | false =>
      have out := no i lm.1 lm.2 c s2 J2
      wp_walk
      exact out
  case fin =>
    rintro ⟨q1, q2⟩ s' ⟨hq, hJ, i, hz, hi, before⟩
    simp only at hq
    subst hq
    have ge : min us.size vs.size ≤ i := by
      rcases Nat.lt_or_ge i (us.toList.zip vs.toList).length with c | c
      · rw [List.drop_eq_getElem_cons c] at hz
        cases hz
      · exact zl ▸ c
    have out := fin (fun j h1 h2 => before j (Nat.lt_of_lt_of_le (Nat.lt_min.mpr ⟨h1, h2⟩) ge)) s' hJ
    wp_walk
    simpa [Builtin.Tuple.tupleCompareSizes] using out
  case h =>
    exact ⟨rfl, h0, 0, rfl, Nat.zero_le _, fun j hj => absurd hj (Nat.not_lt_zero _)⟩
end
/-- pair by pair; the answer is that of all of them, and of the lengths -/
def DTupB (K : PySem.W.Frag) (D : EqvB) : EqvB := fun x y b H => ∃ a c xs ys, ∃ an : Nat → Bool, x = .ref a ∧ y = .ref c ∧ SqT K H a xs ∧ SqT K H c ys ∧
  (∀ i u v, xs[i]? = some u → ys[i]? = some v → ∀ H', Ext H H' → D u v (an i) H') ∧ (b = true ↔ xs.length = ys.length ∧ ∀ i, i < xs.length → an i = true)
section
variable {X : Cx} {n : Nat} {D : EqvB}
theorem rcB_tup (h : EqB X n D) : RcB X (n + 1) (DTupB X.K D) := by
  intro B pins s σ H x y b u v sb I rx ry hd
  obtain ⟨a, c, xs, ys, an, rfl, rfl, ha, hc, hp, hb⟩ := hd
  cases rx
  cases ry
  obtain ⟨us, r1, ⟨⟨cl, dd, dt, sl⟩, e1, e2, k, e3⟩, _⟩ := I.tuple ha
  obtain ⟨vs, r2, ⟨⟨cl2, dd2, dt2, sl2⟩, g1, g2, k2, g3⟩, _⟩ := I.tuple hc
  simp only at e2 e3 g2 g3
  subst e2 e3 g2 g3
  have l1 : us.toArray.size = xs.length := by rw [List.size_toArray, r1.length]
  have l2 : vs.toArray.size = ys.length := by rw [List.size_toArray, r2.length]
  refine wpAny_richCompare_same_room (op := .Eq) ⟨_, e1, rfl⟩ ⟨_, g1, rfl⟩ F.slot_tuple_eq (GQ.call_here F.slot_tuple_eq ⟨_, e1, rfl⟩ F.entry_tuple_eq (F.args_tuple_eq_2 _ _) ?_) sb.room.units0
  refine tup_either (R := wants (fun r s' => r ≠ .notImplemented ∧ (r = .bool b ∧ LoopI X pins σ H s')) X.xe) a c us.toArray vs.toArray k k2 dd dd2 sl sl2 an (LoopI X pins σ H) (fun i h1 h2 s1 hJ => ?_) (fun i h1 h2 no s1 hJ => ?_) (fun all s1 hJ => ?_) e1 g1 ⟨H, I, Ext.rfl'⟩
  · obtain ⟨H1, I1, x1⟩ := hJ
    have i1 : i < xs.length := by omega
    have i2 : i < ys.length := by omega
    obtain ⟨p, hp1, rp⟩ := r1.get (List.getElem?_eq_getElem i1)
    obtain ⟨q, hq1, rq⟩ := r2.get (List.getElem?_eq_getElem i2)
    have ep : us.toArray[i] = p := by
      obtain ⟨_, z⟩ := List.getElem?_eq_some_iff.mp hp1
      simpa using z
    have eq : vs.toArray[i] = q := by
      obtain ⟨_, z⟩ := List.getElem?_eq_some_iff.mp hq1
      simpa using z
    rw [ep, eq]
    refine wpAny_mono (h B.in1 pins s1 σ H1 _ _ (an i) p q sb.in1 I1 rp rq (hp i _ _ (List.getElem?_eq_getElem i1) (List.getElem?_eq_getElem i2) H1 x1)) (fun r s2 z => ?_) fun _ _ e => e
    obtain ⟨er, H2, I2, x2⟩ := z
    exact ⟨er, H2, I2, x1.trans x2⟩
  · have eb : b = false := by
      cases b with
      | false => rfl
      | true =>
        have z := (hb.mp rfl).2 i (by omega)
        rw [no] at z
        cases z
    subst eb
    exact ⟨(fun z => nomatch z), rfl, hJ⟩
  · have eb : (us.toArray.size == vs.toArray.size) = b := by
      rw [l1, l2]
      cases b with
      | true => exact beq_iff_eq.mpr (hb.mp rfl).1
      | false =>
        refine beq_eq_false_iff_ne.mpr fun e => ?_
        have z := hb.mpr ⟨e, fun i hi => all i (by omega) (by omega)⟩
        cases z
    rw [eb]
    exact ⟨(fun z => nomatch z), rfl, hJ⟩
end
end KpR

namespace KpR
open PySem PySem.Spec PyProof.Rows L2
open PySem.AutoSeq1 (wpAny_loadPart')
section
variable {prog : Program} {w : World} {A : Around} {R : Result → Shared → Prop}
theorem tup_ne_like (l b : Addr) (us vs : Array Value) (n n2 : Nat) (dd dd2 : Option Addr) (sl sl2 : Array (Option Value)) (sz : us.size = vs.size) (J : Shared → Prop)
    (turn : ∀ i (h1 : i < us.size) (h2 : i < vs.size) s, J s → wpAny (model prog w) A.in1 (eqBool us[i] vs[i]) (fun r s' => r = true ∧ J s') (fun e s' => R (.error e) s') s)
    (fin : ∀ s, J s → R (.ok (.ret (.bool false))) s) {s : Shared}
    (hl : s.heap.get? l = some { cls := .type "tuple", dict := dd, data := .seq us n, slots := sl }) (hb : s.heap.get? b = some { cls := .type "tuple", dict := dd2, data := .seq vs n2, slots := sl2 }) (h : J s) :
    wpAny (model prog w) A.in1 (Builtin.«tuple.__ne__» ⟨[.ref l, .ref b], []⟩) (GQ.FinOf prog w A R) (fun e s' => R (.error e) s') s := by
  have f2 := AutoSeq1.sub_tuple_tuple
  have zl : (us.toList.zip vs.toList).length = us.size := by simp [sz]
  have h0 := h
  obtain ⟨hp, g, d, tk, os⟩ := s
  wp_walk using wpAny_loadPart' hl, wpAny_loadPart' hb, wpAny_forIn_list _ (fun rest q s' => q.1 = none ∧ J s' ∧ ∃ i, rest = (us.toList.zip vs.toList).drop i ∧ i ≤ us.size) _
  case turn =>
    rintro ⟨y, x⟩ rest q s' ⟨hq, hJ, i, hz, hi⟩
    have lt : i < (us.toList.zip vs.toList).length := by
      rcases Nat.lt_or_ge i (us.toList.zip vs.toList).length with c | c
      · exact c
      · rw [List.drop_of_length_le c] at hz
        cases hz
    have l1 : i < us.size := zl ▸ lt
    have l2 : i < vs.size := sz ▸ l1
    rw [List.drop_eq_getElem_cons lt] at hz
    injection hz with hp1 hrest
    have ey : y = us[i] := by simpa using congrArg Prod.fst hp1
    have ex : x = vs[i] := by simpa using congrArg Prod.snd hp1
    subst ey ex
    refine wpAny_bind (wpAny_mono (turn i l1 l2 s' hJ) (fun r s2 z => ?_) fun _ _ e => e)
    obtain ⟨rfl, J2⟩ := z
    wp_walk
    exact ⟨rfl, J2, i + 1, hrest, l1⟩
  case fin =>
    rintro ⟨q1, q2⟩ s' ⟨hq, hJ, i, hz, hi⟩
    simp only at hq
    subst hq
    have out := fin s' hJ
    wp_walk
    simpa [Builtin.Tuple.tupleCompareSizes, sz] using out
  case h =>
    exact ⟨rfl, h0, 0, rfl, Nat.zero_le _⟩
end
section
variable {X : Cx} {n : Nat} {D : EqvB}
/-- x != y, two tuples that are equal pair by pair -/
def rNeTup (K : PySem.W.Frag) (D : EqvB) : R2 := fun x y H Q => ∃ (a c : Addr) (xs ys : List V), x = .ref a ∧ y = .ref c ∧ SqT K H a xs ∧ SqT K H c ys ∧ xs.length = ys.length ∧
  (∀ (i : Nat) (u v : V), xs[i]? = some u → ys[i]? = some v → ∀ H' : Hp, Ext H H' → D u v true H') ∧ ∀ H' : Hp, Ext H H' → Q (.bl false) H'
theorem op_neTup (h : EqB X n D) (hr : Room (n + 1) X.A) : OpR X (compareOp .NotEq) (rNeTup X.K D) := by
  intro pins s σ H x y u v Q I rx ry hd
  obtain ⟨a, c, xs, ys, rfl, rfl, ha, hc, hlen, hp, q⟩ := hd
  cases rx
  cases ry
  obtain ⟨us, r1, ⟨⟨cl, dd, dt, sl⟩, e1, e2, k, e3⟩, _⟩ := I.tuple ha
  obtain ⟨vs, r2, ⟨⟨cl2, dd2, dt2, sl2⟩, g1, g2, k2, g3⟩, _⟩ := I.tuple hc
  simp only at e2 e3 g2 g3
  subst e2 e3 g2 g3
  have l1 : us.toArray.size = xs.length := by rw [List.size_toArray, r1.length]
  have l2 : vs.toArray.size = ys.length := by rw [List.size_toArray, r2.length]
  have sb : Sub X (n + 1) X.A := ⟨hr, rfl⟩
  show wpAny (model X.prog X.w) X.A (richCompare .NotEq (.ref a) (.ref c)) (EP X pins σ Q) X.xe s
  refine wpAny_richCompare_same_room (op := .NotEq) ⟨_, e1, rfl⟩ ⟨_, g1, rfl⟩ F.slot_tuple_ne (GQ.call_here F.slot_tuple_ne ⟨_, e1, rfl⟩ F.entry_tuple_ne (F.args_tuple_ne_2 _ _) ?_) hr.units0
  refine tup_ne_like (R := wants (fun r s' => r ≠ .notImplemented ∧ EP X pins σ Q r s') X.xe) a c us.toArray vs.toArray k k2 dd dd2 sl sl2 (by omega) (LoopI X pins σ H) (fun i h1 h2 s1 hJ => ?_) (fun s1 hJ => ?_) e1 g1 ⟨H, I, Ext.rfl'⟩
  · obtain ⟨H1, I1, x1⟩ := hJ
    have i1 : i < xs.length := by omega
    have i2 : i < ys.length := by omega
    obtain ⟨p, hp1, rp⟩ := r1.get (List.getElem?_eq_getElem i1)
    obtain ⟨q1, hq1, rq⟩ := r2.get (List.getElem?_eq_getElem i2)
    have ep : us.toArray[i] = p := by
      obtain ⟨_, z⟩ := List.getElem?_eq_some_iff.mp hp1
      simpa using z
    have eq : vs.toArray[i] = q1 := by
      obtain ⟨_, z⟩ := List.getElem?_eq_some_iff.mp hq1
      simpa using z
    rw [ep, eq]
    refine wpAny_mono (h X.A.in1 pins s1 σ H1 _ _ true p q1 sb.in1 I1 rp rq (hp i _ _ (List.getElem?_eq_getElem i1) (List.getElem?_eq_getElem i2) H1 x1)) (fun r s2 z => ?_) fun _ _ e => e
    obtain ⟨er, H2, I2, x2⟩ := z
    exact ⟨er, H2, I2, x1.trans x2⟩
  · obtain ⟨H1, I1, x1⟩ := hJ
    exact ⟨(fun z => nomatch z), .bl false, H1, I1, rfl, q H1 x1⟩
end
end KpR

namespace KpR
open PySem PySem.Spec PyProof.Rows L2
section
variable {α : Type} {K : PySem.W.Frag} {H : Hp} {f : α → PyData}
theorem dp_map {R : V → α → Prop} (h : ∀ t x, R t x → Dp K H t (f x)) : ∀ {ts : List V} {l : List α}, A2 R ts l → DpAll K H ts (l.map f)
  | [], [], _ => .nil
  | _ :: _, _ :: _, k => .cons (h _ _ k.1) (dp_map h k.2)
  | [], _ :: _, k => k.elim
  | _ :: _, [], k => k.elim
theorem lay_map : ∀ {l : List α}, (∀ x ∈ l, (f x).canLay0 = true) → PyData.canLayAll0 (l.map f) = true
  | [], _ => by simp [PyData.canLayAll0]
  | x :: l, h => by
    simp only [List.map_cons, PyData.canLayAll0, h x (List.mem_cons_self ..), Bool.true_and]
    exact lay_map fun y hy => h y (List.mem_cons_of_mem _ hy)
theorem dep_map {n : Nat} : ∀ {l : List α}, (∀ x ∈ l, (f x).depth ≤ n) → PyData.depthAll (l.map f) ≤ n
  | [], _ => by simp [PyData.depthAll]
  | x :: l, h => by
    simp only [List.map_cons, PyData.depthAll]
    exact Nat.max_le.mpr ⟨h x (List.mem_cons_self ..), dep_map fun y hy => h y (List.mem_cons_of_mem _ hy)⟩
theorem eqv_map [DecidableEq α] (h : ∀ x y, (f x).eqv (f y) = decide (x = y)) : ∀ {l m : List α}, PyData.eqvAll (l.map f) (m.map f) = decide (l = m)
  | [], [] => by simp [PyData.eqvAll]
  | [], _ :: _ => by simp [PyData.eqvAll]
  | _ :: _, [] => by simp [PyData.eqvAll]
  | x :: l, y :: m => by
    simp only [List.map_cons, PyData.eqvAll, h, eqv_map h (l := l) (m := m)]
    by_cases h1 : x = y
    · by_cases h2 : l = m <;> simp [h1, h2]
    · simp [h1]
/-- what can be compared: of no great depth -/
structure Flat (n : Nat) (d : PyData) : Prop where
  lay : d.canLay0 = true
  dep : d.depth ≤ n
theorem Flat.sh {n : Nat} {d : PyData} (h : Flat n d) (hn : n ≤ 64) : SeqAt.shaped d = true := by
  unfold SeqAt.shaped
  rw [h.lay, decide_eq_true (Nat.le_trans h.dep hn)]
  rfl
theorem Flat.list {n : Nat} {l : List α} (h : ∀ x ∈ l, Flat n (f x)) : Flat (n + 1) (.list (l.map f)) :=
  ⟨by simp only [PyData.canLay0]; exact lay_map fun x hx => (h x hx).lay, by simp only [PyData.depth]; exact Nat.succ_le_succ (dep_map fun x hx => (h x hx).dep)⟩
theorem Flat.tup {n : Nat} {l : List α} (h : ∀ x ∈ l, Flat n (f x)) : Flat (n + 1) (.tuple (l.map f)) :=
  ⟨by simp only [PyData.canLay0]; exact lay_map fun x hx => (h x hx).lay, by simp only [PyData.depth]; exact Nat.succ_le_succ (dep_map fun x hx => (h x hx).dep)⟩
theorem Flat.int {n : Nat} {i : Int} : Flat n (.int i) := ⟨rfl, Nat.zero_le _⟩
theorem Flat.bl {n : Nat} {b : Bool} : Flat n (.bool b) := ⟨rfl, Nat.zero_le _⟩
theorem Flat.non {n : Nat} : Flat n .none := ⟨rfl, Nat.zero_le _⟩
theorem Flat.str {n : Nat} {x : Str} (h : (PyData.str x).canLay0 = true) : Flat n (.str x) := ⟨h, Nat.zero_le _⟩
theorem Flat.mono {n m : Nat} {d : PyData} (h : Flat n d) (k : n ≤ m) : Flat m d := ⟨h.lay, Nat.le_trans h.dep k⟩
theorem eqv_int {i j : Int} : PyData.eqv (.int i) (.int j) = decide (i = j) := by
  simp only [PyData.eqv]
  by_cases h : i = j <;> simp [h]
/-- != and == of data -/
theorem neD {x y : V} {d e : PyData} {Q : VK} (h1 : Dp K H x d) (h2 : Dp K H y e) (f1 : Flat 60 d) (f2 : Flat 60 e) (q : Q (.bl (!PyData.eqv d e)) H) : rNeD K x y H Q := ⟨d, e, h1, h2, f1.sh (by decide), f2.sh (by decide), q⟩
theorem eqD {x y : V} {d e : PyData} {Q : VK} (h1 : Dp K H x d) (h2 : Dp K H y e) (f1 : Flat 60 d) (f2 : Flat 60 e) (q : Q (.bl (PyData.eqv d e)) H) : rEqD K x y H Q := ⟨d, e, h1, h2, f1.sh (by decide), f2.sh (by decide), q⟩
end
end KpR

namespace KpR
open PySem PySem.Spec PySem.Calls PyProof.Rows L2
section
variable {prog : Program} {w : World} {K : PySem.W.Frag} {x D : Addr}
/-- what a class says of itself on its instances, whatever fields they have -/
theorem fo_class {od : Option Obj} (hc : (PySem.W.clsIn K D).isSome = true) (ha : PySem.W.findIn K (.ref D) "__class__" = some (some (.builtin "object.__class__"))) (hg : PySem.W.specialIn K (.builtin "object.__class__") "__get__" = some (some (.builtin "getset_descriptor.__get__"))) (ht : PySem.W.takesIn K (.builtin "object.__class__") = some true) :
    PySem.W.findObj K D od "__class__" = some (.bind (.builtin "getset_descriptor.__get__") (.builtin "object.__class__")) := by
  obtain ⟨cd, q⟩ := Option.isSome_iff_exists.mp hc
  unfold PySem.W.findObj
  rw [q, Option.bind_some, ha, Option.bind_some]
  simp [hg, ht]
theorem exc_class (C : ExcC K D) {A : Around} {E : Value → Shared → Prop} {Q : Option Value → Shared → Prop} {s : Shared} {ox : Obj} {od : Option Obj} (X : K.In s.heap) (J : PySem.W.InstAt s.heap x ox D od) (q : Q (some (.ref D)) { s with toks := s.toks + 1 }) :
    wpAny (model prog w) A (getAttr? (.ref x) "__class__") Q E s := by
  have fo : PySem.W.findObj K D od "__class__" = _ := fo_class (by obtain ⟨cd, hc, _⟩ := PySem.W.any_some C.hd; rw [hc]; rfl) C.ha C.hn C.ht
  obtain ⟨hp, sg, sd, st, so⟩ := s
  have ty := J.type (M := model prog w)
  have l1 := PySem.W.looks_findIn (M := model prog w) X C.hg
  have l2 := PySem.W.looks_findIn (M := model prog w) X C.hk
  have l3 := PySem.W.looks_find (M := model prog w) X J fo
  have isx : PySem.W.Looks (model prog w) hp (isInstance (.ref x) (.type "BaseException")) true := ty.andThen (PySem.W.looks_subIn X C.hs)
  have n1 : (Value.builtin "BaseException.__getattribute__" == Value.builtin "object.__getattribute__") = false := by decide +kernel
  have n2 : (onTheHeap (Value.ref D) && Value.builtin "BaseException.__getattribute__" == Value.builtin "object.__getattribute__") = false := by rw [n1]; rfl
  have n3 : (false && onTheHeap (Value.builtin "BaseException.__getattribute__")) = false := rfl
  unfold getAttr? getAttrBy? getAttrBy
  refine wpAny_bind (wpAny_mkText (wpAny_bind (wpAny_attempt (wpAny_holding (wpAny_bind (ty.at (wpAny_bind (l1.at ?_))))))))
  refine (congrArg (fun c : Bool => wpAny (model prog w) A (if c = true then _ else _) _ _ _) n2).mpr ?_
  rw [if_neg Bool.false_ne_true]
  unfold getAttrByItsOwn hookBefore
  refine wpAny_bind ?_
  rw [if_pos (show onTheHeap (Value.ref D) = true from rfl)]
  refine l2.at (wpAny_bind (wpAny_attempt (wpAny_holding ?_)))
  unfold callGetattribute
  rw [n3, if_neg Bool.false_ne_true]
  unfold boundAndCalled
  rw [PySem.F.excAttr_ValueError.ga.bind (.ref x)]
  refine wpAny_bind (wpAny_pure (show wpAny _ _ (call (.builtin "BaseException.__getattribute__") [.ref x, .str "__class__" st]) _ _ _ from ?_))
  refine wpAny_call (codeAny_call_builtin PySem.F.excAttr_ValueError.ga.plain PySem.F.entry_bexc_ga ?_)
  refine @PySem.W.check_slot (model prog w) _ _ ⟨hp, sg, sd, st + 1, so⟩ "BaseException.__getattribute__" "BaseException" "__getattribute__" (.ref x) [.str "__class__" st] [] _ (by decide +kernel) (by decide +kernel) isx (PySem.F.args_bexc_ga (.ref x) (.str "__class__" st)) ?_
  unfold Builtin.«object.__getattribute__»
  refine wpAny_bind (wpAny_of_eq (a := ((Value.ref x : Value), [Value.str "__class__" st])) (by first | rfl | (simp only [slotArgs]; rfl)) (wpAny_bind (wpAny_pure (wpAny_bind (ty.at (wpAny_bind (l3.at ?_)))))))
  show wpAny _ _ (holding [Value.builtin "object.__class__"] (call (.builtin "getset_descriptor.__get__") [.builtin "object.__class__", .ref x, .ref D]) >>= ret) _ _ _
  refine wpAny_bind (wpAny_holding (wpAny_call (PySem.W.class_get (s := ⟨hp, sg, sd, st + 1, so⟩) (ox := ox) (od := od) X J C.hm (wpAny_pure ?_))))
  show wpAny _ _ (handedOut (.ref D)) _ _ _
  rw [PySem.W.handedOut_of (v := .ref D) rfl]
  first
    | exact wpAny_pure (wpAny_pure q)
    | exact wpAny_pure q
    | exact wpAny_pure (wpAny_bind (wpAny_pure (wpAny_pure q)))
theorem kit_exd (C : ExcC K D) : PySem.W.KitX K (.ref x) (.ref D) (fun h => ∃ ox od, PySem.W.InstAt h x ox D od) := by
  obtain ⟨cdD, hcD, _⟩ := PySem.W.any_some C.hd
  have at_ : ∃ (o : Obj) (cd : ClassData), K.lookup D = some o ∧ o.data = .cls cd := by
    unfold PySem.W.clsIn at hcD
    split at hcD
    · rename_i ho
      exact ⟨_, _, ho, rfl⟩
    · cases hcD
  obtain ⟨o, cd, ho, hd⟩ := at_
  refine ⟨fun _ _ _ ⟨_, _, J⟩ => J.type, fun _ _ X _ => ?_, fun h tp dd its n sl X e => ?_, fun X ⟨_, _, J⟩ q => exc_class C X J q⟩
  · intro A' Q' E' s' k q
    unfold isType loadHead
    obtain ⟨oc, od, oda, osl⟩ := o
    cases hd
    exact wpAny_bind (wpAny_loadPart (k _ _ (X _ _ ho)) (wpAny_pure q))
  · refine Bool.eq_false_iff.mpr fun z => ?_
    obtain rfl := Value.ref.inj (beq_iff_eq.mp z)
    have z := (X _ _ ho).symm.trans e
    cases z
    cases hd
end
/-- isinstance(e, c), e the exception that the suite holds, of whatever fields -/
def rIsX (K : PySem.W.Frag) (a D : Addr) (cls : Value) (d : Option Addr) : List V → Hp → VK → Prop := fun xs H Q => ∃ (c : V) (cv : Value) (b : Bool) (dd : Addr) (fs : List (Str × V)), xs = [.ref a, c] ∧ (∀ u, RelV c u → u = cv) ∧ PySem.W.kitOne K (.ref D) cv = some b ∧ cls = .ref D ∧ d = some dd ∧ H dd = some (.xd fs) ∧ Q (.bl b) H
theorem call_isX {X : Cx} {a D : Addr} {oe : Obj} {d : Option Addr} {pn : List (Addr × Obj)} {cls : Value} (C : ExcC X.K D) (hz : Zc cls d oe) (hf : ∃ vs, oe.data = .fields vs) :
    CallR (X.suite a ((a, oe) :: pn)) (.builtin "isinstance") (rIsX X.K a D cls d) := by
  intro pins s σ H xs us Q I r h
  obtain ⟨c, cv, b, dd, fs, rfl, hcv, e, rfl, rfl, hdd, q⟩ := h
  cases r with
  | cons rx rr =>
    cases rr with
    | cons rt rr =>
      cases rr
      cases rx
      obtain rfl := hcv _ rt
      obtain ⟨hget, _⟩ := I.pin (a, oe) (List.mem_append_left _ List.mem_cons_self)
      obtain ⟨vs, hv⟩ := hf
      obtain ⟨mA, hns, _⟩ : ObjOk X.prog X.w H s.heap dd (.xd fs) := I.hok dd _ hdd
      obtain ⟨od, ho, _⟩ := lookIn_ns hns
      have J : PySem.W.InstAt s.heap a oe D (some od) := ⟨hget, hz.1, by unfold PySem.W.notCls; rw [hv] <;> rfl, by rw [hz.2]; exact ho⟩
      exact PySem.W.kia_one (kit_exd C) I.kIn ⟨_, _, J⟩ e (fun z => nomatch z) fun tk => ⟨.bl b, H, I.kept (t' := tk) fun _ _ z => z, rfl, q⟩
end KpR

namespace KpR
open PySem PySem.Spec PyProof.Rows L2
section
variable {prog : Program} {w : World} {A : Around} {E : Value → Shared → Prop} {s : Shared} {K : PySem.W.Frag} {x y C C' f : Addr} {ox oy : Obj} {od : Option Obj}
theorem rc_neX {Q : Value → Shared → Prop} (X : K.In s.heap) (I : PySem.W.InstAt s.heap x ox C od) (c : NeK K C f) (hy : s.heap.get? y = some oy) (cy : oy.cls = .ref C') (nf : PySem.W.notFirst K C (.ref C') = true) (hu : A.units + 1 < cLine)
    (h : wpAny (model prog w) A.in1 (call (.ref f) [.ref x, .ref y]) (fun v s1 => ∃ b, v = .bool b ∧ Q (.bool (!b)) s1) E s) : wpAny (model prog w) A (richCompare .NotEq (.ref x) (.ref y)) Q E s := by
  by_cases ne : C' = C
  · exact rc_neK X I c hy (by rw [cy, ne]) hu h
  have hsub : PySem.W.subIn K (.ref C') (.ref C) = some false := by
    unfold PySem.W.notFirst at nf
    rcases Bool.or_eq_true_iff.mp nf with k | k
    · exact absurd (Value.ref.inj (eq_of_beq k)) ne
    · exact eq_of_beq k
  have hu0 : A.units < cLine := Nat.lt_of_succ_lt hu
  have run : wpAny (model prog w) A (callSpecialIfBound? (.ref x) "__ne__" [.ref y]) (fun r s1 => ∃ b, r = some (.bool b) ∧ Q (.bool b) s1) E s := by
    simp only [callSpecialIfBound?, bindSpecialIfBound?]
    refine wpAny_holding (wpAny_bind (wpAny_bind (wpAny_bind (I.type.here ((PySem.W.looks_findIn X c.hn).here ?_)))))
    refine wpAny_bind (wpAny_askSetting (wpAny_ite ?_))
    have fin : wpAny (model prog w) A (call (.builtin "object.__ne__") ([.ref x] ++ [.ref y]) >>= fun v => pure (some v)) (fun r s1 => ∃ b, r = some (.bool b) ∧ Q (.bool b) s1) E s :=
      wpAny_bind (wpAny_mono (call_objNe (Q := fun v s1 => ∃ b, v = .bool b ∧ Q (.bool b) s1) X I c hu (wpAny_mono h (fun v s1 ⟨b, e, q⟩ => ⟨b, e, _, rfl, q⟩) fun _ _ e => e)) (fun v s1 ⟨b, e, q⟩ => wpAny_pure ⟨b, congrArg some e, q⟩) fun _ _ e => e)
    split
    · exact wpAny_bind (wpAny_of_eq (F.cmp_object.ne.bind _) (wpAny_pure (by exact fin)))
    · exact wpAny_tryCatch (wpAny_bind (wpAny_of_eq (F.cmp_object.ne.bind _) (wpAny_pure (by exact fin))))
  have one : wpAny (model prog w) A (tryCompare (.ref x) "__ne__" (.ref y)) (fun r s1 => ∃ b, r = some (.bool b) ∧ Q (.bool b) s1) E s := by
    unfold tryCompare
    refine wpAny_bind (wpAny_mono run (fun r s1 z => ?_) fun _ _ e => e)
    obtain ⟨b, rfl, q⟩ := z
    exact wpAny_pure ⟨b, rfl, q⟩
  unfold richCompare
  simp only [oneThing_ref]
  refine wpAny_holding (wpAny_bind (wpAny_cRoomFor hu0 ?_))
  rw [cmpInfo_NotEq]
  dsimp only
  refine wpAny_bind (I.type.here (wpAny_bind (wpAny_typeOf_ref hy ?_)))
  have nb : (Value.ref C != Value.ref C') = true := by
    rw [bne_iff_ne]
    exact fun z => ne (Value.ref.inj z).symm
  rw [cy, nb]
  simp only [if_true]
  refine wpAny_bind ((PySem.W.looks_subIn X hsub).here ?_)
  simp only [Bool.false_eq_true, if_false]
  refine wpAny_bind (wpAny_mono one (fun r s1 z => ?_) fun _ _ e => e)
  obtain ⟨b, rfl, q⟩ := z
  exact wpAny_pure q
end
section
variable {X : Cx} {CX : CXT} {n : Nat} {C f : Addr} {fd : FuncData} {ps : List Str} {R : Addr → V → Bool → Hp → Prop} {E : XK}
/-- x != y of two instances, the second of no class below the first one's -/
def rNeX (K : PySem.W.Frag) (C : Addr) (R : Addr → V → Bool → Hp → Prop) : R2 := fun x y H Q => ∃ b, DInsB K C R x y b H ∧ ∀ H', Ext H H' → Q (.bl (!b)) H'
theorem op_neX (G : FnOk X.prog X.w X.K X.mg X.base CX n f fd ps (spEqB R)) (hc : NeK X.K C f) (hb : Binds X.K fd ps []) (hx : Passes CX X E) (hr : Room (n + 1) X.A) : OpR X (compareOp .NotEq) (rNeX X.K C R) := by
  intro pins s σ H x y v u Q I rx ry hq
  obtain ⟨b, ⟨a, c, C', dx, dy, fs, gs, rfl, rfl, ha, hc1, nf, hR⟩, q⟩ := hq
  cases rx
  cases ry
  obtain ⟨mA, J, _⟩ := ins_get I.hok ha
  obtain ⟨mC, J1, _⟩ := ins_get I.hok hc1
  obtain ⟨od, J, _⟩ := J.look
  obtain ⟨od1, J1, _⟩ := J1.look
  have r1 : Room n X.A.in1 := hr.in1
  have go := own_runB (B := X.A.in1) (y := .ref c) (v := .ref c) G hb hx ⟨r1, rfl⟩ I rfl hR
  show wpAny (model X.prog X.w) X.A (richCompare .NotEq (.ref a) (.ref c)) (EP X pins σ Q) X.xe s
  refine rc_neX I.kIn J hc J1.at_ J1.cls nf (hu_of hr) (wpAny_mono go (fun r s1 z => ?_) fun _ _ e => e)
  cases r with
  | notImplemented => exact False.elim z
  | bool b' =>
    obtain ⟨e, H1, I1, ex⟩ := z
    cases e
    exact ⟨_, rfl, .bl _, H1, I1, rfl, q H1 ex⟩
  | _ => cases z.1
/-- x == y, two lists equal pair by pair -/
def DAll (D : EqvB) : Eqv := fun x y H => ∀ H', Ext H H' → D x y true H'
theorem mon_all (D : EqvB) : Mon (DAll D) := fun _ _ _ _ e d H' e' => d H' (e.trans e')
theorem eqG_all {D : EqvB} (h : EqB X n D) : EqG X n (DAll D) := fun B pins s σ H x y u v sb I rx ry d => h B pins s σ H x y true u v sb I rx ry (d H Ext.rfl')
/-- x != y, two lists of just the same objects -/
def rNeSame (K : PySem.W.Frag) : R2 := fun x y H Q => ∃ a c xs, x = .ref a ∧ y = .ref c ∧ H a = some (.lst xs) ∧ H c = some (.lst xs) ∧ (∀ z ∈ xs, ∃ p, z = V.ref p) ∧ Q (.bl false) H
theorem refs_same : ∀ {xs : List V} {us vs : List Value}, (∀ z ∈ xs, ∃ p, z = V.ref p) → Vals xs us → Vals xs vs → us = vs
  | [], _, _, _, .nil, .nil => rfl
  | x :: xs, _, _, h, .cons r1 k1, .cons r2 k2 => by
    obtain ⟨p, rfl⟩ := h x (List.mem_cons_self ..)
    cases r1
    cases r2
    rw [refs_same (fun z hz => h z (List.mem_cons_of_mem _ hz)) k1 k2]
theorem op_neSame (hu : X.A.units < cLine) : OpR X (compareOp .NotEq) (rNeSame X.K) := by
  intro pins s σ H x y v u Q I rx ry hq
  obtain ⟨a, c, xs, rfl, rfl, ha, hc, hr, q⟩ := hq
  cases rx
  cases ry
  obtain ⟨z, its, k, r, e⟩ := I.hok a _ ha
  obtain ⟨z2, its2, k2, r2, e2⟩ := I.hok c _ hc
  obtain rfl := refs_same hr r r2
  show wpAny (model X.prog X.w) X.A (richCompare .NotEq (.ref a) (.ref c)) (EP X pins σ Q) X.xe s
  refine wpAny_richCompare_same_room (op := .NotEq) ⟨_, e, rfl⟩ ⟨_, e2, rfl⟩ F.slot_list_ne (GQ.call_here F.slot_list_ne ⟨_, e, rfl⟩ F.entry_list_ne (F.args_list_ne_2 _ _) ?_) hu
  refine SeqAt.list_neAt a c its.toArray its.toArray k k2 none none #[] #[] rfl (fun _ => true) X.prog X.w X.A (wants (fun v s' => v ≠ .notImplemented ∧ EP X pins σ Q v s') X.xe) s ⟨e, e2, fun j h1 h2 => SeqAt.EqAt.same _, ?_⟩
  have al : (List.range its.toArray.size).all (fun _ => true) = true := by simp
  rw [al]
  exact ⟨(fun z => nomatch z), .bl false, H, I, rfl, q⟩
end
section
variable {prog : Program} {w : World} {A : Around} {E : Value → Shared → Prop} {s : Shared}
/-- a tuple's items, taken over into a list of their own -/
theorem collect_tup {l : Addr} {o : Obj} {n : Nat} {vs : List Value} {Q : List Value → Shared → Prop} (ho : s.heap.get? l = some o) (hc : o.cls = .type "tuple") (hd : o.data = .seq vs.toArray n)
    (h : Q vs { s with heap := (s.heap.push (seqObj "list" #[] 0)).update s.heap.objs.size (Obj.mapSeq (· ++ vs.toArray)) }) (hsz : vs.length ≤ sizeLine) : wpAny (model prog w) A (collect (.ref l)) Q E s := by
  have new : (s.heap.push (seqObj "list" #[] 0)).get? s.heap.objs.size = some (seqObj "list" #[] 0) := Heap.get?_push_size _ rfl
  have old : (s.heap.push (seqObj "list" #[] 0)).get? l = some o := Heap.get?_push_of_some _ ho
  unfold collect
  refine wpAny_bind (wpAny_runValue (codeAny_builtin entry_proto_collect' (show wpAny _ _ (do again (.builtin "list.__iadd__" ⟨[← newList [], .ref l], []⟩)) _ _ s from wpAny_bind (wpAny_newList (wpAny_pure ⟨Code.quiet_builtin _ (by decide +kernel), codeAny_builtin entry_list_iadd' ?_⟩)))))
  show wpAny _ _ (Builtin.List.listExtendWith (.ref s.heap.objs.size) (.ref l) (.ref s.heap.objs.size)) _ _ { s with heap := s.heap.push (seqObj "list" #[] 0) }
  unfold Builtin.List.listExtendWith
  have tt : (Value.type "tuple" == Value.type "tuple") = true := rfl
  refine wpAny_bind (wpAny_typeOf (T := "tuple") ⟨o, old, hc⟩ ?_)
  rw [if_pos (by rw [tt]; simp)]
  refine wpAny_bind (listItems_at old hd (wpAny_bind (listItems_at (xs := #[]) (n := 0) new rfl ?_)))
  rw [if_neg (by simp)]
  refine wpAny_bind (listUpdate_at (xs := #[]) (n := 0) new rfl (wpAny_pure ?_) (Nat.zero_le _) (by show (#[] ++ vs.toArray).size ≤ sizeLine + 1; simp only [Array.size_append, List.size_toArray, List.length_nil]; omega))
  refine (show wpAny (model prog w) A (load s.heap.objs.size >>= fun o => match o.data with | .seq xs _ => pure xs.toList | _ => unsupported "internal:collect") Q E _ from wpAny_bind (wpAny_load (get?_update_seq new _) ?_))
  show wpAny _ _ (pure ((#[] : Array Value) ++ vs.toArray).toList) Q E _
  rw [show ((#[] : Array Value) ++ vs.toArray).toList = vs by simp]
  exact wpAny_pure h
theorem sorted_tup {l : Addr} {o : Obj} {n : Nat} {vs : List Value} {ns : List Int} {Q : Value → Shared → Prop} (ho : s.heap.get? l = some o) (hc : o.cls = .type "tuple") (hd : o.data = .seq vs.toArray n) (hI : IntsAre vs ns) (h64 : vs.length < 64)
    (h : ∀ (out : Array Value) (ns' : List Int), IntsAre out.toList ns' → ns'.Perm ns → ns'.Pairwise (· ≤ ·) → Q (.ref (s.heap.objs.size + 1)) { s with heap := sortedAll s.heap vs out }) :
    wpAny (model prog w) A (call (.builtin "sorted") [.ref l]) Q E s := by
  refine Calls.call_function_entry kind_sorted plain_sorted entry_sorted (args_sorted1 _) ?_
  unfold Builtin.«sorted»
  refine wpAny_bind (m := checkCount "sorted" 1 1 _) (wpAny_pure (wpAny_bind (collect_tup ho hc hd (wpAny_bind (wpAny_newList ?_)) (small64 h64))))
  have sz : ((s.heap.push (seqObj "list" #[] 0)).update s.heap.objs.size (Obj.mapSeq (· ++ vs.toArray))).objs.size = s.heap.objs.size + 1 := by rw [Heap.size_update, size_push']
  have at2 : (((s.heap.push (seqObj "list" #[] 0)).update s.heap.objs.size (Obj.mapSeq (· ++ vs.toArray))).push (seqObj "list" vs.toArray 0)).get? (s.heap.objs.size + 1) = some (seqObj "list" vs.toArray 0) := sz ▸ Heap.get?_push_size _ rfl
  show wpAny _ _ _ _ _ { s with heap := ((s.heap.push (seqObj "list" #[] 0)).update s.heap.objs.size (Obj.mapSeq (· ++ vs.toArray))).push (seqObj "list" vs.toArray 0) }
  rw [sz]
  exact wpAny_bind (wpAny_holding (wpAny_call_entry slot_list_sort ⟨_, at2, rfl⟩ entry_list_sort (list_sort_tree at2 hI h64 fun out ns' a1 a2 a3 => ⟨_, rfl, wpAny_pure ⟨_, rfl, h out ns' a1 a2 a3⟩⟩) (args_list_sort _)))
end
section
variable {X : Cx}
/-- sorted(t), t a tuple or a list of ints -/
def rSrt (K : PySem.W.Frag) : List V → Hp → VK → Prop := fun vs H Q => ∃ (a : Addr) (ns : List Int), vs = [V.ref a] ∧ (SqL K H a (ns.map V.int) ∨ SqT K H a (ns.map V.int)) ∧ ns.length < 64 ∧
  ∀ (ns' : List Int) (p : Addr), ns'.Perm ns → ns'.Pairwise (· ≤ ·) → H p = none → Q (.ref p) (upd H p (.lst (ns'.map V.int)))
theorem cr_srt : CallR X (.builtin "sorted") (rSrt X.K) := by
  intro pins s σ H vs us Q I r h
  obtain ⟨a, ns, rfl, hs, h64, q⟩ := h
  rcases hs with hs | hs
  · exact cr_sorted pins s σ H _ us Q I r ⟨a, ns, rfl, hs, h64, q⟩
  obtain ⟨its, rv, ⟨o, ho, hc, n, hd⟩, _⟩ := I.tuple hs
  rw [Vals.ref1 r]
  have hi := rv.ints
  refine sorted_tup ho hc hd hi (by rw [hi.length]; exact h64) fun out ns' h1 h2 h3 => ?_
  obtain ⟨ep, he'⟩ := PyProof.Rows.sortedAll_at s.heap its out
  have hlen : (ns'.map V.int).length ≤ sizeLine := by rw [List.length_map, h2.length_eq]; exact small64 h64
  exact ⟨.ref _, upd H (s.heap.objs.size + 1) (.lst (ns'.map V.int)), I.laid (t' := s.toks) (fun _ _ => PyProof.Rows.sortedAll_old) (Nat.le_succ _) ⟨hlen, out.toList, ep, vals_of_ints h1, he'⟩, rfl, q ns' _ h2 h3 (I.hok.fresh (Nat.le_succ _))⟩
end
end KpR

namespace KpR
open PySem PySem.Spec PyProof.Rows L2
theorem lc_enumT {K : PySem.W.Frag} {a : Addr} {xs : List V} {g : TG} {tt : TT} {te : TE} {vs : List Nat} {σ : L2.St} {H1 : Hp} {D : Addr} {Qd : Hp → Prop} (Pv : Nat → Hp → Prop) (h0 : Pv 0 (upd H1 D (.lst []))) (hl : ∀ i H, i ≤ xs.length → Pv i H → SqT K H a xs)
    (hs : ∀ i x T H, xs[i]? = some x → Pv i H → H T = none → g (.ref T) (wipe σ vs) (upd H T (.tup [.int (i : Nat), x])) fun σ2 H2 => wipe σ2 vs = wipe σ vs ∧ tt σ2 H2 fun b H3 =>
      if b = true then te σ2 H3 fun y H4 => ∃ acc, H4 D = some (.lst acc) ∧ acc.length < sizeLine ∧ Pv (i + 1) (upd H4 D (.lst (acc ++ [y]))) else Pv (i + 1) H3) (hd : ∀ H, Pv xs.length H → Qd H) :
    ∃ W : Nat → Nat → Hp → Prop, (∃ m, W 0 m (upd H1 D (.lst []))) ∧ ∀ i m H, W i m H →
      ((IteT K a).stop i H ∧ Qd H) ∨ ((IteT K a).go i H ∧ ∃ Nx : Hp → Prop, (∀ H', Nx H' → ∃ m', m' < m ∧ W (i + 1) m' H') ∧ ∀ x H', (IteT K a).yld i H x H' → g x (wipe σ vs) H' fun σ2 H2 => wipe σ2 vs = wipe σ vs ∧ tt σ2 H2 fun b H3 =>
        if b = true then te σ2 H3 fun y H4 => ∃ acc, H4 D = some (.lst acc) ∧ acc.length < sizeLine ∧ Nx (upd H4 D (.lst (acc ++ [y]))) else Nx H3) := by
  refine ⟨fun i m H => m = xs.length - i ∧ i ≤ xs.length ∧ Pv i H, ⟨xs.length, by simp, Nat.zero_le _, h0⟩, ?_⟩
  rintro i m H ⟨rfl, hi, p⟩
  have q := hl i H hi p
  by_cases hlt : i < xs.length
  · refine .inr ⟨⟨xs, xs[i], q, by simp [hlt]⟩, Pv (i + 1), fun H' p' => ⟨xs.length - (i + 1), by omega, rfl, hlt, p'⟩, ?_⟩
    rintro x H' ⟨T, y, rfl, hT, rfl, hy⟩
    exact hs i y T H (hy xs q) p hT
  · have e : i = xs.length := by omega
    subst e
    exact .inl ⟨⟨xs, q, rfl⟩, hd H p⟩
theorem lc_enumL {K : PySem.W.Frag} {a : Addr} {xs : List V} {g : TG} {tt : TT} {te : TE} {vs : List Nat} {σ : L2.St} {H1 : Hp} {D : Addr} {Qd : Hp → Prop} (Pv : Nat → Hp → Prop) (h0 : Pv 0 (upd H1 D (.lst []))) (hl : ∀ i H, i ≤ xs.length → Pv i H → SqL K H a xs)
    (hs : ∀ i x T H, xs[i]? = some x → Pv i H → H T = none → g (.ref T) (wipe σ vs) (upd H T (.tup [.int (i : Nat), x])) fun σ2 H2 => wipe σ2 vs = wipe σ vs ∧ tt σ2 H2 fun b H3 =>
      if b = true then te σ2 H3 fun y H4 => ∃ acc, H4 D = some (.lst acc) ∧ acc.length < sizeLine ∧ Pv (i + 1) (upd H4 D (.lst (acc ++ [y]))) else Pv (i + 1) H3) (hd : ∀ H, Pv xs.length H → Qd H) :
    ∃ W : Nat → Nat → Hp → Prop, (∃ m, W 0 m (upd H1 D (.lst []))) ∧ ∀ i m H, W i m H →
      ((Ite K a).stop i H ∧ Qd H) ∨ ((Ite K a).go i H ∧ ∃ Nx : Hp → Prop, (∀ H', Nx H' → ∃ m', m' < m ∧ W (i + 1) m' H') ∧ ∀ x H', (Ite K a).yld i H x H' → g x (wipe σ vs) H' fun σ2 H2 => wipe σ2 vs = wipe σ vs ∧ tt σ2 H2 fun b H3 =>
        if b = true then te σ2 H3 fun y H4 => ∃ acc, H4 D = some (.lst acc) ∧ acc.length < sizeLine ∧ Nx (upd H4 D (.lst (acc ++ [y]))) else Nx H3) := by
  refine ⟨fun i m H => m = xs.length - i ∧ i ≤ xs.length ∧ Pv i H, ⟨xs.length, by simp, Nat.zero_le _, h0⟩, ?_⟩
  rintro i m H ⟨rfl, hi, p⟩
  have q := hl i H hi p
  by_cases hlt : i < xs.length
  · refine .inr ⟨⟨xs, xs[i], q, by simp [hlt]⟩, Pv (i + 1), fun H' p' => ⟨xs.length - (i + 1), by omega, rfl, hlt, p'⟩, ?_⟩
    rintro x H' ⟨T, y, rfl, hT, rfl, hy⟩
    exact hs i y T H (hy xs q) p hT
  · have e : i = xs.length := by omega
    subst e
    exact .inl ⟨⟨xs, q, Nat.le_refl _⟩, hd H p⟩
theorem A2at {α : Type} {R : V → α → Prop} : ∀ {vs : List V} {ds : List α} {i : Nat} {d : α}, A2 R vs ds → ds[i]? = some d → ∃ v, atI vs (i : Int) = some v ∧ vs[i]? = some v ∧ R v d := by
  intro vs ds i d h e
  have lt : i < ds.length := (List.getElem?_eq_some_iff.mp e).1
  have lt2 : i < vs.length := by rw [h.len]; exact lt
  obtain ⟨d', e', r⟩ := h.get (List.getElem?_eq_getElem lt2)
  rw [e] at e'
  cases e'
  exact ⟨_, atI_nat (List.getElem?_eq_getElem lt2), List.getElem?_eq_getElem lt2, r⟩
theorem A2set {α : Type} {R : V → α → Prop} : ∀ {vs : List V} {ds : List α} {i : Nat} {v : V} {d : α}, A2 R vs ds → R v d → A2 R (vs.set i v) (ds.set i d)
  | [], [], _, _, _, _, _ => trivial
  | _ :: _, _ :: _, 0, _, _, h, r => ⟨r, h.2⟩
  | _ :: _, _ :: _, i + 1, _, _, h, r => ⟨h.1, A2set h.2 r⟩
/-- t + u of two tuples of the heap: one that holds both, perhaps one of them itself -/
def rCatS : R2 := fun x y H Q => ∃ (a b : Addr) (xs ys : List V), x = .ref a ∧ y = .ref b ∧ H a = some (.tup xs) ∧ H b = some (.tup ys) ∧ xs.length + ys.length ≤ sizeLine ∧
  ∀ (p : Addr) (H' : Hp), Same H H' → H' p = some (.tup (xs ++ ys)) → Q (.ref p) H'
theorem op_catS {X : Cx} : OpR X (binaryOp .Add) rCatS := by
  intro pins s σ H x y v u Q I rx ry h
  obtain ⟨a, b, xs, ys, rfl, rfl, ha, hb, hz, q⟩ := h
  refine op_catA pins s σ H _ _ v u Q I rx ry ⟨a, b, xs, ys, rfl, rfl, SqT.of ha, SqT.of hb, hz, fun e => ?_, fun _ e => ?_, fun _ _ p hp => ?_⟩
  · subst e
    exact q b H (Same.refl _) hb
  · subst e
    exact q a H (Same.refl _) (by rw [List.append_nil]; exact ha)
  · exact q p _ (same_new hp) upd_same
/-- xs != [] and xs == [], whatever the list holds -/
def rNeNil : R2 := fun x y H Q => ∃ (a c : Addr) (xs : List V), x = .ref a ∧ y = .ref c ∧ H a = some (.lst xs) ∧ H c = some (.lst []) ∧ Q (.bl (!xs.isEmpty)) H
def rEqNil : R2 := fun x y H Q => ∃ (a c : Addr) (xs : List V), x = .ref a ∧ y = .ref c ∧ H a = some (.lst xs) ∧ H c = some (.lst []) ∧ Q (.bl xs.isEmpty) H
theorem op_neNil {X : Cx} (hu : X.A.units < cLine) : OpR X (compareOp .NotEq) rNeNil := by
  intro pins s σ H x y v u Q I rx ry hq
  obtain ⟨a, c, xs, rfl, rfl, ha, hc, q⟩ := hq
  cases rx
  cases ry
  obtain ⟨z, its, k, r, e⟩ := I.hok a _ ha
  obtain ⟨z2, its2, k2, r2, e2⟩ := I.hok c _ hc
  cases r2
  have l1 : s.heap.IsList a its.toArray := ⟨_, e, rfl, _, rfl⟩
  have l2 : s.heap.IsList c ([] : List Value).toArray := ⟨_, e2, rfl, _, rfl⟩
  cases r with
  | nil => exact PySem.SeqAt.RcNeAt.lists l1 l2 rfl hu (e := fun _ => true) (fun j h1 _ => absurd h1 (Nat.not_lt_zero _)) X.prog X.w _ _ ⟨.bl false, H, I, rfl, q⟩
  | cons r0 rr => exact PySem.SeqAt.RcNeAt.lists_lengths l1 l2 rfl hu X.prog X.w _ _ ⟨.bl true, H, I, rfl, q⟩
theorem op_eqNil {X : Cx} (hu : X.A.units < cLine) : OpR X (compareOp .Eq) rEqNil := by
  intro pins s σ H x y v u Q I rx ry hq
  obtain ⟨a, c, xs, rfl, rfl, ha, hc, q⟩ := hq
  cases rx
  cases ry
  obtain ⟨z, its, k, r, e⟩ := I.hok a _ ha
  obtain ⟨z2, its2, k2, r2, e2⟩ := I.hok c _ hc
  cases r2
  have l1 : s.heap.IsList a its.toArray := ⟨_, e, rfl, _, rfl⟩
  have l2 : s.heap.IsList c ([] : List Value).toArray := ⟨_, e2, rfl, _, rfl⟩
  cases r with
  | nil => exact PySem.SeqAt.RcAt.lists l1 l2 rfl hu (e := fun _ => true) (fun j h1 _ => absurd h1 (Nat.not_lt_zero _)) X.prog X.w _ _ ⟨.bl true, H, I, rfl, q⟩
  | cons r0 rr => exact PySem.SeqAt.RcAt.lists_lengths l1 l2 rfl hu X.prog X.w _ _ ⟨.bl false, H, I, rfl, q⟩
/-- for a, b in d.items(): each entry in a new pair -/
theorem for_items {d : Addr} {o : Obj} {kvs : List (Key × V)} {g : TG} {tb : TS} {D : Ends} {σ : L2.St} {H : Hp} (Pv : Nat → L2.St → Hp → Prop) (h0 : Pv 0 σ H) (hl : ∀ i σ H, Pv i σ H → H d = some (.frz o (.dK kvs)))
    (hs : ∀ i k v T σ H, kvs[i]? = some (k, v) → Pv i σ H → H T = none → g (.ref T) σ (upd H T (.tup [kV k, v])) fun σ2 H2 => tb { D with nx := Pv (i + 1), ct := Pv (i + 1), bk := D.nx } σ2 H2) (hd : ∀ σ H, Pv kvs.length σ H → D.nx σ H) :
    ∃ W : Nat → Nat → L2.St → Hp → Prop, (∃ m, W 0 m σ H) ∧ ∀ i m σ H, W i m σ H →
      ((Iti d o kvs).stop i H ∧ D.nx σ H) ∨ ((Iti d o kvs).go i H ∧ ∃ N : L2.St → Hp → Prop, (∀ σ' H', N σ' H' → ∃ m', m' < m ∧ W (i + 1) m' σ' H') ∧ ∀ x H', (Iti d o kvs).yld i H x H' → g x σ H' fun σ2 H2 => tb { D with nx := N, ct := N, bk := D.nx } σ2 H2) := by
  refine ⟨fun i m σ H => m = kvs.length - i ∧ i ≤ kvs.length ∧ Pv i σ H, ⟨kvs.length, by simp, Nat.zero_le _, h0⟩, ?_⟩
  rintro i m σ1 H1 ⟨rfl, hi, p⟩
  have q := hl _ _ _ p
  rcases Nat.lt_or_eq_of_le hi with lt | e
  · refine .inr ⟨⟨q, lt⟩, Pv (i + 1), fun σ2 H2 q => ⟨kvs.length - (i + 1), by omega, rfl, lt, q⟩, ?_⟩
    rintro x H2 ⟨T, k, v, hk, rfl, hT, rfl⟩
    exact hs i k v T σ1 H1 hk p hT
  · subst e
    exact .inl ⟨⟨q, Nat.le_refl _⟩, hd _ _ p⟩
end KpR

/-! Kp: a written dict of one pair whose key is a tuple. -/
namespace KpR
open PySem PySem.Spec PyProof.Rows L2
/-- {k: v}, k a tuple of ints and texts; the new dict stands empty while the pair is made -/
def tDispT (tk tv : TE) : TE := fun σ H Q => ∀ p, H p = none → tk σ (upd H p (.dT [])) fun x H1 => tv σ H1 fun v H2 => H2 p = some (.dT []) ∧ ∃ (b : Addr) (k : List L2.Key), x = .ref b ∧ H2 b = some (.tup (k.map kV)) ∧ Q (.ref p) (upd H2 p (.dT [(k, v)]))
def oneP (Q : VK) (p : Addr) : List (V × V) → Hp → Prop
  | [(x, y)], H2 => H2 p = some (.dT []) ∧ ∃ (b : Addr) (kk : List L2.Key), x = .ref b ∧ H2 b = some (.tup (kk.map kV)) ∧ Q (.ref p) (upd H2 p (.dT [(kk, y)]))
  | _, _ => False
theorem oneP_of {tk tv : TE} {σ : L2.St} {H : Hp} {Q : VK} {p : Addr} (h : tk σ H fun x H1 => tv σ H1 fun v H2 => H2 p = some (.dT []) ∧ ∃ (b : Addr) (k : List L2.Key), x = .ref b ∧ H2 b = some (.tup (k.map kV)) ∧ Q (.ref p) (upd H2 p (.dT [(k, v)]))) :
    tPairs [(tk, tv)] σ H (oneP Q p) := h
theorem pe_dispT {X : Cx} {pos : Pos} {k v : Expr} {tk tv : TE} (hu : X.A.units + 1 < cLine) (hk : PE X k tk) (hv : PE X v tv) : PE X (.Dict [some k] [v] pos) (tDispT tk tv) := by
  refine ⟨fun pins s σ H Q I q => ?_⟩
  have hn := I.hok.fresh (Nat.le_refl s.heap.objs.size)
  have I1 := I.laid (a := s.heap.objs.size) (o := .dT []) (h' := s.heap.push { cls := .type "dict", data := .dict #[] }) (t' := s.toks) (fun _ _ q => Heap.get?_push_of_some _ q) (Nat.le_refl _) (dt_empty s.heap I.big)
  have hp := pps_cons (pos := pos) hk hv pps_nil
  have ln : (pairTrees [some k] [v] X.env pos).length = 1 := pairTrees_length [some k] [v] X.env pos rfl rfl
  have ne : pairTrees [some k] [v] X.env pos ≠ [] := fun z => by
    rw [z] at ln
    cases ln
  have room : (tupleKind (mixKind X.prog X.w)).room X.A := by
    show X.A.units < cLine
    omega
  rw [arm_eval_Dict, zip_pairTrees [some k] [v] X.env pos rfl rfl, dictDisplay_pairs _ ne (by omega)]
  refine wpAny_bind (wpAny_standAt (wpAny_bind (wpAny_subDictH (knd := tupleKind (mixKind X.prog X.w)) room (by omega) ?_)))
  refine thn (hp.run pins _ σ _ (oneP Q s.heap.objs.size) I1 (oneP_of (q _ hn))) ?_
  rintro ws s2 ⟨ps, H2, I2, rel, g⟩
  match ps, g, rel with
  | [(x, y)], ⟨e, b, kk, ex, eb, q2⟩, rel =>
    subst ex
    match ws, rel with
    | [(u1, u2)], .cons ⟨ra, rb⟩ .nil =>
      cases (show u1 = Value.ref b from ra)
      obtain ⟨z, hd, xs, r0, dd⟩ := dt_of I2.hok e
      cases r0
      refine ⟨[(kk, b, u2)], ⟨rfl, rfl, key_of I2.hok eb, trivial⟩, dd, fun h' tk dd' hs => wpAny_pure ⟨.ref s.heap.objs.size, _, ?_, rfl, q2⟩⟩
      obtain ⟨q, es, ep, hq, h2, h3, h4, _, h5⟩ := dd'
      refine d_write I2 (by rw [e]; exact True.intro) hs ⟨q, hq⟩ ⟨by show 1 ≤ sizeLine; decide, hd, [(kk, b, u2)], .cons ⟨rfl, ?_, rb⟩ .nil, q, es, ep, hq, h2, h3, h4, h5⟩
      rw [upd_ne (ne_of eb e (fun z => nomatch z))]
      exact eb
end KpR

/-! Kp: sum of a tuple of ints. -/
namespace KpR
open PySem PySem.Spec PyProof.Rows L2
section
variable {prog : Program} {w : World} {A : Around} {E : Value → Shared → Prop} {s : Shared} {l : Addr} {xs : Array (Int × Tok)}
theorem sum_tupG {Q : Value → Shared → Prop} (hh : A.handled = none) (hl : s.heap.IsTuple l (intItems xs))
    (h : ∀ h' tk t', (∀ b o, s.heap.get? b = some o → h'.get? b = some o) → Q (.int (preSum (numAt xs) xs.size) t') { s with heap := h', toks := tk }) :
    wpAny (model prog w) A (call (.builtin "sum") [.ref l]) Q E s := by
  have lt : l < s.heap.objs.size := by
    obtain ⟨o, e, _⟩ := hl
    exact Heap.lt_size e
  refine call_sum_walkG (wpAny_pyIter_tuple hl ?_)
  refine ⟨_, _, [s.heap.objs.size], _, _, _, numAt xs, rfl, Walks.tuple (A := A.in1) hh _ l (Nat.ne_of_lt lt) (intItems xs), ⟨⟨_, Heap.get?_push_size _ rfl, rfl, rfl⟩, hl.push _⟩, fun b hb => ?_, (fun _ _ => intItems_at), fun h' tk t' hk => ?_⟩
  · show b < (s.heap.push _).objs.size
    rw [Heap.size_push]
    rcases List.mem_cons.mp hb with rfl | hb
    · exact Nat.lt_succ_self _
    · rcases List.mem_cons.mp hb with rfl | hb
      · exact Nat.lt_succ_of_lt lt
      · cases hb
  · have := h h' tk t' fun b o e => by
      refine hk b o (fun hm => ?_) (Heap.get?_push_of_some _ e)
      rcases List.mem_cons.mp hm with e1 | hm
      · exact absurd (e1 ▸ Heap.lt_size e) (Nat.lt_irrefl _)
      · cases hm
    simpa [intItems] using this
end
/-- sum(t) of a tuple of ints -/
def rSumT (K : PySem.W.Frag) : List V → Hp → VK → Prop := fun vs H Q => ∃ (a : Addr) (ns : List Int), vs = [V.ref a] ∧ SqT K H a (ns.map V.int) ∧ Q (.int ns.sum) H
theorem cr_sumT {X : Cx} (hc : X.calm = true) : CallR X (.builtin "sum") (rSumT X.K) := by
  intro pins s σ H vs us Q I r h
  obtain ⟨a, ns, rfl, hs, q⟩ := h
  obtain ⟨its, rv, hl, _⟩ := I.tuple hs
  rw [Vals.ref1 r]
  have hi := rv.ints
  obtain ⟨xs, e⟩ := hi.allInts.items
  have hn : numsOf (intItems xs).toList = ns := by rw [← e]; exact hi.numsOf
  rw [nums_intItems] at hn
  rw [e] at hl
  refine sum_tupG (I.ok.hd hc) (let ⟨o, h1, h2, n, h3⟩ := hl; ⟨o, h1, h2, n, h3⟩) fun h' tk t' hk => ⟨.int _, H, I.kept hk, ⟨_, rfl⟩, ?_⟩
  rw [preSum_eq, List.take_of_length_le (by simp), hn]
  exact q
end KpR

/-! Kp: == and != of lists and tuples of ints, whatever the answer; dicts with int keys. -/
namespace KpR
open PySem PySem.Spec PyProof.Rows L2
def pdInts (l : List Int) : List PyData := l.map PyData.int
section
variable {K : PySem.W.Frag} {H : Hp}
theorem dpInts : ∀ l : List Int, DpAll K H (l.map V.int) (pdInts l)
  | [] => .nil
  | i :: l => .cons (.int i) (dpInts l)
theorem flatT (l : List Int) : Flat 1 (.tuple (pdInts l)) := Flat.tup fun _ _ => Flat.int
theorem flatL (l : List Int) : Flat 1 (.list (pdInts l)) := Flat.list fun _ _ => Flat.int
theorem eqvInts (l m : List Int) : PyData.eqvAll (pdInts l) (pdInts m) = decide (l = m) := eqv_map fun _ _ => eqv_int
theorem eqTI {a b : Addr} {l m : List Int} {Q : VK} (h1 : SqT K H a (l.map V.int)) (h2 : SqT K H b (m.map V.int)) (q : Q (.bl (decide (l = m))) H) : rEqD K (.ref a) (.ref b) H Q := by
  refine eqD (.tup h1 (dpInts l)) (.tup h2 (dpInts m)) ((flatT l).mono (by decide)) ((flatT m).mono (by decide)) ?_
  simp only [PyData.eqv, eqvInts]
  exact q
theorem neTI {a b : Addr} {l m : List Int} {Q : VK} (h1 : SqT K H a (l.map V.int)) (h2 : SqT K H b (m.map V.int)) (q : Q (.bl (!decide (l = m))) H) : rNeD K (.ref a) (.ref b) H Q := by
  refine neD (.tup h1 (dpInts l)) (.tup h2 (dpInts m)) ((flatT l).mono (by decide)) ((flatT m).mono (by decide)) ?_
  simp only [PyData.eqv, eqvInts]
  exact q
theorem eqLI {a b : Addr} {l m : List Int} {Q : VK} (h1 : SqL K H a (l.map V.int)) (h2 : SqL K H b (m.map V.int)) (q : Q (.bl (decide (l = m))) H) : rEqD K (.ref a) (.ref b) H Q := by
  refine eqD (.lst h1 (dpInts l)) (.lst h2 (dpInts m)) ((flatL l).mono (by decide)) ((flatL m).mono (by decide)) ?_
  simp only [PyData.eqv, eqvInts]
  exact q
theorem neLI {a b : Addr} {l m : List Int} {Q : VK} (h1 : SqL K H a (l.map V.int)) (h2 : SqL K H b (m.map V.int)) (q : Q (.bl (!decide (l = m))) H) : rNeD K (.ref a) (.ref b) H Q := by
  refine neD (.lst h1 (dpInts l)) (.lst h2 (dpInts m)) ((flatL l).mono (by decide)) ((flatL m).mono (by decide)) ?_
  simp only [PyData.eqv, eqvInts]
  exact q
end
theorem cut_takeT {xs : List V} {n : Nat} : cutV xs none (some (n : Int)) = xs.take n := by
  unfold cutV
  rw [HT.sIx_nat, HT.sIx_none, List.drop_zero, Nat.sub_zero]
  by_cases h : n ≤ xs.length
  · rw [Nat.min_eq_left h]
  · rw [Nat.min_eq_right (by omega), List.take_length, List.take_of_length_le (by omega)]
/-! dicts -/
theorem putK_new {kvs : List (Key × V)} {k : Key} {v : V} (h : ∀ p ∈ kvs, p.1 ≠ k) : putK kvs k v = kvs ++ [(k, v)] := by
  unfold putK
  rw [if_neg]
  intro z
  obtain ⟨p, hp, e⟩ := List.any_eq_true.mp z
  exact h p hp (of_decide_eq_true e)
theorem putK_last {kvs : List (Key × V)} {k : Key} {u v : V} (h : ∀ p ∈ kvs, p.1 ≠ k) : putK (kvs ++ [(k, u)]) k v = kvs ++ [(k, v)] := by
  unfold putK
  rw [if_pos (by simp), List.map_append]
  congr 1
  · conv => rhs; rw [← List.map_id kvs]
    exact List.map_congr_left fun p hp => by rw [if_neg (h p hp)]; rfl
  · simp
/-- sameness but for two things -/
def Fr2 (w q : Addr) (H H' : Hp) : Prop := ∀ b o, b ≠ w → b ≠ q → H b = some o → H' b = some o
end KpR

/-! Kp: the texts of rows. No Python here. -/
namespace Kp
open PySem PySem.Spec PyProof.Rows L2 TL NumText
def nS (n : Nat) : Str := Str.ofString (toString ((n : Nat) : Int))
theorem nS_tl (n : Nat) : tl (nS n) = numL n := tl_num n
theorem nS_inj {m n : Nat} (h : nS m = nS n) : m = n := numL_inj (by rw [← nS_tl, ← nS_tl, h])
theorem nS_len {n : Nat} (h : n < 10 ^ 13) : (nS n).length ≤ 13 := by
  rw [len_tl, nS_tl]
  exact numL_len (by decide) h
theorem nS_pos (n : Nat) : 1 ≤ (nS n).length := by
  rw [len_tl, nS_tl]
  have := numL_ne n
  have := List.length_pos_iff.mpr this
  omega
theorem numL_lead : ∀ n : Nat, 0 < n → ∃ c r, numL n = c :: r ∧ c ≠ 48 := fun n => by
  induction n using Nat.strongRecOn with
  | _ n ih =>
    intro h0
    by_cases h : n < 10
    · exact ⟨48 + n, [], numL_lt h, by omega⟩
    · obtain ⟨c, r, e, hc⟩ := ih (n / 10) (by omega) (by omega)
      exact ⟨c, r ++ [48 + n % 10], by rw [numL_step (by omega), e]; rfl, hc⟩
/-- what is_number looks at -/
def isDg (c : Nat) : Bool := decide (48 ≤ c) && decide (c ≤ 57)
def isNum (l : List Nat) : Bool := decide (1 ≤ l.length) && decide (l.length ≤ 13) && l.all isDg && (decide (l = [48]) || !decide (l.head? = some 48))
theorem isNum_nS {n : Nat} (h : n < 10 ^ 13) : isNum (tl (nS n)) = true := by
  have l1 := nS_pos n
  have l2 := nS_len h
  rw [len_tl] at l1 l2
  have ad : (tl (nS n)).all isDg = true := by
    rw [List.all_eq_true, nS_tl]
    intro c hc
    have := numL_digits n c hc
    unfold isDg
    rw [decide_eq_true (by omega), decide_eq_true (by omega)]
    rfl
  unfold isNum
  rw [decide_eq_true l1, decide_eq_true l2, ad]
  rcases Nat.eq_zero_or_pos n with rfl | h0
  · rw [nS_tl, numL_lt (by decide)]
    rfl
  · obtain ⟨c, r, e, hc⟩ := numL_lead n h0
    rw [nS_tl, e, List.head?_cons, decide_eq_false (fun z => hc (Option.some.inj z))]
    simp
theorem nS_free {n s : Nat} (h : s < 48 ∨ 57 < s) : s ∉ tl (nS n) := by
  rw [nS_tl]
  exact numL_free h
/-- a deed's text -/
def D.wd : D → Str
  | .pour _ _ => "pour"
  | .put _ _ => "put"
  | .draw _ _ => "draw"
  | .change _ _ => "change"
def D.one : D → Nat
  | .pour a _ => a
  | .put a _ => a
  | .draw a _ => a
  | .change a _ => a
def D.two : D → Nat
  | .pour _ b => b
  | .put _ k => k.toNat
  | .draw _ k => k.toNat
  | .change _ b => b
def D.prt (d : D) : List Str := [d.wd, nS d.one, nS d.two]
def spc : Str := " "
def cma : Str := ", "
theorem spc_tl : tl spc = [32] := by unfold spc; decide +kernel
theorem cma_tl : tl cma = [44, 32] := by unfold cma; decide +kernel
def dT (d : D) : Str := Txt.join spc d.prt
def none_ : Str := "none"
def rT (ds : List D) : Str := if ds = [] then none_ else Txt.join cma (ds.map dT)
theorem wd_free (d : D) : 32 ∉ tl d.wd ∧ 44 ∉ tl d.wd := by
  cases d <;> simp only [D.wd] <;> decide +kernel
theorem prt_free (d : D) : ∀ p ∈ d.prt, 32 ∉ tl p ∧ 44 ∉ tl p := fun p hp => by
  simp only [D.prt, List.mem_cons, List.not_mem_nil, or_false] at hp
  rcases hp with rfl | rfl | rfl
  · exact wd_free d
  · exact ⟨nS_free (.inl (by decide)), nS_free (.inl (by decide))⟩
  · exact ⟨nS_free (.inl (by decide)), nS_free (.inl (by decide))⟩
theorem dT_split (d : D) : Txt.split (dT d) spc = d.prt :=
  split_join (s := 32) (S := []) spc_tl (by unfold spc; decide +kernel) (by simp [D.prt]) fun p hp => (prt_free d p hp).1
theorem dT_tl (d : D) : tl (dT d) = tl d.wd ++ ([32] ++ (tl (nS d.one) ++ ([32] ++ tl (nS d.two)))) := by
  unfold dT
  rw [join_eq, tl_join, spc_tl]
  rfl
theorem dT_free (d : D) : 44 ∉ tl (dT d) := by
  rw [dT_tl]
  have h := prt_free d
  simp only [D.prt, List.mem_cons, List.not_mem_nil, or_false, forall_eq_or_imp, forall_eq] at h
  simp only [List.mem_append, List.mem_singleton, not_or]
  exact ⟨h.1.2, by decide, h.2.1.2, by decide, h.2.2.2⟩
theorem rT_split {ds : List D} (h : ds ≠ []) : Txt.split (rT ds) cma = ds.map dT := by
  unfold rT
  rw [if_neg h]
  refine split_join (s := 44) (S := [32]) cma_tl (by unfold cma; decide +kernel) (fun e => h (List.map_eq_nil_iff.mp e)) fun p hp => ?_
  obtain ⟨d, _, rfl⟩ := List.mem_map.mp hp
  exact dT_free d
theorem rT_none {ds : List D} : rT ds = none_ ↔ ds = [] := by
  constructor
  · intro e
    refine Classical.byContradiction fun h => ?_
    have s := rT_split h
    rw [e] at s
    have : Txt.split none_ cma = [none_] := by unfold none_ cma; decide +kernel
    rw [this] at s
    cases ds with
    | nil => exact h rfl
    | cons d r =>
      have e2 : none_ = dT d := by
        have := congrArg List.head? s
        simpa using this
      have e3 := congrArg tl e2
      rw [dT_tl] at e3
      have m : 32 ∈ tl none_ := by rw [e3]; simp
      exact absurd m (by unfold none_; decide +kernel)
  · rintro rfl
    rfl
/-- deeds whose numbers can be written -/
def D.can (d : D) : Prop := (∀ a k, (d = .put a k ∨ d = .draw a k) → 0 ≤ k ∧ k < 10 ^ 13) ∧ d.one < 10 ^ 13 ∧ d.two < 10 ^ 13
theorem dT_inj {d e : D} (h1 : d.can) (h2 : e.can) (h : dT d = dT e) : d = e := by
  have p : d.prt = e.prt := by rw [← dT_split, ← dT_split, h]
  simp only [D.prt, List.cons.injEq, and_true] at p
  obtain ⟨w, a, b⟩ := p
  have a := nS_inj a
  have b := nS_inj b
  have ne : ∀ {x y : Str}, tl x ≠ tl y → x ≠ y := fun h e => h (congrArg tl e)
  cases d with
  | pour x y => cases e with
    | pour u v =>
      have a : x = u := a
      have b : y = v := b
      rw [a, b]
    | put u v => exact absurd w (ne (x := "pour") (y := "put") (by decide +kernel))
    | draw u v => exact absurd w (ne (x := "pour") (y := "draw") (by decide +kernel))
    | change u v => exact absurd w (ne (x := "pour") (y := "change") (by decide +kernel))
  | put x y => cases e with
    | pour u v => exact absurd w (ne (x := "put") (y := "pour") (by decide +kernel))
    | put u v =>
      have a : x = u := a
      have b : y.toNat = v.toNat := b
      have p := h1.1 _ _ (.inl rfl)
      have q := h2.1 _ _ (.inl rfl)
      rw [a, show y = v by omega]
    | draw u v => exact absurd w (ne (x := "put") (y := "draw") (by decide +kernel))
    | change u v => exact absurd w (ne (x := "put") (y := "change") (by decide +kernel))
  | draw x y => cases e with
    | pour u v => exact absurd w (ne (x := "draw") (y := "pour") (by decide +kernel))
    | put u v => exact absurd w (ne (x := "draw") (y := "put") (by decide +kernel))
    | draw u v =>
      have a : x = u := a
      have b : y.toNat = v.toNat := b
      have p := h1.1 _ _ (.inr rfl)
      have q := h2.1 _ _ (.inr rfl)
      rw [a, show y = v by omega]
    | change u v => exact absurd w (ne (x := "draw") (y := "change") (by decide +kernel))
  | change x y => cases e with
    | pour u v => exact absurd w (ne (x := "change") (y := "pour") (by decide +kernel))
    | put u v => exact absurd w (ne (x := "change") (y := "put") (by decide +kernel))
    | draw u v => exact absurd w (ne (x := "change") (y := "draw") (by decide +kernel))
    | change u v =>
      have a : x = u := a
      have b : y = v := b
      rw [a, b]
theorem map_dT_inj : ∀ {ds es : List D}, (∀ d ∈ ds, d.can) → (∀ d ∈ es, d.can) → ds.map dT = es.map dT → ds = es
  | [], [], _, _, _ => rfl
  | [], _ :: _, _, _, h => by cases h
  | _ :: _, [], _, _, h => by cases h
  | d :: ds, e :: es, h1, h2, h => by
    injection h with a b
    rw [dT_inj (h1 d (List.mem_cons_self ..)) (h2 e (List.mem_cons_self ..)) a, map_dT_inj (fun x hx => h1 x (List.mem_cons_of_mem _ hx)) (fun x hx => h2 x (List.mem_cons_of_mem _ hx)) b]
theorem rT_inj {ds es : List D} (h1 : ∀ d ∈ ds, d.can) (h2 : ∀ d ∈ es, d.can) (h : rT ds = rT es) : ds = es := by
  by_cases c : ds = []
  · rw [c] at h
    rw [c]
    exact (rT_none.mp (h.symm.trans rfl)).symm
  · by_cases c2 : es = []
    · rw [c2] at h
      exact absurd (rT_none.mp h) c
    · refine map_dT_inj h1 h2 ?_
      rw [← rT_split c, ← rT_split c2, h]
theorem wd_len (d : D) : d.wd.length ≤ 6 := by cases d <;> simp only [D.wd] <;> decide +kernel
theorem dT_len {d : D} (h : d.can) : (dT d).length ≤ 34 := by
  have h1 := nS_len h.2.1
  have h2 := nS_len h.2.2
  have h3 := wd_len d
  rw [len_tl] at h1 h2 h3 ⊢
  rw [dT_tl]
  simp only [List.length_append, List.length_singleton]
  omega
theorem sumlen : ∀ {ds : List D}, (∀ d ∈ ds, d.can) → ((ds.map dT).map (·.length)).sum ≤ 34 * ds.length
  | [], _ => by simp
  | d :: ds, h => by
    have := sumlen (ds := ds) fun x hx => h x (List.mem_cons_of_mem _ hx)
    have := dT_len (h d (List.mem_cons_self ..))
    simp only [List.map_cons, List.sum_cons, List.length_cons]
    omega
theorem joinLen {S : List Nat} : ∀ ps : List (List Nat), (joinL S ps).length ≤ (ps.map List.length).sum + ps.length * S.length
  | [] => by simp [joinL]
  | [p] => by simp [joinL]
  | p :: q :: r => by
    have := joinLen (S := S) (q :: r)
    show (p ++ (S ++ joinL S (q :: r))).length ≤ _
    simp only [List.length_append, List.map_cons, List.sum_cons, List.length_cons] at this ⊢
    rw [Nat.succ_mul]
    omega
theorem rT_len {ds : List D} (h : ∀ d ∈ ds, d.can) (l20 : ds.length ≤ 20) : (rT ds).length ≤ 800 := by
  unfold rT
  split
  · exact Nat.le_trans (by unfold none_; decide +kernel : none_.length ≤ 4) (by decide)
  · rw [len_tl, join_eq, tl_join, cma_tl]
    have h1 := joinLen (S := [44, 32]) ((ds.map dT).map tl)
    have h2 := sumlen h
    have e : ((ds.map dT).map tl).map List.length = (ds.map dT).map (·.length) := by
      rw [List.map_map]
      exact List.map_congr_left fun x _ => (len_tl x).symm
    rw [e] at h1
    simp only [List.length_map, List.length_cons, List.length_nil] at h1
    omega
theorem ok_can {caps : List Int} {d : D} (c6 : caps.length ≤ 6) (h : d.ok caps) : d.can := by
  have big : (10 : Int) ^ 13 = 10000000000000 := by decide
  have bigN : (10 : Nat) ^ 13 = 10000000000000 := by decide
  rw [D.can, big, bigN]
  cases d with
  | pour a b => exact ⟨fun x k e => (by rcases e with e | e <;> cases e), by have := h.1; simp only [D.one]; omega, by have := h.2.1; simp only [D.two]; omega⟩
  | put a k => exact ⟨fun x j e => by
      have := h.2
      rcases e with e | e <;> cases e
      omega, by have := h.1; simp only [D.one]; omega, by have := h.2; simp only [D.two]; omega⟩
  | draw a k => exact ⟨fun x j e => by
      have := h.2
      rcases e with e | e <;> cases e
      omega, by have := h.1; simp only [D.one]; omega, by have := h.2; simp only [D.two]; omega⟩
  | change a b => exact ⟨fun x k e => (by rcases e with e | e <;> cases e), by have := h.1; simp only [D.one]; omega, by have := h.2.1; simp only [D.two]; omega⟩
/-- the text put together piece by piece -/
theorem dT_app (d : D) : d.wd ++ " " ++ nS d.one ++ " " ++ nS d.two = dT d := by
  refine ext_tl ?_
  rw [tl_append, tl_append, tl_append, tl_append, dT_tl, show tl (" " : Str) = [32] from spc_tl]
  simp only [List.append_assoc]
end Kp

/-! Kp: texts of rows, any texts: what is read of them. No Python here. -/
namespace Kp
open PySem PySem.Spec PyProof.Rows L2 TL NumText
/-- the number that figures write -/
def val (l : List Nat) : Nat := l.foldl (fun m c => m * 10 + (c - 48)) 0
theorem val_snoc (l : List Nat) (c : Nat) : val (l ++ [c]) = val l * 10 + (c - 48) := by
  unfold val
  rw [List.foldl_append]
  rfl
theorem numL_val : ∀ (k : Nat) (l : List Nat), l.length = k → l ≠ [] → (∀ c ∈ l, 48 ≤ c ∧ c ≤ 57) → l.head? ≠ some 48 → numL (val l) = l ∧ 0 < val l
  | 0, l, h, ne, _, _ => absurd (List.eq_nil_of_length_eq_zero h) ne
  | k + 1, l, h, ne, dg, hd => by
    rcases List.eq_nil_or_concat l with e | ⟨l', c, e⟩
    · exact absurd e ne
    rw [List.concat_eq_append] at e
    subst e
    have hc := dg c (by simp)
    rw [val_snoc]
    by_cases e : l' = []
    · subst e
      have c48 : c ≠ 48 := fun z => hd (by rw [z]; rfl)
      have v0 : val [] = 0 := rfl
      rw [v0]
      refine ⟨?_, by omega⟩
      rw [numL_lt (by omega)]
      simp only [List.nil_append, Nat.zero_mul, Nat.zero_add]
      rw [show 48 + (c - 48) = c by omega]
    · have len : l'.length = k := by simp at h; exact h
      have hd' : l'.head? ≠ some 48 := fun z => hd (by
        cases l' with
        | nil => cases z
        | cons a r => exact z)
      obtain ⟨i1, i2⟩ := numL_val k l' len e (fun c hc => dg c (List.mem_append_left _ hc)) hd'
      refine ⟨?_, by omega⟩
      rw [numL_step (by omega), show (val l' * 10 + (c - 48)) / 10 = val l' by omega, i1, show 48 + (val l' * 10 + (c - 48)) % 10 = c by omega]
theorem val_lt : ∀ (k : Nat) (l : List Nat), l.length = k → (∀ c ∈ l, 48 ≤ c ∧ c ≤ 57) → val l < 10 ^ k
  | 0, l, h, _ => by
    rw [List.eq_nil_of_length_eq_zero h]
    decide
  | k + 1, l, h, dg => by
    rcases List.eq_nil_or_concat l with e | ⟨l', c, e⟩
    · rw [e] at h
      cases h
    rw [List.concat_eq_append] at e
    subst e
    have hc := dg c (by simp)
    have i := val_lt k l' (by simp at h; exact h) (fun c hc => dg c (List.mem_append_left _ hc))
    rw [val_snoc, Nat.pow_succ]
    omega
/-- the number of a text -/
def nv (x : Str) : Nat := val (tl x)
theorem nv_ok {x : Str} (h : isNum (tl x) = true) : x = nS (nv x) ∧ nv x < 10 ^ 13 := by
  unfold isNum at h
  simp only [Bool.and_eq_true, Bool.or_eq_true, decide_eq_true_eq, Bool.not_eq_true', decide_eq_false_iff_not, List.all_eq_true] at h
  obtain ⟨⟨⟨h1, h2⟩, h3⟩, h4⟩ := h
  have dg : ∀ c ∈ tl x, 48 ≤ c ∧ c ≤ 57 := fun c hc => by
    have := h3 c hc
    unfold isDg at this
    simpa using this
  refine ⟨ext_tl ?_, Nat.lt_of_lt_of_le (val_lt _ _ rfl dg) (Nat.pow_le_pow_right (by decide) h2)⟩
  rw [nS_tl]
  unfold nv
  rcases h4 with e | e
  · rw [e]
    decide
  · exact (numL_val _ _ rfl (fun z => by rw [z] at h1; simp at h1) dg e).1.symm
theorem spl_small (S : List Nat) : ∀ (l : List Nat) (k : Nat) (acc : List Nat), (spl S k acc l).length ≤ l.length + 1 ∧ ∀ p ∈ spl S k acc l, p.length ≤ acc.length + l.length
  | [], k, acc => by
    rw [spl_nil]
    exact ⟨by simp, fun p hp => by rw [List.mem_singleton.mp hp]; simp⟩
  | c :: r, 0, acc => by
    cases h : pre S (c :: r) with
    | true =>
      rw [spl_hit h]
      obtain ⟨h1, h2⟩ := spl_small S r (S.length - 1) []
      refine ⟨by simp only [List.length_cons]; omega, fun p hp => ?_⟩
      rcases List.mem_cons.mp hp with e | hp
      · rw [e]
        omega
      · have : p.length ≤ r.length := by simpa using h2 p hp
        simp only [List.length_cons]
        omega
    | false =>
      rw [spl_miss h]
      obtain ⟨h1, h2⟩ := spl_small S r 0 (acc ++ [c])
      refine ⟨by simp only [List.length_cons]; omega, fun p hp => ?_⟩
      have := h2 p hp
      simp only [List.length_append, List.length_cons, List.length_nil] at this ⊢
      omega
  | c :: r, k + 1, acc => by
    show (spl S k acc r).length ≤ _ ∧ ∀ p ∈ spl S k acc r, _
    obtain ⟨h1, h2⟩ := spl_small S r k acc
    refine ⟨by simp only [List.length_cons]; omega, fun p hp => ?_⟩
    have := h2 p hp
    simp only [List.length_cons] at this ⊢
    omega
theorem split_small {x y : Str} (hy : tl y ≠ []) (hk : y.cps.all (· < 256) = true) : (Txt.split x y).length ≤ x.length + 1 ∧ ∀ p ∈ Txt.split x y, p.length ≤ x.length := by
  have e := split_spl x y hy (kind_ok hk)
  obtain ⟨h1, h2⟩ := spl_small (tl y) (tl x) 0 []
  rw [← e] at h1 h2
  refine ⟨by rw [List.length_map] at h1; rw [len_tl]; exact h1, fun p hp => ?_⟩
  have := h2 (tl p) (List.mem_map.mpr ⟨p, hp, rfl⟩)
  rw [len_tl, len_tl]
  simpa using this
theorem split_spc (x : Str) : (Txt.split x spc).length ≤ x.length + 1 ∧ ∀ p ∈ Txt.split x spc, p.length ≤ x.length := split_small (by rw [spc_tl]; simp) (by unfold spc; decide +kernel)
theorem split_cma (x : Str) : (Txt.split x cma).length ≤ x.length + 1 ∧ ∀ p ∈ Txt.split x cma, p.length ≤ x.length := split_small (by rw [cma_tl]; simp) (by unfold cma; decide +kernel)
theorem spl_sum (S : List Nat) : ∀ (l : List Nat) (k : Nat) (acc : List Nat), ((spl S k acc l).map List.length).sum ≤ acc.length + l.length ∧ 1 ≤ (spl S k acc l).length
  | [], k, acc => by
    rw [spl_nil]
    simp
  | c :: r, 0, acc => by
    cases h : pre S (c :: r) with
    | true =>
      rw [spl_hit h]
      obtain ⟨h1, h2⟩ := spl_sum S r (S.length - 1) []
      simp only [List.map_cons, List.sum_cons, List.length_cons, List.length_nil] at h1 ⊢
      omega
    | false =>
      rw [spl_miss h]
      obtain ⟨h1, h2⟩ := spl_sum S r 0 (acc ++ [c])
      simp only [List.length_append, List.length_cons, List.length_nil] at h1 ⊢
      omega
  | c :: r, k + 1, acc => by
    show ((spl S k acc r).map List.length).sum ≤ _ ∧ 1 ≤ (spl S k acc r).length
    obtain ⟨h1, h2⟩ := spl_sum S r k acc
    simp only [List.length_cons]
    omega
theorem split_cma_sum (x : Str) : ((Txt.split x cma).map (·.length)).sum ≤ x.length ∧ 1 ≤ (Txt.split x cma).length := by
  have e := split_spl x cma (by rw [cma_tl]; simp) (kind_ok (by unfold cma; decide +kernel))
  obtain ⟨h1, h2⟩ := spl_sum (tl cma) (tl x) 0 []
  rw [← e] at h1 h2
  rw [List.length_map] at h2
  rw [List.map_map] at h1
  refine ⟨?_, h2⟩
  have e2 : (Txt.split x cma).map (·.length) = (Txt.split x cma).map (List.length ∘ tl) := List.map_congr_left fun p _ => len_tl p
  rw [e2, len_tl]
  simpa using h1
def total (l : List Str) : Nat := (l.map (·.length)).sum
theorem total_app (a b : List Str) : total (a ++ b) = total a + total b := by
  unfold total
  rw [List.map_append, List.sum_append]
theorem total_take (l : List Str) (n : Nat) : total (l.take n) ≤ total l := by
  have := total_app (l.take n) (l.drop n)
  rw [List.take_append_drop] at this
  omega
theorem total_drop (l : List Str) (n : Nat) : total (l.drop n) ≤ total l := by
  have := total_app (l.take n) (l.drop n)
  rw [List.take_append_drop] at this
  omega
theorem total_rep (l : List Str) : ∀ n : Nat, total (List.replicate n l).flatten = n * total l
  | 0 => by simp [total]
  | n + 1 => by
    rw [List.replicate_succ, List.flatten_cons, total_app, total_rep l n, Nat.succ_mul]
    omega
theorem join_total (l : List Str) : (Txt.join cma l).length ≤ total l + 2 * l.length := by
  rw [len_tl, join_eq, tl_join, cma_tl]
  have h1 := joinLen (S := [44, 32]) (l.map tl)
  have e : (l.map tl).map List.length = l.map (·.length) := by
    rw [List.map_map]
    exact List.map_congr_left fun x _ => (len_tl x).symm
  rw [e] at h1
  simp only [List.length_map, List.length_cons, List.length_nil] at h1
  unfold total
  omega
end Kp

namespace KpR
open PySem PySem.Spec PyProof.Rows L2
section
variable {X : Cx} {E : XK} {pins : List (Addr × Obj)} {σ : L2.St} {H3 : Hp} {s3 : Shared} {scope : Scope} {ce : Env} {fp : List Addr}
/-- the block of a comprehension, its wish about exceptions -/
abbrev blkE (X : Cx) (s : Shared) (H : Hp) (scope : Scope) (ce : Env) (fp : List Addr) (xe : Value → Shared → Prop) : Cx := (X.blk s H scope ce fp).wish xe
/-- what is owed when an exception leaves the block -/
abbrev owes (X : Cx) (ce : Env) : Value → Shared → Prop := notedBy (model X.prog X.w) X.A ce (CompFails (model X.prog X.w) X.A X.xe ce)
theorem comp_fails (hs : X.stack = X.env :: X.outer) (hf : X.env.frame = some X.env.locals) (tk : Takes X (fun cls d _ H => E cls d H)) (I3 : Inv X pins σ H3 s3) (hcf : ce.frame = X.env.frame) (hcl : s3.heap.objs.size ≤ ce.locals)
    (f3 : ∀ b ∈ fp, FpOk X pins H3 b) : Passes (L2.CX X.prog X.w) (blkE X s3 H3 scope ce fp (owes X ce)) E := by
  intro pins' σ' H s e s' I c
  obtain ⟨a, B, H', cls, d, rfl, fl, hok, ub, na, os, ag, hE⟩ := c
  have fl : HandSPX.FlyingZ B (X.env :: X.outer) a (Zc cls d) s'.heap := by rw [← hs]; exact fl
  have hfr : X.A.frames = some (X.env :: X.outer) := by rw [I3.ok.frames, hs]
  have cF : ce.locals ∉ frs X.stack := fun hm => by
    obtain ⟨_, o, e, _⟩ := I3.stack.mem hm
    exact absurd (Nat.lt_of_lt_of_le (Heap.lt_size e) hcl) (Nat.lt_irrefl _)
  obtain ⟨m, hn, _⟩ := I.loc
  have hn : s.heap.Ns ce.locals m := hn
  have cN : H ce.locals = none := I.free
  obtain ⟨oC, es, ep, hoC, hdC, rC⟩ := id hn
  have bC : B.get? ce.locals = some oC := ub.keep _ _ hoC cN cF
  have base : Un (frs X.stack) fp H3 H s3.heap s.heap := I.base
  show wpAny _ _ (noteFrame (.ref a) ce) _ _ s'
  rw [noteFrame_env _ hcf]
  refine HandSPX.looks_onZ Zc.steady hfr hf fl fun h1 hh up1 => ?_
  obtain ⟨k1, k2, k3, k4⟩ := hh
  have hn1 : h1.Ns ce.locals m := ⟨oC, es, ep, k1 _ _ bC, hdC, rC⟩
  refine ⟨m, hn1, fun h2 m2 hn2 sb => ?_⟩
  have at2 : ∀ {b : Addr}, b ≠ ce.locals → h2.get? b = h1.get? b := fun {b} n => sb.2 b n
  obtain ⟨B2, gone, kept⟩ : ∃ B2 : Heap, B2.get? ce.locals = none ∧ (∀ b, b ≠ ce.locals → B2.get? b = B.get? b) := by
    obtain ⟨G, g1, g2⟩ := restrict B fun b => !decide (b = ce.locals)
    exact ⟨G, g2 _ (by simp), fun b n => g1 b (by simp [n])⟩
  have ofB : ∀ {b : Addr} {o : Obj}, B2.get? b = some o → b ≠ ce.locals ∧ B.get? b = some o := fun {b o} e => by
    have n : b ≠ ce.locals := fun z => by rw [z, gone] at e; cases e
    exact ⟨n, by rw [← kept b n]; exact e⟩
  have noB : ∀ {b : Addr}, B.get? b = none → B2.get? b = none := fun {b} e => by
    cases q : B2.get? b with
    | none => rfl
    | some o =>
      have z := (ofB q).2
      rw [e] at z
      cases z
  have j1 : B2.StaysIn h2 := fun b o e => by
    obtain ⟨n, e⟩ := ofB e
    rw [at2 n]
    exact k1 b o e
  have j3 : h2.FunFrames B2 (X.env :: X.outer) := funFrames_none (Heap.FunFrames.sameBut sb hn2 k3) fun L hL => noB (k3.mem hL).1
  obtain ⟨oe, vs, T, oT, ts, he, hz, hd, hv1, hnT, hTe, hT, hdT, h3⟩ := id k4
  have notC : ∀ {b : Addr} {o : Obj} {xs : Array Value}, h1.get? b = some o → o.data = .fields xs → b ≠ ce.locals := fun {b o xs} e q z => by
    rw [z, k1 _ _ bC] at e
    cases e
    rw [hdC] at q
    cases q
  have naC := notC he hd
  have nTC := notC hT hdT
  have tr2 : HandSPX.TracedZ h2 B2 a (Zc cls d) (rawInt X.env.locals) := ⟨oe, vs, T, oT, ts, by rw [at2 naC]; exact he, hz, hd, hv1, noB hnT, hTe, by rw [at2 nTC]; exact hT, hdT, h3⟩
  have hh2 : HandSPX.HeldZ B2 (X.env :: X.outer) a (Zc cls d) X.env.locals h2 := ⟨j1, noB k2, j3, tr2⟩
  unfold PySem.passOn
  refine wpAny_bind (wpAny_field (by rw [at2 naC]; exact he) hd hv1 ?_)
  rw [if_neg (show ¬ ((Value.ref T == Value.none) = true) from by simp)]
  rw [hcf, hf]
  refine wpAny_bind (HandSPX.setFlight_onZ (s := { s' with heap := h2 }) hh2 fun h4 hh4 up4 => ?_)
  refine wpAny_throw (tk _ _ ?_)
  -- the state without the exception
  obtain ⟨G, g1, g2⟩ := restrict h4 fun b => (B2.get? b).isSome || decide (b ∈ frs X.stack)
  have st4 : B2.StaysIn h4 := hh4.1
  have gB : ∀ b o, B2.get? b = some o → G.get? b = some o := fun b o e => by
    rw [g1 b (by simp [e])]
    exact st4 b o e
  have gF : ∀ b, b ∈ frs X.stack → G.get? b = h4.get? b := fun b hb => g1 b (by simp [hb])
  have og : ∀ b o, G.get? b = some o → h4.get? b = some o ∧ ((B2.get? b).isSome = true ∨ b ∈ frs X.stack) := fun b o e => by
    cases q : ((B2.get? b).isSome || decide (b ∈ frs X.stack)) with
    | false => rw [g2 b q] at e; cases e
    | true =>
      rw [g1 b q] at e
      exact ⟨e, by simpa [Bool.or_eq_true] using q⟩
  have oldC : ∀ {b : Addr} {o : Obj}, s3.heap.get? b = some o → b ≠ ce.locals := fun {b o} e z => absurd (Nat.lt_of_lt_of_le (Heap.lt_size e) hcl) (by rw [z]; exact Nat.lt_irrefl _)
  have slot : ∀ {b : Addr} {o : Obj}, s3.heap.get? b = some o → H3 b = none → b ∈ frs X.stack → b ∉ fp → ∃ sl, G.get? b = some { o with slots := sl } := fun {b o} e n hb hc => by
    obtain ⟨_, o0, e0, hnf⟩ := I3.stack.mem hb
    rw [e] at e0
    cases e0
    obtain ⟨sl1, q1⟩ := base.slot b o e n hb hc
    obtain ⟨sl2, q2⟩ := ub.slot b _ q1 hb
    obtain ⟨sl3, q3⟩ := up1 b _ q2 hnf
    have q4 : h2.get? b = some { o with slots := sl3 } := by rw [at2 (oldC e)]; exact q3
    obtain ⟨sl5, q5⟩ := up4 b _ q4 hnf
    exact ⟨sl5, by rw [gF b hb]; exact q5⟩
  have hokG : HOk X.prog X.w H' G := fun b o q => by
    have nC : H' ce.locals = none := ub.free _ _ hoC cN
    exact (hok b o q).stay (fun c u hc r => gB c u (by
      rw [kept c fun z => ?_]
      · exact r
      · rcases hc with hc | hc
        · rw [← hc, z, nC] at q
          cases q
        · rw [z, nC] at hc
          cases hc)) (fun _ r => r) fun _ _ r => r
  have un : Un (frs X.stack) fp H3 H' s3.heap G := by
    refine ⟨fun b o e n hb hc => ?_, fun b o e n hb hc => slot e n hb hc, fun b o e n hc => ?_, fun b o e hc => ?_, fun b xs q => ub.tups b xs (base.tups b xs q), fun b o u q => ub.frzs b o u (base.frzs b o u q), fun b ps q => ?_⟩
    · refine gB b o ?_
      rw [kept b (oldC e)]
      exact ub.keep b o (base.keep b o e n hb hc) (base.free b o e n hc) hb
    · obtain ⟨sl, q⟩ := base.any e n hc
      exact ub.free b _ q (base.free b o e n hc)
    · obtain ⟨o1, q1⟩ := base.there b o e hc
      by_cases hb : b ∈ frs X.stack
      · obtain ⟨sl, q⟩ := slot e (I3.stkFree b hb) hb hc
        exact ⟨_, q⟩
      · obtain ⟨o2, q2⟩ := ub.there b o1 q1 hb
        exact ⟨o2, gB b o2 (by rw [kept b (oldC e)]; exact q2)⟩
    · obtain ⟨m1, q1⟩ := base.tbls b ps q
      obtain ⟨m2, q2⟩ := ub.tbls b _ q1
      exact ⟨m1 ++ m2, by rw [q2, Array.append_assoc]⟩
  have os3 : s.os = s3.os := I.os
  refine ⟨a, B2, { s3 with heap := G, gens := s'.gens, drawn := s'.drawn, toks := s'.toks }, pins, σ, H', cls, d, rfl, I3.call un hokG ag fun b hb => ?_, fun b o e hb => ?_, Heap.UpToSlots.of_keeps fun b o e => (og b o e).1, .inr (.inr ?_), na, os.trans os3, ag, hE⟩
  · have f := f3 b hb
    exact ⟨f.2.2.2.1, f.2.1, f.2.2.2.2.1, f.2.2.2.2.2⟩
  · obtain ⟨e', h⟩ := og b o e
    rcases h with h | h
    · obtain ⟨o', q⟩ := Option.isSome_iff_exists.mp h
      have z := st4 b o' q
      rw [e'] at z
      cases z
      exact q
    · exact absurd h hb
  · rw [hs]
    exact hh4
/-- [elt for tg in iter if ..], out of whose element a call may let an exception: tk takes it behind the comprehension -/
theorem pe_lcE {elt tg iter : Expr} {ifs : List Expr} {own : List (Str × Nat)} {pos : Pos} {wi : TI} {g : TG} {tt : TT} {te : TE} (hs : X.stack = X.env :: X.outer) (hf : X.env.frame = some X.env.locals) (tk : Takes X (fun cls d _ H => E cls d H))
    (hc : X.calm = true) (hN : X.N.Nodup) (hi : PI X tg iter wi) (ok : BlkOk X.N X.env.scope scope own)
    (hg : ∀ (s : Shared) (H : Hp) (C : Addr) (cl : List (Str × Addr)) (fp : List Addr) (xe : Value → Shared → Prop), PG (blkE X s H scope (compEnvC scope cl C X.env) fp xe) tg g)
    (ht : ∀ (s : Shared) (H : Hp) (C : Addr) (cl : List (Str × Addr)) (fp : List Addr) (xe : Value → Shared → Prop), PTs (blkE X s H scope (compEnvC scope cl C X.env) fp xe) ifs tt)
    (he : ∀ (s : Shared) (H : Hp) (C : Addr) (cl : List (Str × Addr)) (fp : List Addr) (xe : Value → Shared → Prop), Passes (L2.CX X.prog X.w) (blkE X s H scope (compEnvC scope cl C X.env) fp xe) E → PE (blkE X s H scope (compEnvC scope cl C X.env) fp xe) elt te)
    (hfold : ∀ x, foldedSetIterable iter X.env x = pure x := by intro _; rfl) : PE X (.ListComp elt [⟨tg, iter, ifs, 0⟩] scope pos) (tLc wi g tt te (own.map (·.2))) := by
  refine ⟨fun pins s σ H Q I h => ?_⟩
  rw [eval_ListComp]
  have cells : ∀ y ∈ scope.names, y.2 = .free → ∃ c, X.env.cells.lookup y.1 = some c := fun y hy e => (ok.free y hy e).elim (fun k => I.ok.has _ (.inl k)) fun k => I.ok.has _ (.inr k)
  refine comprehension_at (use := none) rfl hfold (closure_ok cells) ok.kind (fun y hy e => by rw [ok.uniq y hy, e]) (wpAny_mono (hi.run pins s σ H _ I h) (fun xv sa ha => wpAny_mono ha (fun itv sb hb => ?_) fun _ _ z => z) fun _ _ z => z)
  obtain ⟨it, fp, tn, J, Hb, rfl, Ib, Tn, stb, fb, q⟩ := hb
  refine wpAny_newObj_type (newEnv_comp ?_) (by show 0 ≤ sizeLine; decide)
  generalize hD : sb.heap.objs.size = D
  have Dn : Hb D = none := Ib.hok.fresh (Nat.le_of_eq hD)
  obtain ⟨W, ⟨m0, w0⟩, turn⟩ := q D Dn
  generalize hsc : ({ sb with heap := sb.heap.push { cls := .type "list", data := .seq ([] : List Value).toArray } } : Shared) = sc
  have heq : sc.heap = sb.heap.push { cls := .type "list", data := .seq ([] : List Value).toArray } := by rw [← hsc]
  have Ic : Inv X pins σ (upd Hb D (.lst [])) sc := by
    rw [← hsc]
    refine Ib.laid (t' := sb.toks) (fun b o e => Heap.get?_push_of_some _ e) (Nat.le_of_eq hD) ⟨Nat.zero_le _, [], 0, .nil, ?_⟩
    rw [← hD]
    exact Heap.get?_push_size _ rfl
  have below : ∀ b ∈ fp, b < sb.heap.objs.size := fun b k => by
    obtain ⟨o, e, _⟩ := Tn.obj _ _ stb b k
    exact Heap.lt_size e
  have fc : ∀ b ∈ fp, FpOk X pins (upd Hb D (.lst [])) b ∧ b < sc.heap.objs.size := fun b k => by
    have lt := below b k
    refine ⟨⟨?_, (fb b k).2⟩, by rw [heq, Heap.size_push]; exact Nat.lt_succ_of_lt lt⟩
    rw [upd_ne (by rw [← hD]; exact Nat.ne_of_lt lt)]
    exact (fb b k).1
  have stc : tn 0 sc.heap := Tn.keep _ _ _ stb fun b _ o e => by rw [heq]; exact Heap.get?_push_of_some _ e
  have Id := block_start Ic ok hN fc
  generalize hcl : cellsFrom (sc.heap.objs.size + 1) scope.names (cloFrom X.env.cells scope.names []) = cl at Id
  show codeAny _ _ (.compStart (.ListComp elt [⟨tg, iter, ifs, 0⟩] scope pos) 0 (.ref it) (.ref D) (compEnvC scope cl sc.heap.objs.size X.env)) (compEnds (model X.prog X.w) X.A X.xe none (EP X pins σ Q) (.ref D) (compEnvC scope cl sc.heap.objs.size X.env)) { sc with heap := pushCells (sc.heap.push { cls := .type "dict", data := .dict #[] }) scope.names }
  have free0 : ∀ b ∈ fp, (upd Hb D (.lst [])) b = none := fun b k => (fc b k).1.1
  generalize hHc : upd Hb D (.lst []) = Hc at Ic Id w0 free0 fc
  have pas := comp_fails (fp := fp) (scope := scope) (ce := compEnvC scope cl sc.heap.objs.size X.env) hs hf tk Ic rfl (Nat.le_refl _) fun b k => (fc b k).1
  have pg := hg sc Hc sc.heap.objs.size cl fp (owes X (compEnvC scope cl sc.heap.objs.size X.env))
  have pt := ht sc Hc sc.heap.objs.size cl fp (owes X (compEnvC scope cl sc.heap.objs.size X.env))
  have pe := he sc Hc sc.heap.objs.size cl fp (owes X (compEnvC scope cl sc.heap.objs.size X.env)) pas
  have cL : (compEnvC scope cl sc.heap.objs.size X.env).locals = sc.heap.objs.size := rfl
  generalize compEnvC scope cl sc.heap.objs.size X.env = ce at Id pas pg pt pe cL ⊢
  generalize hsd : ({ sc with heap := pushCells (sc.heap.push { cls := .type "dict", data := .dict #[] }) scope.names } : Shared) = sd at Id ⊢
  have std : tn 0 sd.heap := Tn.keep _ _ _ stc fun b _ o e => by rw [← hsd]; exact pushCells_keeps _ _ _ _ (Heap.get?_push_of_some _ e)
  have Id := Id.wish (owes X ce)
  have fps : ∀ {σ' : L2.St} {H' : Hp} {s' : Shared}, Inv (blkE X sc Hc scope ce fp (owes X ce)) [] σ' H' s' → (∀ b ∈ fp, H' b = none) → ∀ b ∈ fp, FpOk (blkE X sc Hc scope ce fp (owes X ce)) [] H' b := fun {σ' H' s'} I' hn b hb =>
    ⟨hn b hb, (I'.ok.exf b hb).1, I'.ok.exfs b hb, .inl hb, fun x c e => (I'.ok.exf b hb).2 x c e, fun p hp => nomatch (show p ∈ ([] : List (Addr × Obj)) ++ [] from hp)⟩
  have loop : codeAny (model X.prog X.w) X.A (.compLoop (.ListComp elt [⟨tg, iter, ifs, 0⟩] scope pos) 0 (.ref it) (.ref D) ce) (compEnds (model X.prog X.w) X.A X.xe none (EP X pins σ Q) (.ref D) ce) sd := by
    refine compLoop_any (fun n s' => ∃ i H', Inv (blkE X sc Hc scope ce fp (owes X ce)) [] (wipe σ (own.map (·.2))) H' s' ∧ tn i s'.heap ∧ (∀ b ∈ fp, H' b = none) ∧ W i n H') ?_ m0 ⟨0, Hc, Id, std, free0, w0⟩
    rintro n se ⟨i, He, Ie, ste, freee, we⟩
    rcases turn i n He we with ⟨stop, qq⟩ | ⟨go, Nx, hNx, step⟩
    · refine thnF (Tn.done (blkE X sc Hc scope ce fp (owes X ce)) rfl rfl rfl hc i [] se _ He (fun _ _ => False) Ie (fps Ie freee) ste stop) fun r sf ⟨hr, If⟩ => ?_
      subst hr
      have out : Inv X pins σ He sf := Ic.call' (ch := fp) If.os If.base If.hok If.bare fun b k => ⟨(fc b k).1.2.2.2.1, (fc b k).1.2.1, (fc b k).1.2.2.2.2.1, (fc b k).1.2.2.2.2.2⟩
      have cN : He ce.locals = none := If.free
      obtain ⟨mm, hmm, _⟩ := If.loc
      have hmm : sf.heap.Ns ce.locals mm := hmm
      rw [cL] at cN hmm
      obtain ⟨p0, p1, p2, p3, p4, p5⟩ := Ic.fpOk (Nat.le_refl _) cN
      refine ⟨mm, by rw [cL]; exact hmm, fun h'' same => ?_⟩
      rw [cL] at same
      exact ⟨.ref D, He, out.turned (t' := sf.toks) (fun b o hb e => (same.2 b hb).trans e) p0 p1 p3 p4 p5, rfl, qq⟩
    · refine thnF (Tn.item (blkE X sc Hc scope ce fp (owes X ce)) rfl rfl rfl hc i [] se _ He (fun _ _ => False) Ie (fps Ie freee) ste go) fun r sf ⟨u, hr, hsf⟩ => ?_
      subst hr
      refine thnF hsf fun _ sg ⟨x, Hg, Ig, rg, yg, stg, freeg⟩ => ?_
      have Ig' := Ig.pinned (fps Ig freeg) (Tn.obj _ _ stg)
      refine thn (pg.run _ sg _ Hg x u _ Ig' rg (step x Hg yg)) fun _ sh ⟨σh, Hh, Ih, wh, qh⟩ => ?_
      refine thn (pt.run _ sh σh Hh _ Ih qh) fun b sj ⟨Hj, Ij, qj⟩ => ?_
      have fin : ∀ {s' : Shared} {H' : Hp}, Inv (blkE X sc Hc scope ce fp (owes X ce)) ([] ++ pinsAt fp sg.heap) σh H' s' → Nx H' → ∃ m, m < n ∧ ∃ i H', Inv (blkE X sc Hc scope ce fp (owes X ce)) [] (wipe σ (own.map (·.2))) H' s' ∧ tn i s'.heap ∧ (∀ b ∈ fp, H' b = none) ∧ W i m H' := fun {s' H'} I' nx => by
        obtain ⟨m', less, w'⟩ := hNx H' nx
        have pinned : ∀ b ∈ fp, ∀ o, sg.heap.get? b = some o → s'.heap.get? b = some o ∧ H' b = none := fun b k o e =>
          ⟨(I'.pin (b, o) (List.mem_append_right _ (List.mem_append_right _ (mem_pinsAt k e)))).1, (I'.pin (b, o) (List.mem_append_right _ (List.mem_append_right _ (mem_pinsAt k e)))).2.1⟩
        have len : (wipe σ (own.map (·.2))).length = σh.length := by rw [← wh, wipe_length]
        refine ⟨m', less, i + 1, H', (I'.unpinned (pins := [])).weak len (fun j v e => ?_), Tn.keep _ _ _ stg fun b k o e => (pinned b k o e).1, fun b k => ?_, w'⟩
        · rw [← wh] at e
          exact (wipe_some e).1
        · obtain ⟨o, e, _⟩ := Tn.obj _ _ stg b k
          exact (pinned b k o e).2
      cases b with
      | false =>
        simp only [Bool.false_eq_true, if_false] at qj ⊢
        exact fin Ij qj
      | true =>
        simp only [if_true] at qj ⊢
        refine thn (pe.run _ sj σh Hj _ Ij qj) fun z sk ⟨yv, Hk, Ik, rk, acc, hDk, szk, nx⟩ => ?_
        exact app_ok (X := blkE X sc Hc scope ce fp (owes X ce)) Ik hDk szk rk fun sl Il => fin Il nx
  exact codeAny_compStart_list loop (Tn.self X.A 0 _ _ _ std loop)
end
end KpR









namespace Kp
/-! a deed of any numbers -/
inductive E1 where
  | pour (a b : Int) | put (a k : Int) | draw (a k : Int) | change (a b : Int)
  deriving DecidableEq
open PySem PySem.Spec PyProof.Rows L2 KpR
def topS (i : Nat) : Stmt := PySem.Challenge.pw_wholedrops_k72_row_texts_refused.main.body.getD i (.Pass ⟨0, 0, 0, 0⟩)
abbrev scheckmuch : Stmt := topS 18
abbrev scheckjar : Stmt := topS 19
abbrev scheckdeed : Stmt := topS 20
abbrev sBadCountInit : Stmt := inClass (topS 2) 0
abbrev sNoJarInit : Stmt := inClass (topS 3) 0
abbrev sSameJarInit : Stmt := inClass (topS 4) 0
abbrev sSizesInit : Stmt := inClass (topS 5) 0
abbrev sBadTextInit : Stmt := inClass (topS 6) 0
abbrev sJarsInit : Stmt := inClass (topS 11) 0
abbrev sPourInit : Stmt := inClass (topS 13) 0
abbrev sPutInit : Stmt := inClass (topS 14) 0
abbrev sDrawInit : Stmt := inClass (topS 15) 0
abbrev sChangeInit : Stmt := inClass (topS 16) 0
abbrev sRowInit : Stmt := inClass (topS 17) 0
abbrev sJarsEq : Stmt := inClass (topS 11) 1
abbrev sPourEq : Stmt := inClass (topS 13) 1
abbrev sPutEq : Stmt := inClass (topS 14) 1
abbrev sDrawEq : Stmt := inClass (topS 15) 1
abbrev sChangeEq : Stmt := inClass (topS 16) 1
abbrev sRowEq : Stmt := inClass (topS 17) 1
abbrev sreadrow : Stmt := topS 24
abbrev sreaddeeds : Stmt := topS 25
abbrev sreaddeed : Stmt := topS 26
abbrev sisnumber : Stmt := topS 27
abbrev sLwell : Stmt := topS 29
abbrev sLdraw : Stmt := topS 30
abbrev sLcaps : Stmt := topS 31
abbrev sLfacts : Stmt := topS 32
abbrev sLdeed : Stmt := topS 33
abbrev sLrow : Stmt := topS 34
abbrev sLtext : Stmt := topS 35
abbrev sLiscount : Stmt := topS 36
abbrev sLfact : Stmt := topS 37
abbrev sLdeedamiss : Stmt := topS 38
abbrev sLdue : Stmt := topS 39
abbrev sLsaid : Stmt := topS 40
abbrev sLspoilt : Stmt := topS 41
abbrev slaw : Stmt := topS 42
theorem sccheckmuch : FnScope ["what", "much"] ["what", "much"] (defScope scheckmuch) := ⟨rfl, rfl, rfl, by decide +kernel, rfl, by decide +kernel, by decide +kernel⟩
theorem sccheckjar : FnScope ["jars", "jar"] ["jars", "jar"] (defScope scheckjar) := ⟨rfl, rfl, rfl, by decide +kernel, rfl, by decide +kernel, by decide +kernel⟩
theorem sccheckdeed : FnScope ["jars", "deed"] ["jars", "deed"] (defScope scheckdeed) := ⟨rfl, rfl, rfl, by decide +kernel, rfl, by decide +kernel, by decide +kernel⟩
theorem scBadCountInit : FnScope ["self", "what", "count"] ["self", "what", "count"] (defScope sBadCountInit) := ⟨rfl, rfl, rfl, by decide +kernel, rfl, by decide +kernel, by decide +kernel⟩
theorem scNoJarInit : FnScope ["self", "jar"] ["self", "jar"] (defScope sNoJarInit) := ⟨rfl, rfl, rfl, by decide +kernel, rfl, by decide +kernel, by decide +kernel⟩
theorem scSameJarInit : FnScope ["self", "jar"] ["self", "jar"] (defScope sSameJarInit) := ⟨rfl, rfl, rfl, by decide +kernel, rfl, by decide +kernel, by decide +kernel⟩
theorem scSizesInit : FnScope ["self", "a", "b"] ["self", "a", "b"] (defScope sSizesInit) := ⟨rfl, rfl, rfl, by decide +kernel, rfl, by decide +kernel, by decide +kernel⟩
theorem scBadTextInit : FnScope ["self", "place"] ["self", "place"] (defScope sBadTextInit) := ⟨rfl, rfl, rfl, by decide +kernel, rfl, by decide +kernel, by decide +kernel⟩
theorem scJarsInit : FnScope ["self", "sizes", "size"] ["self", "sizes"] (defScope sJarsInit) := ⟨rfl, rfl, rfl, by decide +kernel, rfl, by decide +kernel, by decide +kernel⟩
theorem scPourInit : FnScope ["self", "a", "b"] ["self", "a", "b"] (defScope sPourInit) := ⟨rfl, rfl, rfl, by decide +kernel, rfl, by decide +kernel, by decide +kernel⟩
theorem scPutInit : FnScope ["self", "a", "k"] ["self", "a", "k"] (defScope sPutInit) := ⟨rfl, rfl, rfl, by decide +kernel, rfl, by decide +kernel, by decide +kernel⟩
theorem scDrawInit : FnScope ["self", "a", "k"] ["self", "a", "k"] (defScope sDrawInit) := ⟨rfl, rfl, rfl, by decide +kernel, rfl, by decide +kernel, by decide +kernel⟩
theorem scChangeInit : FnScope ["self", "a", "b"] ["self", "a", "b"] (defScope sChangeInit) := ⟨rfl, rfl, rfl, by decide +kernel, rfl, by decide +kernel, by decide +kernel⟩
theorem scRowInit : FnScope ["self", "jars", "deeds", "deed"] ["self", "jars", "deeds"] (defScope sRowInit) := ⟨rfl, rfl, rfl, by decide +kernel, rfl, by decide +kernel, by decide +kernel⟩
theorem scJarsEq : FnScope ["self", "other"] ["self", "other"] (defScope sJarsEq) := ⟨rfl, rfl, rfl, by decide +kernel, rfl, by decide +kernel, by decide +kernel⟩
theorem scPourEq : FnScope ["self", "other"] ["self", "other"] (defScope sPourEq) := ⟨rfl, rfl, rfl, by decide +kernel, rfl, by decide +kernel, by decide +kernel⟩
theorem scPutEq : FnScope ["self", "other"] ["self", "other"] (defScope sPutEq) := ⟨rfl, rfl, rfl, by decide +kernel, rfl, by decide +kernel, by decide +kernel⟩
theorem scDrawEq : FnScope ["self", "other"] ["self", "other"] (defScope sDrawEq) := ⟨rfl, rfl, rfl, by decide +kernel, rfl, by decide +kernel, by decide +kernel⟩
theorem scChangeEq : FnScope ["self", "other"] ["self", "other"] (defScope sChangeEq) := ⟨rfl, rfl, rfl, by decide +kernel, rfl, by decide +kernel, by decide +kernel⟩
theorem scRowEq : FnScope ["self", "other"] ["self", "other"] (defScope sRowEq) := ⟨rfl, rfl, rfl, by decide +kernel, rfl, by decide +kernel, by decide +kernel⟩
theorem screadrow : FnScope ["jars", "text"] ["jars", "text"] (defScope sreadrow) := ⟨rfl, rfl, rfl, by decide +kernel, rfl, by decide +kernel, by decide +kernel⟩
theorem screaddeeds : FnScope ["text", "place", "part"] ["text"] (defScope sreaddeeds) := ⟨rfl, rfl, rfl, by decide +kernel, rfl, by decide +kernel, by decide +kernel⟩
theorem screaddeed : FnScope ["place", "text", "parts", "one", "other"] ["place", "text"] (defScope sreaddeed) := ⟨rfl, rfl, rfl, by decide +kernel, rfl, by decide +kernel, by decide +kernel⟩
theorem scisnumber : FnScope ["part", "sign"] ["part"] (defScope sisnumber) := ⟨rfl, rfl, rfl, by decide +kernel, rfl, by decide +kernel, by decide +kernel⟩
theorem scLwell : FnScope ["_law_cell"] ["_law_cell"] (defScope sLwell) := ⟨rfl, rfl, rfl, by decide +kernel, rfl, by decide +kernel, by decide +kernel⟩
theorem scLdraw : FnScope ["_law_well_here", "_law_many", "_law_found", "_law_number"] ["_law_well_here", "_law_many"] (defScope sLdraw) := ⟨rfl, rfl, rfl, by decide +kernel, rfl, by decide +kernel, by decide +kernel⟩
theorem scLcaps : FnScope ["_law_well_here", "_law_most", "_law_unit", "_law_found", "_law_turn"] ["_law_well_here", "_law_most"] (defScope sLcaps) := ⟨rfl, rfl, rfl, by decide +kernel, rfl, by decide +kernel, by decide +kernel⟩
theorem scLfacts : FnScope ["_law_well_here", "_law_caps_here", "_law_many", "_law_found", "_law_turn", "_law_here", "_law_there", "_law_much", "_law_word"] ["_law_well_here", "_law_caps_here", "_law_many"] (defScope sLfacts) := ⟨rfl, rfl, rfl, by decide +kernel, rfl, by decide +kernel, by decide +kernel⟩
theorem scLdeed : FnScope ["_law_fact_here", "_law_word", "_law_here", "_law_last"] ["_law_fact_here"] (defScope sLdeed) := ⟨rfl, rfl, rfl, by decide +kernel, rfl, by decide +kernel, by decide +kernel⟩
theorem scLrow : FnScope ["_law_caps_here", "_law_facts_here", "_law_fact_here"] ["_law_caps_here", "_law_facts_here"] (defScope sLrow) := ⟨rfl, rfl, rfl, by decide +kernel, rfl, by decide +kernel, by decide +kernel⟩
theorem scLtext : FnScope ["_law_facts_here", "_law_found", "_law_word", "_law_here", "_law_last"] ["_law_facts_here"] (defScope sLtext) := ⟨rfl, rfl, rfl, by decide +kernel, rfl, by decide +kernel, by decide +kernel⟩
theorem scLiscount : FnScope ["_law_text_so", "_law_sign"] ["_law_text_so"] (defScope sLiscount) := ⟨rfl, rfl, rfl, by decide +kernel, rfl, by decide +kernel, by decide +kernel⟩
theorem scLfact : FnScope ["_law_text_so", "_law_some"] ["_law_text_so"] (defScope sLfact) := ⟨rfl, rfl, rfl, by decide +kernel, rfl, by decide +kernel, by decide +kernel⟩
theorem scLdeedamiss : FnScope ["_law_caps_here", "_law_fact_here", "_law_word", "_law_here", "_law_last", "_law_numbers", "_law_bad", "_law_number"] ["_law_caps_here", "_law_fact_here"] (defScope sLdeedamiss) := ⟨rfl, rfl, rfl, by decide +kernel, rfl, by decide +kernel, by decide +kernel⟩
theorem scLdue : FnScope ["_law_caps_here", "_law_text_so", "_law_facts_here", "_law_one", "_law_bad", "_law_fact_here"] ["_law_caps_here", "_law_text_so"] (defScope sLdue) := ⟨rfl, rfl, rfl, by decide +kernel, rfl, by decide +kernel, by decide +kernel⟩
theorem scLsaid : FnScope ["_law_caps_here", "_law_text_so", "e"] ["_law_caps_here", "_law_text_so"] (defScope sLsaid) := ⟨rfl, rfl, rfl, by decide +kernel, rfl, by decide +kernel, by decide +kernel⟩
theorem scLspoilt : FnScope ["_law_well_here", "_law_caps_here", "_law_text_so", "_law_at", "_law_way", "_law_sign", "_law_deeds_so", "_law_k", "_law_odd"] ["_law_well_here", "_law_caps_here", "_law_text_so"] (defScope sLspoilt) := ⟨rfl, rfl, rfl, by decide +kernel, rfl, by decide +kernel, by decide +kernel⟩
theorem sclaw : FnScope ["_law_script", "_law_cell", "_law_well_here", "_law_caps_here", "_law_good", "_law_turn", "_law_bad", "_law_k", "_law_due_here", "_law_found"] ["_law_script"] (defScope slaw) := ⟨rfl, rfl, rfl, by decide +kernel, rfl, by decide +kernel, by decide +kernel⟩
structure TyIns (K : PySem.W.Frag) (C : Addr) : Prop where
  ha : PySem.W.findIn K (.ref C) "__class__" = some (some (.builtin "object.__class__"))
  hn : PySem.W.specialIn K (.builtin "object.__class__") "__get__" = some (some (.builtin "getset_descriptor.__get__"))
  ht : PySem.W.takesIn K (.builtin "object.__class__") = some true
  hm : PySem.W.mroIn K C (.type "object") = some true
structure Tx (K : PySem.W.Frag) (mg : Str → Option Value) : Type where
  cJars : Addr
  cPour : Addr
  cPut : Addr
  cDraw : Addr
  cChange : Addr
  cRow : Addr
  cDeed : Addr
  acheckmuch : Addr
  dcheckmuch : FuncData
  acheckjar : Addr
  dcheckjar : FuncData
  acheckdeed : Addr
  dcheckdeed : FuncData
  aBadCountInit : Addr
  dBadCountInit : FuncData
  aNoJarInit : Addr
  dNoJarInit : FuncData
  aSameJarInit : Addr
  dSameJarInit : FuncData
  aSizesInit : Addr
  dSizesInit : FuncData
  aBadTextInit : Addr
  dBadTextInit : FuncData
  aJarsInit : Addr
  dJarsInit : FuncData
  aPourInit : Addr
  dPourInit : FuncData
  aPutInit : Addr
  dPutInit : FuncData
  aDrawInit : Addr
  dDrawInit : FuncData
  aChangeInit : Addr
  dChangeInit : FuncData
  aRowInit : Addr
  dRowInit : FuncData
  aJarsEq : Addr
  dJarsEq : FuncData
  aPourEq : Addr
  dPourEq : FuncData
  aPutEq : Addr
  dPutEq : FuncData
  aDrawEq : Addr
  dDrawEq : FuncData
  aChangeEq : Addr
  dChangeEq : FuncData
  aRowEq : Addr
  dRowEq : FuncData
  areadrow : Addr
  dreadrow : FuncData
  areaddeeds : Addr
  dreaddeeds : FuncData
  areaddeed : Addr
  dreaddeed : FuncData
  aisnumber : Addr
  disnumber : FuncData
  aLwell : Addr
  dLwell : FuncData
  aLdraw : Addr
  dLdraw : FuncData
  aLcaps : Addr
  dLcaps : FuncData
  aLfacts : Addr
  dLfacts : FuncData
  aLdeed : Addr
  dLdeed : FuncData
  aLrow : Addr
  dLrow : FuncData
  aLtext : Addr
  dLtext : FuncData
  aLiscount : Addr
  dLiscount : FuncData
  aLfact : Addr
  dLfact : FuncData
  aLdeedamiss : Addr
  dLdeedamiss : FuncData
  aLdue : Addr
  dLdue : FuncData
  aLsaid : Addr
  dLsaid : FuncData
  aLspoilt : Addr
  dLspoilt : FuncData
  alaw : Addr
  dlaw : FuncData
  tMOSTJARS : Tok
  tMOSTDEEDS : Tok
  tMOSTMUCH : Tok
  tMOSTFIGURES : Tok
  tNODEEDS : Tok
  cBadCount : Addr
  cNoJar : Addr
  cSameJar : Addr
  cSizes : Addr
  cBadText : Addr
  fcheckmuch : Fun K "check_much" "check_much" scheckmuch acheckmuch dcheckmuch
  bcheckmuch : Binds K dcheckmuch ["what", "much"] []
  gcheckmuch : mg "check_much" = some (.ref acheckmuch)
  fcheckjar : Fun K "check_jar" "check_jar" scheckjar acheckjar dcheckjar
  bcheckjar : Binds K dcheckjar ["jars", "jar"] []
  gcheckjar : mg "check_jar" = some (.ref acheckjar)
  fcheckdeed : Fun K "check_deed" "check_deed" scheckdeed acheckdeed dcheckdeed
  bcheckdeed : Binds K dcheckdeed ["jars", "deed"] []
  gcheckdeed : mg "check_deed" = some (.ref acheckdeed)
  fBadCountInit : Fun K "__init__" "BadCount.__init__" sBadCountInit aBadCountInit dBadCountInit
  bBadCountInit : Binds K dBadCountInit ["self", "what", "count"] []
  iBadCount : PySem.W.findIn K (.ref cBadCount) "__init__" = some (some (.ref aBadCountInit))
  tBadCount : PySem.W.typeIn K (.ref aBadCountInit) = some (.type "function")
  fNoJarInit : Fun K "__init__" "NoJar.__init__" sNoJarInit aNoJarInit dNoJarInit
  bNoJarInit : Binds K dNoJarInit ["self", "jar"] []
  iNoJar : PySem.W.findIn K (.ref cNoJar) "__init__" = some (some (.ref aNoJarInit))
  tNoJar : PySem.W.typeIn K (.ref aNoJarInit) = some (.type "function")
  fSameJarInit : Fun K "__init__" "SameJar.__init__" sSameJarInit aSameJarInit dSameJarInit
  bSameJarInit : Binds K dSameJarInit ["self", "jar"] []
  iSameJar : PySem.W.findIn K (.ref cSameJar) "__init__" = some (some (.ref aSameJarInit))
  tSameJar : PySem.W.typeIn K (.ref aSameJarInit) = some (.type "function")
  fSizesInit : Fun K "__init__" "Sizes.__init__" sSizesInit aSizesInit dSizesInit
  bSizesInit : Binds K dSizesInit ["self", "a", "b"] []
  iSizes : PySem.W.findIn K (.ref cSizes) "__init__" = some (some (.ref aSizesInit))
  tSizes : PySem.W.typeIn K (.ref aSizesInit) = some (.type "function")
  fBadTextInit : Fun K "__init__" "BadText.__init__" sBadTextInit aBadTextInit dBadTextInit
  bBadTextInit : Binds K dBadTextInit ["self", "place"] []
  iBadText : PySem.W.findIn K (.ref cBadText) "__init__" = some (some (.ref aBadTextInit))
  tBadText : PySem.W.typeIn K (.ref aBadTextInit) = some (.type "function")
  fJarsInit : Fun K "__init__" "Jars.__init__" sJarsInit aJarsInit dJarsInit
  bJarsInit : Binds K dJarsInit ["self", "sizes"] []
  fPourInit : Fun K "__init__" "Pour.__init__" sPourInit aPourInit dPourInit
  bPourInit : Binds K dPourInit ["self", "a", "b"] []
  fPutInit : Fun K "__init__" "Put.__init__" sPutInit aPutInit dPutInit
  bPutInit : Binds K dPutInit ["self", "a", "k"] []
  fDrawInit : Fun K "__init__" "Draw.__init__" sDrawInit aDrawInit dDrawInit
  bDrawInit : Binds K dDrawInit ["self", "a", "k"] []
  fChangeInit : Fun K "__init__" "Change.__init__" sChangeInit aChangeInit dChangeInit
  bChangeInit : Binds K dChangeInit ["self", "a", "b"] []
  fRowInit : Fun K "__init__" "Row.__init__" sRowInit aRowInit dRowInit
  bRowInit : Binds K dRowInit ["self", "jars", "deeds"] []
  fJarsEq : Fun K "__eq__" "Jars.__eq__" sJarsEq aJarsEq dJarsEq
  bJarsEq : Binds K dJarsEq ["self", "other"] []
  eJarsEq : PySem.W.findIn K (.ref cJars) "__eq__" = some (some (.ref aJarsEq))
  eiJarsEq : PySem.W.isFn K (.ref aJarsEq) = true
  fPourEq : Fun K "__eq__" "Pour.__eq__" sPourEq aPourEq dPourEq
  bPourEq : Binds K dPourEq ["self", "other"] []
  ePourEq : PySem.W.findIn K (.ref cPour) "__eq__" = some (some (.ref aPourEq))
  eiPourEq : PySem.W.isFn K (.ref aPourEq) = true
  fPutEq : Fun K "__eq__" "Put.__eq__" sPutEq aPutEq dPutEq
  bPutEq : Binds K dPutEq ["self", "other"] []
  ePutEq : PySem.W.findIn K (.ref cPut) "__eq__" = some (some (.ref aPutEq))
  eiPutEq : PySem.W.isFn K (.ref aPutEq) = true
  fDrawEq : Fun K "__eq__" "Draw.__eq__" sDrawEq aDrawEq dDrawEq
  bDrawEq : Binds K dDrawEq ["self", "other"] []
  eDrawEq : PySem.W.findIn K (.ref cDraw) "__eq__" = some (some (.ref aDrawEq))
  eiDrawEq : PySem.W.isFn K (.ref aDrawEq) = true
  fChangeEq : Fun K "__eq__" "Change.__eq__" sChangeEq aChangeEq dChangeEq
  bChangeEq : Binds K dChangeEq ["self", "other"] []
  eChangeEq : PySem.W.findIn K (.ref cChange) "__eq__" = some (some (.ref aChangeEq))
  eiChangeEq : PySem.W.isFn K (.ref aChangeEq) = true
  fRowEq : Fun K "__eq__" "Row.__eq__" sRowEq aRowEq dRowEq
  bRowEq : Binds K dRowEq ["self", "other"] []
  eRowEq : PySem.W.findIn K (.ref cRow) "__eq__" = some (some (.ref aRowEq))
  eiRowEq : PySem.W.isFn K (.ref aRowEq) = true
  freadrow : Fun K "read_row" "read_row" sreadrow areadrow dreadrow
  breadrow : Binds K dreadrow ["jars", "text"] []
  greadrow : mg "read_row" = some (.ref areadrow)
  freaddeeds : Fun K "read_deeds" "read_deeds" sreaddeeds areaddeeds dreaddeeds
  breaddeeds : Binds K dreaddeeds ["text"] []
  greaddeeds : mg "read_deeds" = some (.ref areaddeeds)
  freaddeed : Fun K "read_deed" "read_deed" sreaddeed areaddeed dreaddeed
  breaddeed : Binds K dreaddeed ["place", "text"] []
  greaddeed : mg "read_deed" = some (.ref areaddeed)
  fisnumber : Fun K "is_number" "is_number" sisnumber aisnumber disnumber
  bisnumber : Binds K disnumber ["part"] []
  gisnumber : mg "is_number" = some (.ref aisnumber)
  fLwell : Fun K "_law_well" "_law_well" sLwell aLwell dLwell
  bLwell : Binds K dLwell ["_law_cell"] []
  gLwell : mg "_law_well" = some (.ref aLwell)
  fLdraw : Fun K "_law_draw" "_law_draw" sLdraw aLdraw dLdraw
  bLdraw : Binds K dLdraw ["_law_well_here", "_law_many"] []
  gLdraw : mg "_law_draw" = some (.ref aLdraw)
  fLcaps : Fun K "_law_caps" "_law_caps" sLcaps aLcaps dLcaps
  bLcaps : Binds K dLcaps ["_law_well_here", "_law_most"] []
  gLcaps : mg "_law_caps" = some (.ref aLcaps)
  fLfacts : Fun K "_law_facts" "_law_facts" sLfacts aLfacts dLfacts
  bLfacts : Binds K dLfacts ["_law_well_here", "_law_caps_here", "_law_many"] []
  gLfacts : mg "_law_facts" = some (.ref aLfacts)
  fLdeed : Fun K "_law_deed" "_law_deed" sLdeed aLdeed dLdeed
  bLdeed : Binds K dLdeed ["_law_fact_here"] []
  gLdeed : mg "_law_deed" = some (.ref aLdeed)
  fLrow : Fun K "_law_row" "_law_row" sLrow aLrow dLrow
  bLrow : Binds K dLrow ["_law_caps_here", "_law_facts_here"] []
  gLrow : mg "_law_row" = some (.ref aLrow)
  fLtext : Fun K "_law_text" "_law_text" sLtext aLtext dLtext
  bLtext : Binds K dLtext ["_law_facts_here"] []
  gLtext : mg "_law_text" = some (.ref aLtext)
  fLiscount : Fun K "_law_is_count" "_law_is_count" sLiscount aLiscount dLiscount
  bLiscount : Binds K dLiscount ["_law_text_so"] []
  gLiscount : mg "_law_is_count" = some (.ref aLiscount)
  fLfact : Fun K "_law_fact" "_law_fact" sLfact aLfact dLfact
  bLfact : Binds K dLfact ["_law_text_so"] []
  gLfact : mg "_law_fact" = some (.ref aLfact)
  fLdeedamiss : Fun K "_law_deed_amiss" "_law_deed_amiss" sLdeedamiss aLdeedamiss dLdeedamiss
  bLdeedamiss : Binds K dLdeedamiss ["_law_caps_here", "_law_fact_here"] []
  gLdeedamiss : mg "_law_deed_amiss" = some (.ref aLdeedamiss)
  fLdue : Fun K "_law_due" "_law_due" sLdue aLdue dLdue
  bLdue : Binds K dLdue ["_law_caps_here", "_law_text_so"] []
  gLdue : mg "_law_due" = some (.ref aLdue)
  fLsaid : Fun K "_law_said" "_law_said" sLsaid aLsaid dLsaid
  bLsaid : Binds K dLsaid ["_law_caps_here", "_law_text_so"] []
  gLsaid : mg "_law_said" = some (.ref aLsaid)
  fLspoilt : Fun K "_law_spoilt" "_law_spoilt" sLspoilt aLspoilt dLspoilt
  bLspoilt : Binds K dLspoilt ["_law_well_here", "_law_caps_here", "_law_text_so"] []
  gLspoilt : mg "_law_spoilt" = some (.ref aLspoilt)
  flaw : Fun K "law" "law" slaw alaw dlaw
  blaw : Binds K dlaw ["_law_script"] []
  glaw : mg "law" = some (.ref alaw)
  mJars : mg "Jars" = some (.ref cJars)
  lJars : Cls K cJars
  kJars : Mk K cJars aJarsInit
  nJars_sizes : NoAttr K cJars "sizes"
  mPour : mg "Pour" = some (.ref cPour)
  lPour : Cls K cPour
  kPour : Mk K cPour aPourInit
  nPour_a : NoAttr K cPour "a"
  nPour_b : NoAttr K cPour "b"
  mPut : mg "Put" = some (.ref cPut)
  lPut : Cls K cPut
  kPut : Mk K cPut aPutInit
  nPut_a : NoAttr K cPut "a"
  nPut_k : NoAttr K cPut "k"
  mDraw : mg "Draw" = some (.ref cDraw)
  lDraw : Cls K cDraw
  kDraw : Mk K cDraw aDrawInit
  nDraw_a : NoAttr K cDraw "a"
  nDraw_k : NoAttr K cDraw "k"
  mChange : mg "Change" = some (.ref cChange)
  lChange : Cls K cChange
  kChange : Mk K cChange aChangeInit
  nChange_a : NoAttr K cChange "a"
  nChange_b : NoAttr K cChange "b"
  mRow : mg "Row" = some (.ref cRow)
  lRow : Cls K cRow
  kRow : Mk K cRow aRowInit
  nRow_jars : NoAttr K cRow "jars"
  nRow_deeds : NoAttr K cRow "deeds"
  mDeed : mg "Deed" = some (.ref cDeed)
  lDeed : Cls K cDeed
  mBadCount : mg "BadCount" = some (.ref cBadCount)
  oBadCount : OexC K cBadCount
  xfBadCount : XfC K cBadCount
  nBadCount_what : PySem.W.findIn K (.ref cBadCount) "what" = some none
  nBadCount_count : PySem.W.findIn K (.ref cBadCount) "count" = some none
  emBadCount_BadCount : PySem.W.exmOne K (.ref cBadCount) (.ref cBadCount) = some true
  emBadCount_NoJar : PySem.W.exmOne K (.ref cBadCount) (.ref cNoJar) = some false
  emBadCount_SameJar : PySem.W.exmOne K (.ref cBadCount) (.ref cSameJar) = some false
  emBadCount_Sizes : PySem.W.exmOne K (.ref cBadCount) (.ref cSizes) = some false
  emBadCount_BadText : PySem.W.exmOne K (.ref cBadCount) (.ref cBadText) = some false
  mNoJar : mg "NoJar" = some (.ref cNoJar)
  oNoJar : OexC K cNoJar
  xfNoJar : XfC K cNoJar
  nNoJar_jar : PySem.W.findIn K (.ref cNoJar) "jar" = some none
  emNoJar_BadCount : PySem.W.exmOne K (.ref cNoJar) (.ref cBadCount) = some false
  emNoJar_NoJar : PySem.W.exmOne K (.ref cNoJar) (.ref cNoJar) = some true
  emNoJar_SameJar : PySem.W.exmOne K (.ref cNoJar) (.ref cSameJar) = some false
  emNoJar_Sizes : PySem.W.exmOne K (.ref cNoJar) (.ref cSizes) = some false
  emNoJar_BadText : PySem.W.exmOne K (.ref cNoJar) (.ref cBadText) = some false
  mSameJar : mg "SameJar" = some (.ref cSameJar)
  oSameJar : OexC K cSameJar
  xfSameJar : XfC K cSameJar
  nSameJar_jar : PySem.W.findIn K (.ref cSameJar) "jar" = some none
  emSameJar_BadCount : PySem.W.exmOne K (.ref cSameJar) (.ref cBadCount) = some false
  emSameJar_NoJar : PySem.W.exmOne K (.ref cSameJar) (.ref cNoJar) = some false
  emSameJar_SameJar : PySem.W.exmOne K (.ref cSameJar) (.ref cSameJar) = some true
  emSameJar_Sizes : PySem.W.exmOne K (.ref cSameJar) (.ref cSizes) = some false
  emSameJar_BadText : PySem.W.exmOne K (.ref cSameJar) (.ref cBadText) = some false
  mSizes : mg "Sizes" = some (.ref cSizes)
  oSizes : OexC K cSizes
  xfSizes : XfC K cSizes
  nSizes_a : PySem.W.findIn K (.ref cSizes) "a" = some none
  nSizes_b : PySem.W.findIn K (.ref cSizes) "b" = some none
  emSizes_BadCount : PySem.W.exmOne K (.ref cSizes) (.ref cBadCount) = some false
  emSizes_NoJar : PySem.W.exmOne K (.ref cSizes) (.ref cNoJar) = some false
  emSizes_SameJar : PySem.W.exmOne K (.ref cSizes) (.ref cSameJar) = some false
  emSizes_Sizes : PySem.W.exmOne K (.ref cSizes) (.ref cSizes) = some true
  emSizes_BadText : PySem.W.exmOne K (.ref cSizes) (.ref cBadText) = some false
  mBadText : mg "BadText" = some (.ref cBadText)
  oBadText : OexC K cBadText
  xfBadText : XfC K cBadText
  nBadText_place : PySem.W.findIn K (.ref cBadText) "place" = some none
  emBadText_BadCount : PySem.W.exmOne K (.ref cBadText) (.ref cBadCount) = some false
  emBadText_NoJar : PySem.W.exmOne K (.ref cBadText) (.ref cNoJar) = some false
  emBadText_SameJar : PySem.W.exmOne K (.ref cBadText) (.ref cSameJar) = some false
  emBadText_Sizes : PySem.W.exmOne K (.ref cBadText) (.ref cSizes) = some false
  emBadText_BadText : PySem.W.exmOne K (.ref cBadText) (.ref cBadText) = some true
  yChange : TyIns K cChange
  yDraw : TyIns K cDraw
  yJars : TyIns K cJars
  yPour : TyIns K cPour
  yPut : TyIns K cPut
  yRow : TyIns K cRow
  iPour_Put : PySem.W.kitOne K (.ref cPour) (.ref cPut) = some false
  iPour_Draw : PySem.W.kitOne K (.ref cPour) (.ref cDraw) = some false
  iPour_Pour : PySem.W.kitOne K (.ref cPour) (.ref cPour) = some true
  iPour_Change : PySem.W.kitOne K (.ref cPour) (.ref cChange) = some false
  iPut_Put : PySem.W.kitOne K (.ref cPut) (.ref cPut) = some true
  iPut_Draw : PySem.W.kitOne K (.ref cPut) (.ref cDraw) = some false
  iPut_Pour : PySem.W.kitOne K (.ref cPut) (.ref cPour) = some false
  iPut_Change : PySem.W.kitOne K (.ref cPut) (.ref cChange) = some false
  iDraw_Put : PySem.W.kitOne K (.ref cDraw) (.ref cPut) = some false
  iDraw_Draw : PySem.W.kitOne K (.ref cDraw) (.ref cDraw) = some true
  iDraw_Pour : PySem.W.kitOne K (.ref cDraw) (.ref cPour) = some false
  iDraw_Change : PySem.W.kitOne K (.ref cDraw) (.ref cChange) = some false
  iChange_Put : PySem.W.kitOne K (.ref cChange) (.ref cPut) = some false
  iChange_Draw : PySem.W.kitOne K (.ref cChange) (.ref cDraw) = some false
  iChange_Pour : PySem.W.kitOne K (.ref cChange) (.ref cPour) = some false
  iChange_Change : PySem.W.kitOne K (.ref cChange) (.ref cChange) = some true
  iJars_Jars : PySem.W.kitOne K (.ref cJars) (.ref cJars) = some true
  iRow_Row : PySem.W.kitOne K (.ref cRow) (.ref cRow) = some true
  iPour_Deed : PySem.W.kitOne K (.ref cPour) (.ref cDeed) = some true
  iPut_Deed : PySem.W.kitOne K (.ref cPut) (.ref cDeed) = some true
  iDraw_Deed : PySem.W.kitOne K (.ref cDraw) (.ref cDeed) = some true
  iChange_Deed : PySem.W.kitOne K (.ref cChange) (.ref cDeed) = some true
  nfPour_Put : PySem.W.notFirst K cPour (.ref cPut) = true
  nfPour_Draw : PySem.W.notFirst K cPour (.ref cDraw) = true
  nfPour_Change : PySem.W.notFirst K cPour (.ref cChange) = true
  nfPut_Pour : PySem.W.notFirst K cPut (.ref cPour) = true
  nfPut_Draw : PySem.W.notFirst K cPut (.ref cDraw) = true
  nfPut_Change : PySem.W.notFirst K cPut (.ref cChange) = true
  nfDraw_Pour : PySem.W.notFirst K cDraw (.ref cPour) = true
  nfDraw_Put : PySem.W.notFirst K cDraw (.ref cPut) = true
  nfDraw_Change : PySem.W.notFirst K cDraw (.ref cChange) = true
  nfChange_Pour : PySem.W.notFirst K cChange (.ref cPour) = true
  nfChange_Put : PySem.W.notFirst K cChange (.ref cPut) = true
  nfChange_Draw : PySem.W.notFirst K cChange (.ref cDraw) = true
  nePour : NeK K cPour aPourEq
  alPour_NoneType : PySem.W.subIn K (.ref cPour) (.type "NoneType") = some false
  ikPour_NoneType : PySem.W.kitOne K (.type "NoneType") (.ref cPour) = some false
  alPour_int : PySem.W.subIn K (.ref cPour) (.type "int") = some false
  ikPour_int : PySem.W.kitOne K (.type "int") (.ref cPour) = some false
  alPour_tuple : PySem.W.subIn K (.ref cPour) (.type "tuple") = some false
  ikPour_tuple : PySem.W.kitOne K (.type "tuple") (.ref cPour) = some false
  alPour_list : PySem.W.subIn K (.ref cPour) (.type "list") = some false
  ikPour_list : PySem.W.kitOne K (.type "list") (.ref cPour) = some false
  nePut : NeK K cPut aPutEq
  alPut_NoneType : PySem.W.subIn K (.ref cPut) (.type "NoneType") = some false
  ikPut_NoneType : PySem.W.kitOne K (.type "NoneType") (.ref cPut) = some false
  alPut_int : PySem.W.subIn K (.ref cPut) (.type "int") = some false
  ikPut_int : PySem.W.kitOne K (.type "int") (.ref cPut) = some false
  alPut_tuple : PySem.W.subIn K (.ref cPut) (.type "tuple") = some false
  ikPut_tuple : PySem.W.kitOne K (.type "tuple") (.ref cPut) = some false
  alPut_list : PySem.W.subIn K (.ref cPut) (.type "list") = some false
  ikPut_list : PySem.W.kitOne K (.type "list") (.ref cPut) = some false
  neDraw : NeK K cDraw aDrawEq
  alDraw_NoneType : PySem.W.subIn K (.ref cDraw) (.type "NoneType") = some false
  ikDraw_NoneType : PySem.W.kitOne K (.type "NoneType") (.ref cDraw) = some false
  alDraw_int : PySem.W.subIn K (.ref cDraw) (.type "int") = some false
  ikDraw_int : PySem.W.kitOne K (.type "int") (.ref cDraw) = some false
  alDraw_tuple : PySem.W.subIn K (.ref cDraw) (.type "tuple") = some false
  ikDraw_tuple : PySem.W.kitOne K (.type "tuple") (.ref cDraw) = some false
  alDraw_list : PySem.W.subIn K (.ref cDraw) (.type "list") = some false
  ikDraw_list : PySem.W.kitOne K (.type "list") (.ref cDraw) = some false
  neChange : NeK K cChange aChangeEq
  alChange_NoneType : PySem.W.subIn K (.ref cChange) (.type "NoneType") = some false
  ikChange_NoneType : PySem.W.kitOne K (.type "NoneType") (.ref cChange) = some false
  alChange_int : PySem.W.subIn K (.ref cChange) (.type "int") = some false
  ikChange_int : PySem.W.kitOne K (.type "int") (.ref cChange) = some false
  alChange_tuple : PySem.W.subIn K (.ref cChange) (.type "tuple") = some false
  ikChange_tuple : PySem.W.kitOne K (.type "tuple") (.ref cChange) = some false
  alChange_list : PySem.W.subIn K (.ref cChange) (.type "list") = some false
  ikChange_list : PySem.W.kitOne K (.type "list") (.ref cChange) = some false
  neJars : NeK K cJars aJarsEq
  alJars_NoneType : PySem.W.subIn K (.ref cJars) (.type "NoneType") = some false
  ikJars_NoneType : PySem.W.kitOne K (.type "NoneType") (.ref cJars) = some false
  alJars_int : PySem.W.subIn K (.ref cJars) (.type "int") = some false
  ikJars_int : PySem.W.kitOne K (.type "int") (.ref cJars) = some false
  alJars_tuple : PySem.W.subIn K (.ref cJars) (.type "tuple") = some false
  ikJars_tuple : PySem.W.kitOne K (.type "tuple") (.ref cJars) = some false
  alJars_list : PySem.W.subIn K (.ref cJars) (.type "list") = some false
  ikJars_list : PySem.W.kitOne K (.type "list") (.ref cJars) = some false
  neRow : NeK K cRow aRowEq
  alRow_NoneType : PySem.W.subIn K (.ref cRow) (.type "NoneType") = some false
  ikRow_NoneType : PySem.W.kitOne K (.type "NoneType") (.ref cRow) = some false
  alRow_int : PySem.W.subIn K (.ref cRow) (.type "int") = some false
  ikRow_int : PySem.W.kitOne K (.type "int") (.ref cRow) = some false
  alRow_tuple : PySem.W.subIn K (.ref cRow) (.type "tuple") = some false
  ikRow_tuple : PySem.W.kitOne K (.type "tuple") (.ref cRow) = some false
  alRow_list : PySem.W.subIn K (.ref cRow) (.type "list") = some false
  ikRow_list : PySem.W.kitOne K (.type "list") (.ref cRow) = some false
  cMOSTJARS : mg "MOST_JARS" = some (.int 6 tMOSTJARS)
  cMOSTDEEDS : mg "MOST_DEEDS" = some (.int 20 tMOSTDEEDS)
  cMOSTMUCH : mg "MOST_MUCH" = some (.int 1000000000000 tMOSTMUCH)
  cMOSTFIGURES : mg "MOST_FIGURES" = some (.int 13 tMOSTFIGURES)
  cNODEEDS : mg "NO_DEEDS" = some (.str "none" tNODEEDS)
  nabs : mg "abs" = none
  nall : mg "all" = none
  nenumerate : mg "enumerate" = none
  nint : mg "int" = none
  nisinstance : mg "isinstance" = none
  nlen : mg "len" = none
  nlist : mg "list" = none
  nmin : mg "min" = none
  nrange : mg "range" = none
  nstr : mg "str" = none
  ntuple : mg "tuple" = none
/-! ### fields -/
theorem put2 {a b : Str} {u v : V} (h : ¬ a = b) : putF b v (putF a u []) = ([(a, u), (b, v)] : List (Str × V)) := by
  show (if a = b then [(a, v)] else (a, u) :: putF b v []) = [(a, u), (b, v)]
  rw [if_neg h]
  rfl
theorem lk1 {a : Str} {x : V} {r : List (Str × V)} : List.lookup a ((a, x) :: r) = some x := by simp [List.lookup]
theorem lk2 {a b : Str} {x y : V} (h : ¬ b = a) : List.lookup b [(a, x), (b, y)] = some y := by
  have : (b == a) = false := by simpa using h
  simp [List.lookup, this]
/-! ### things in the heap -/
section
variable {K : PySem.W.Frag} {mg : Str → Option Value}
def f1s (a : Str) (x : V) : List (Str × V) := [(a, x)]
def f2s (a : Str) (x : V) (b : Str) (y : V) : List (Str × V) := [(a, x), (b, y)]
def DeedAt (T : Tx K mg) (H : Hp) (v : V) (d : E1) : Prop := ∃ p dx, v = .ref p ∧ match d with
  | .pour a b => H p = some (.ins T.cPour dx (f2s "a" (.int a) "b" (.int b)))
  | .put a k => H p = some (.ins T.cPut dx (f2s "a" (.int a) "k" (.int k)))
  | .draw a k => H p = some (.ins T.cDraw dx (f2s "a" (.int a) "k" (.int k)))
  | .change a b => H p = some (.ins T.cChange dx (f2s "a" (.int a) "b" (.int b)))
def JarsAt (T : Tx K mg) (H : Hp) (p : Addr) (caps : List Int) : Prop := ∃ dx t, H p = some (.ins T.cJars dx (f1s "sizes" (.ref t))) ∧ H t = some (.tup (vi caps))
theorem DeedAt.same {T : Tx K mg} {H H' : Hp} {v : V} {d : E1} (e : Same H H') (h : DeedAt T H v d) : DeedAt T H' v d := by
  obtain ⟨p, dx, rfl, h⟩ := h
  refine ⟨p, dx, rfl, ?_⟩
  cases d <;> exact e _ _ h
theorem JarsAt.same {T : Tx K mg} {H H' : Hp} {p : Addr} {caps : List Int} (e : Same H H') (h : JarsAt T H p caps) : JarsAt T H' p caps := by
  obtain ⟨dx, t, h1, h2⟩ := h
  exact ⟨dx, t, e _ _ h1, e _ _ h2⟩
/-- a list, or an instance without fields: what a def may change -/
def Blank (o : HO) : Prop := (∃ ws, o = .lst ws) ∨ ∃ C dx, o = .ins C dx []
theorem bl_l {ws : List V} : Blank (.lst ws) := .inl ⟨ws, rfl⟩
theorem bl_i {C dx : Addr} : Blank (.ins C dx []) := .inr ⟨C, dx, rfl⟩
theorem nb1 {C dx : Addr} {a : Str} {x : V} : ¬ Blank (.ins C dx (f1s a x)) := by
  rintro (⟨_, z⟩ | ⟨_, _, z⟩)
  · cases z
  · injection z with _ _ z
    cases z
theorem nb2 {C dx : Addr} {a b : Str} {x y : V} : ¬ Blank (.ins C dx (f2s a x b y)) := by
  rintro (⟨_, z⟩ | ⟨_, _, z⟩)
  · cases z
  · injection z with _ _ z
    cases z
theorem nbT {xs : List V} : ¬ Blank (.tup xs) := by
  rintro (⟨_, z⟩ | ⟨_, _, z⟩) <;> cases z
/-- all but one thing at w stays: what is no list stays -/
theorem fr_no {w : Addr} {H H' : Hp} {u : HO} {b : Addr} {o : HO} (e : Fr w H H') (hw : H w = some u) (hb : Blank u) (h : H b = some o) (n : ¬ Blank o) : H' b = some o :=
  e b o (fun z => by rw [z, hw] at h; cases h; exact n hb) h
theorem DeedAt.fr {T : Tx K mg} {w : Addr} {H H' : Hp} {u : HO} {v : V} {d : E1} (e : Fr w H H') (hw : H w = some u) (hb : Blank u) (h : DeedAt T H v d) : DeedAt T H' v d := by
  obtain ⟨p, dx, rfl, h⟩ := h
  refine ⟨p, dx, rfl, ?_⟩
  cases d <;> exact fr_no e hw hb h nb2
theorem JarsAt.fr {T : Tx K mg} {w : Addr} {H H' : Hp} {u : HO} {p : Addr} {caps : List Int} (e : Fr w H H') (hw : H w = some u) (hb : Blank u) (h : JarsAt T H p caps) : JarsAt T H' p caps := by
  obtain ⟨dx, t, h1, h2⟩ := h
  exact ⟨dx, t, fr_no e hw hb h1 nb1, fr_no e hw hb h2 nbT⟩
/-! ### the promises of the program's defs -/
def okN (c : Int) : Bool := decide (1 ≤ c) && decide (c ≤ 1000000000000)
def bads (l : List Int) : List Int := l.filter fun c => !okN c
/-- an own exception's __init__ that stores one thing, or two -/
def spX1 (C : Addr) (f : Str) : Sp := fun vs H Q _ => ∃ (a : Addr) (u : V), vs = [.ref a, u] ∧ H a = some (exo a C none) ∧
  ∀ (H' : Hp) (d : Addr), H d = none → d ≠ a → H' a = some (exo a C (some d)) → H' d = some (exd d (f1s f u)) → Fr a H H' → Q .non H'
def spX2 (C : Addr) (f g : Str) : Sp := fun vs H Q _ => ∃ (a : Addr) (u v : V), vs = [.ref a, u, v] ∧ H a = some (exo a C none) ∧
  ∀ (H' : Hp) (d : Addr), H d = none → d ≠ a → H' a = some (exo a C (some d)) → H' d = some (exd d (f2s g v f u)) → Fr a H H' → Q .non H'
def spBadCountInit (T : Tx K mg) : Sp := spX2 T.cBadCount "what" "count"
def spSizesInit (T : Tx K mg) : Sp := spX2 T.cSizes "a" "b"
def spNoJarInit (T : Tx K mg) : Sp := spX1 T.cNoJar "jar"
def spSameJarInit (T : Tx K mg) : Sp := spX1 T.cSameJar "jar"
/-- how a row is refused -/
inductive Rf where
  | count (x : Str) (n : Int) | nojar (j : Int) | same (j : Int) | sizes (a b : Int)
def Rf.cls (T : Tx K mg) : Rf → Addr
  | .count _ _ => T.cBadCount
  | .nojar _ => T.cNoJar
  | .same _ => T.cSameJar
  | .sizes _ _ => T.cSizes
def Rf.fs : Rf → List (Str × V)
  | .count x n => f2s "count" (.int n) "what" (.str x)
  | .nojar j => f1s "jar" (.int j)
  | .same j => f1s "jar" (.int j)
  | .sizes a b => f2s "b" (.int b) "a" (.int a)
def rE (T : Tx K mg) (H : Hp) (E : XK) (r : Rf) : Prop := ∀ (H' : Hp) (d : Addr), H' d = some (.xd r.fs) → Same H H' → E (.ref (r.cls T)) (some d) H'
/-- the first thing amiss of a deed -/
def inJ (n : Nat) (j : Int) : Bool := decide (0 ≤ j) && decide (j < n)
def E1.bad (caps : List Int) : E1 → Option Rf
  | .put a k => if inJ caps.length a then (if okN k then none else some (.count "much" k)) else some (.nojar a)
  | .draw a k => if inJ caps.length a then (if okN k then none else some (.count "much" k)) else some (.nojar a)
  | .pour a b => if inJ caps.length a then (if inJ caps.length b then (if a = b then some (.same a) else none) else some (.nojar b)) else some (.nojar a)
  | .change a b => if inJ caps.length a then (if inJ caps.length b then (if a = b then some (.same a) else if caps.getD a.toNat 0 = caps.getD b.toNat 0 then none else some (.sizes a b)) else some (.nojar b)) else some (.nojar a)
def firstBad (caps : List Int) : List E1 → Option Rf
  | [] => none
  | d :: r => match d.bad caps with
    | some x => some x
    | none => firstBad caps r
def spcheckmuch (T : Tx K mg) : Sp := fun vs H Q E => ∃ (x : Str) (n : Int), vs = [.str x, .int n] ∧ (okN n = true → Q .non H) ∧ (okN n = false → rE T H E (.count x n))
def spcheckjar (T : Tx K mg) : Sp := fun vs H Q E => ∃ (j : Addr) (caps : List Int) (i : Int), vs = [.ref j, .int i] ∧ JarsAt T H j caps ∧ (inJ caps.length i = true → Q .non H) ∧ (inJ caps.length i = false → rE T H E (.nojar i))
def spcheckdeed (T : Tx K mg) : Sp := fun vs H Q E => ∃ (j : Addr) (caps : List Int) (v : V) (d : E1), vs = [.ref j, v] ∧ JarsAt T H j caps ∧ DeedAt T H v d ∧ (d.bad caps = none → Q .non H) ∧ ∀ r, d.bad caps = some r → rE T H E r
/-- an __init__ that stores two ints -/
def spTwo (C : Addr) (f g : Str) : Sp := fun vs H Q _ => ∃ (p dx : Addr) (u v : V), vs = [.ref p, u, v] ∧ H p = some (.ins C dx []) ∧ ∀ H', H' p = some (.ins C dx (f2s f u g v)) → Fr p H H' → Q .non H'
def spPourInit (T : Tx K mg) : Sp := spTwo T.cPour "a" "b"
def spPutInit (T : Tx K mg) : Sp := spTwo T.cPut "a" "k"
def spDrawInit (T : Tx K mg) : Sp := spTwo T.cDraw "a" "k"
def spChangeInit (T : Tx K mg) : Sp := spTwo T.cChange "a" "b"
def spJarsL (T : Tx K mg) : Sp := fun vs H Q _ => ∃ (p dx a : Addr) (caps : List Int), vs = [.ref p, .ref a] ∧ H p = some (.ins T.cJars dx []) ∧ SqL K H a (vi caps) ∧ Caps caps ∧
  ∀ H', JarsAt T H' p caps → Fr p H H' → Q .non H'
def spJarsT (T : Tx K mg) : Sp := fun vs H Q _ => ∃ (p dx a : Addr) (caps : List Int), vs = [.ref p, .ref a] ∧ H p = some (.ins T.cJars dx []) ∧ H a = some (.tup (vi caps)) ∧ Caps caps ∧
  ∀ H', JarsAt T H' p caps → Fr p H H' → Q .non H'
def spJarsInit (T : Tx K mg) : Sp := fun vs H Q _ => ∃ (p dx a : Addr) (caps : List Int), vs = [.ref p, .ref a] ∧ H p = some (.ins T.cJars dx []) ∧ (SqL K H a (vi caps) ∨ H a = some (.tup (vi caps))) ∧ Caps caps ∧
  ∀ H', JarsAt T H' p caps → Fr p H H' → Q .non H'
end
section
variable {P : Program} {w : World} {K : PySem.W.Frag} {mg : Str → Option Value} {base : Heap}
theorem okBadCountInit (T : Tx K mg) : FnOk P w K mg base CX0 1 T.aBadCountInit T.dBadCountInit ["self", "what", "count"] (spBadCountInit T) := by
  refine T.fBadCountInit.ok scBadCountInit (fun vs H Q E h => ?_) (fun cdv A outer s H vs Q E hr h => ?_)
  · obtain ⟨a, u, v, rfl, _⟩ := h
    rfl
  · obtain ⟨a, u, v, rfl, ha, hq⟩ := h
    refine ⟨_, (pss_cons (ps_ost (pv 0) (pv 1))
      (pss_one (ps_ost (pv 0) (pv 2)))), ?_⟩
    refine ⟨_, rfl, _, rfl, a, _, rfl, T.oBadCount, T.nBadCount_what, .inl ⟨ha, fun d hd ne => ?_⟩⟩
    refine ⟨_, rfl, _, rfl, a, _, rfl, T.oBadCount, T.nBadCount_count, .inr ⟨d, _, upd_same, by rw [upd_ne ne]; exact upd_same, (by show 1 ≤ 900; decide), ?_⟩⟩
    refine hq _ d hd ne (by rw [upd_ne ne.symm]; exact upd_same) upd_same ?_
    exact fun b o n1 e => by
      have n2 := ne_of_none e hd
      rw [upd_ne n2, upd_ne n1, upd_ne n2]
      exact e
theorem okSizesInit (T : Tx K mg) : FnOk P w K mg base CX0 1 T.aSizesInit T.dSizesInit ["self", "a", "b"] (spSizesInit T) := by
  refine T.fSizesInit.ok scSizesInit (fun vs H Q E h => ?_) (fun cdv A outer s H vs Q E hr h => ?_)
  · obtain ⟨a, u, v, rfl, _⟩ := h
    rfl
  · obtain ⟨a, u, v, rfl, ha, hq⟩ := h
    refine ⟨_, (pss_cons (ps_ost (pv 0) (pv 1))
      (pss_one (ps_ost (pv 0) (pv 2)))), ?_⟩
    refine ⟨_, rfl, _, rfl, a, _, rfl, T.oSizes, T.nSizes_a, .inl ⟨ha, fun d hd ne => ?_⟩⟩
    refine ⟨_, rfl, _, rfl, a, _, rfl, T.oSizes, T.nSizes_b, .inr ⟨d, _, upd_same, by rw [upd_ne ne]; exact upd_same, (by show 1 ≤ 900; decide), ?_⟩⟩
    refine hq _ d hd ne (by rw [upd_ne ne.symm]; exact upd_same) upd_same ?_
    exact fun b o n1 e => by
      have n2 := ne_of_none e hd
      rw [upd_ne n2, upd_ne n1, upd_ne n2]
      exact e
theorem okNoJarInit (T : Tx K mg) : FnOk P w K mg base CX0 1 T.aNoJarInit T.dNoJarInit ["self", "jar"] (spNoJarInit T) := by
  refine T.fNoJarInit.ok scNoJarInit (fun vs H Q E h => ?_) (fun cdv A outer s H vs Q E hr h => ?_)
  · obtain ⟨a, u, rfl, _⟩ := h
    rfl
  · obtain ⟨a, u, rfl, ha, hq⟩ := h
    refine ⟨_, (pss_one (ps_ost (pv 0) (pv 1))), ?_⟩
    refine ⟨_, rfl, _, rfl, a, _, rfl, T.oNoJar, T.nNoJar_jar, .inl ⟨ha, fun d hd ne => ?_⟩⟩
    refine hq _ d hd ne upd_same (by rw [upd_ne ne]; exact upd_same) ?_
    exact fun b o n1 e => by
      have n2 := ne_of_none e hd
      rw [upd_ne n1, upd_ne n2]
      exact e
theorem okSameJarInit (T : Tx K mg) : FnOk P w K mg base CX0 1 T.aSameJarInit T.dSameJarInit ["self", "jar"] (spSameJarInit T) := by
  refine T.fSameJarInit.ok scSameJarInit (fun vs H Q E h => ?_) (fun cdv A outer s H vs Q E hr h => ?_)
  · obtain ⟨a, u, rfl, _⟩ := h
    rfl
  · obtain ⟨a, u, rfl, ha, hq⟩ := h
    refine ⟨_, (pss_one (ps_ost (pv 0) (pv 1))), ?_⟩
    refine ⟨_, rfl, _, rfl, a, _, rfl, T.oSameJar, T.nSameJar_jar, .inl ⟨ha, fun d hd ne => ?_⟩⟩
    refine hq _ d hd ne upd_same (by rw [upd_ne ne]; exact upd_same) ?_
    exact fun b o n1 e => by
      have n2 := ne_of_none e hd
      rw [upd_ne n1, upd_ne n2]
      exact e
/-- what a made exception leaves -/
theorem x2_made {H : Hp} {C : Addr} {f g : Str} {u v : V} {E : XK} (h : ∀ (H' : Hp) (d : Addr), H' d = some (.xd (f2s g v f u)) → Same H H' → E (.ref C) (some d) H') : ∀ a, H a = none → spX2 C f g [.ref a, u, v] (upd H a (exo a C none))
    (fun v H2 => v = .non ∧ ∃ (d : Addr) (fs : List (Str × V)), H2 a = some (exo a C (some d)) ∧ H2 d = some (exd d fs) ∧ H d = none ∧ E (.ref C) (some d) (upd (del H2 a) d (.xd fs))) (fun _ _ _ => False) := fun a ha => by
  refine ⟨a, u, v, rfl, upd_same, fun H' d hd ne e1 e2 fr => ⟨rfl, d, _, e1, e2, by rw [upd_ne ne] at hd; exact hd, ?_⟩⟩
  have hd0 : H d = none := by rw [upd_ne ne] at hd; exact hd
  refine h _ d upd_same fun b o e => ?_
  have n1 := ne_of_none e ha
  have n2 := ne_of_none e hd0
  rw [upd_ne n2, del_ne n1]
  exact fr b o n1 (by rw [upd_ne n1]; exact e)
theorem x1_made {H : Hp} {C : Addr} {f : Str} {u : V} {E : XK} (h : ∀ (H' : Hp) (d : Addr), H' d = some (.xd (f1s f u)) → Same H H' → E (.ref C) (some d) H') : ∀ a, H a = none → spX1 C f [.ref a, u] (upd H a (exo a C none))
    (fun v H2 => v = .non ∧ ∃ (d : Addr) (fs : List (Str × V)), H2 a = some (exo a C (some d)) ∧ H2 d = some (exd d fs) ∧ H d = none ∧ E (.ref C) (some d) (upd (del H2 a) d (.xd fs))) (fun _ _ _ => False) := fun a ha => by
  refine ⟨a, u, rfl, upd_same, fun H' d hd ne e1 e2 fr => ⟨rfl, d, _, e1, e2, by rw [upd_ne ne] at hd; exact hd, ?_⟩⟩
  have hd0 : H d = none := by rw [upd_ne ne] at hd; exact hd
  refine h _ d upd_same fun b o e => ?_
  have n1 := ne_of_none e ha
  have n2 := ne_of_none e hd0
  rw [upd_ne n2, del_ne n1]
  exact fr b o n1 (by rw [upd_ne n1]; exact e)
theorem okcheckmuch (T : Tx K mg) : FnOk P w K mg base (L2.CX P w) 3 T.acheckmuch T.dcheckmuch ["what", "much"] (spcheckmuch T) := by
  refine T.fcheckmuch.okX sccheckmuch (fun vs H Q E h => ?_) (fun cdv A outer s H vs Q E hr h => ?_)
  · obtain ⟨x, n, rfl, _⟩ := h
    rfl
  · obtain ⟨x, n, rfl, h1, h2⟩ := h
    refine ⟨_, (pss_one (ps_if (pt_not (pt_chain op_le op_le pe_int (pv 1) (pe_glob (v := .int 1000000000000) rfl T.cMOSTMUCH ⟨_, rfl⟩))) (pss_one (ps_raise rfl (takes_of rfl rfl rfl rfl) (pmk_oex T.oBadCount T.iBadCount T.tBadCount (okBadCountInit T) (hr.mono (by decide)) T.bBadCountInit .nil pass0 rfl T.mBadCount (pa_cons (pv 0) (pa_cons (pv 1) pa_nil))))) pss_nil)), ?_⟩
    cases ok : okN n with
    | true =>
      have q := h1 ok
      unfold okN at ok
      simp only [Bool.and_eq_true, decide_eq_true_eq] at ok
      refine ⟨_, rfl, _, _, rfl, rfl, _, rfl, ifT (decide_eq_true ok.1) ?_⟩
      exact ⟨_, _, rfl, rfl, _, rfl, iteNS ok.2 q⟩
    | false =>
      have q := h2 ok
      unfold okN at ok
      have bad := x2_made q
      by_cases g : (1 : Int) ≤ n
      · refine ⟨_, rfl, _, _, rfl, rfl, _, rfl, ifT (decide_eq_true g) ?_⟩
        have g2 : ¬ n ≤ 1000000000000 := fun z => by rw [decide_eq_true g, decide_eq_true z] at ok; cases ok
        refine ⟨_, _, rfl, rfl, _, rfl, ?_⟩
        show if (!decide (n ≤ 1000000000000)) = true then _ else _
        rw [decide_eq_false g2]
        refine ifT rfl ?_
        exact ⟨_, rfl, _, rfl, (by show 2 ≤ 1000; decide), bad⟩
      · refine ⟨_, rfl, _, _, rfl, rfl, _, rfl, ifF (decide_eq_false g) ?_⟩
        exact ⟨_, rfl, ifT rfl ⟨_, rfl, _, rfl, (by show 2 ≤ 1000; decide), bad⟩⟩
theorem okcheckjar (T : Tx K mg) : FnOk P w K mg base (L2.CX P w) 3 T.acheckjar T.dcheckjar ["jars", "jar"] (spcheckjar T) := by
  refine T.fcheckjar.okX sccheckjar (fun vs H Q E h => ?_) (fun cdv A outer s H vs Q E hr h => ?_)
  · obtain ⟨j, caps, i, rfl, _⟩ := h
    rfl
  · obtain ⟨j, caps, i, rfl, ⟨dx, t, e1, e2⟩, h1, h2⟩ := h
    refine ⟨_, (pss_one (ps_if (pt_not (pt_chain op_le op_lt pe_int (pv 1) (pe_callB call_len_seq rfl T.nlen PySem.boot_len (pa_cons (pe_fld (pv 0) rfl) pa_nil)))) (pss_one (ps_raise rfl (takes_of rfl rfl rfl rfl) (pmk_oex T.oNoJar T.iNoJar T.tNoJar (okNoJarInit T) (hr.mono (by decide)) T.bNoJarInit .nil pass0 rfl T.mNoJar (pa_cons (pv 1) pa_nil)))) pss_nil)), ?_⟩
    have el : (vi caps).length = caps.length := List.length_map ..
    by_cases g : (0 : Int) ≤ i
    · refine ⟨_, rfl, _, _, rfl, rfl, _, rfl, ifT (decide_eq_true g) ?_⟩
      refine ⟨_, rfl, j, _, dx, _, _, rfl, e1, T.lJars, T.nJars_sizes, lk1, t, _, rfl, .inr (SqT.of e2), _, _, rfl, rfl, _, rfl, ?_⟩
      by_cases g2 : i < (caps.length : Int)
      · exact iteNS (by rw [el]; exact g2) (h1 (by unfold inJ; rw [decide_eq_true g, decide_eq_true g2]; rfl))
      · have q := h2 (by unfold inJ; rw [decide_eq_false g2, Bool.and_false])
        refine (congrArg (fun c : Bool => if (!c) = true then _ else _) (decide_eq_false (by rw [el]; exact g2))).mpr ?_
        exact ifT rfl ⟨_, rfl, (by show 1 ≤ 1000; decide), x1_made q⟩
    · have q := h2 (by unfold inJ; rw [decide_eq_false g]; rfl)
      refine ⟨_, rfl, _, _, rfl, rfl, _, rfl, ifF (decide_eq_false g) ?_⟩
      exact ⟨_, rfl, ifT rfl ⟨_, rfl, (by show 1 ≤ 1000; decide), x1_made q⟩⟩
theorem okPourInit (T : Tx K mg) : FnOk P w K mg base CX0 1 T.aPourInit T.dPourInit ["self", "a", "b"] (spPourInit T) := by
  refine T.fPourInit.ok scPourInit (fun vs H Q E h => ?_) (fun cdv A outer s H vs Q E hr h => ?_)
  · obtain ⟨p, dx, u, v, rfl, _⟩ := h
    rfl
  · obtain ⟨p, dx, u, v, rfl, hp, hq⟩ := h
    refine ⟨_, (pss_cons (ps_fld (pv 0) (pv 1) rfl)
      (pss_one (ps_fld (pv 0) (pv 2) rfl))), ?_⟩
    refine ⟨_, rfl, _, rfl, p, _, dx, _, rfl, hp, T.lPour, T.nPour_a, (by show 0 < 1000; decide), ?_⟩
    refine ⟨_, rfl, _, rfl, p, _, dx, _, rfl, upd_same, T.lPour, T.nPour_b, (by show 1 < 1000; decide), ?_⟩
    refine hq _ ?_ (fr_mut (fr_mut (Fr.refl _ _)))
    rw [upd_same, put2 (by decide +kernel)]
    rfl
theorem okPutInit (T : Tx K mg) : FnOk P w K mg base CX0 1 T.aPutInit T.dPutInit ["self", "a", "k"] (spPutInit T) := by
  refine T.fPutInit.ok scPutInit (fun vs H Q E h => ?_) (fun cdv A outer s H vs Q E hr h => ?_)
  · obtain ⟨p, dx, u, v, rfl, _⟩ := h
    rfl
  · obtain ⟨p, dx, u, v, rfl, hp, hq⟩ := h
    refine ⟨_, (pss_cons (ps_fld (pv 0) (pv 1) rfl)
      (pss_one (ps_fld (pv 0) (pv 2) rfl))), ?_⟩
    refine ⟨_, rfl, _, rfl, p, _, dx, _, rfl, hp, T.lPut, T.nPut_a, (by show 0 < 1000; decide), ?_⟩
    refine ⟨_, rfl, _, rfl, p, _, dx, _, rfl, upd_same, T.lPut, T.nPut_k, (by show 1 < 1000; decide), ?_⟩
    refine hq _ ?_ (fr_mut (fr_mut (Fr.refl _ _)))
    rw [upd_same, put2 (by decide +kernel)]
    rfl
theorem okDrawInit (T : Tx K mg) : FnOk P w K mg base CX0 1 T.aDrawInit T.dDrawInit ["self", "a", "k"] (spDrawInit T) := by
  refine T.fDrawInit.ok scDrawInit (fun vs H Q E h => ?_) (fun cdv A outer s H vs Q E hr h => ?_)
  · obtain ⟨p, dx, u, v, rfl, _⟩ := h
    rfl
  · obtain ⟨p, dx, u, v, rfl, hp, hq⟩ := h
    refine ⟨_, (pss_cons (ps_fld (pv 0) (pv 1) rfl)
      (pss_one (ps_fld (pv 0) (pv 2) rfl))), ?_⟩
    refine ⟨_, rfl, _, rfl, p, _, dx, _, rfl, hp, T.lDraw, T.nDraw_a, (by show 0 < 1000; decide), ?_⟩
    refine ⟨_, rfl, _, rfl, p, _, dx, _, rfl, upd_same, T.lDraw, T.nDraw_k, (by show 1 < 1000; decide), ?_⟩
    refine hq _ ?_ (fr_mut (fr_mut (Fr.refl _ _)))
    rw [upd_same, put2 (by decide +kernel)]
    rfl
theorem okChangeInit (T : Tx K mg) : FnOk P w K mg base CX0 1 T.aChangeInit T.dChangeInit ["self", "a", "b"] (spChangeInit T) := by
  refine T.fChangeInit.ok scChangeInit (fun vs H Q E h => ?_) (fun cdv A outer s H vs Q E hr h => ?_)
  · obtain ⟨p, dx, u, v, rfl, _⟩ := h
    rfl
  · obtain ⟨p, dx, u, v, rfl, hp, hq⟩ := h
    refine ⟨_, (pss_cons (ps_fld (pv 0) (pv 1) rfl)
      (pss_one (ps_fld (pv 0) (pv 2) rfl))), ?_⟩
    refine ⟨_, rfl, _, rfl, p, _, dx, _, rfl, hp, T.lChange, T.nChange_a, (by show 0 < 1000; decide), ?_⟩
    refine ⟨_, rfl, _, rfl, p, _, dx, _, rfl, upd_same, T.lChange, T.nChange_b, (by show 1 < 1000; decide), ?_⟩
    refine hq _ ?_ (fr_mut (fr_mut (Fr.refl _ _)))
    rw [upd_same, put2 (by decide +kernel)]
    rfl
end
end Kp

namespace Kp
open PySem PySem.Spec PyProof.Rows L2 KpR
/-! ### lists of ints compared; slices -/
def pdI (l : List Int) : List PyData := l.map PyData.int
section
variable {K : PySem.W.Frag} {H : Hp}
theorem dpI : ∀ l : List Int, DpAll K H (vi l) (pdI l)
  | [] => .nil
  | i :: l => .cons (.int i) (dpI l)
theorem lay_i : ∀ l : List Int, PyData.canLayAll0 (pdI l) = true
  | [] => by simp [pdI, PyData.canLayAll0]
  | i :: l => by
    have := lay_i l
    simp only [pdI, List.map_cons, PyData.canLayAll0, PyData.canLay0, Bool.true_and]
    exact this
theorem dep_i : ∀ l : List Int, PyData.depthAll (pdI l) = 0
  | [] => by simp [pdI, PyData.depthAll]
  | i :: l => by
    have := dep_i l
    simp only [pdI, List.map_cons, PyData.depthAll, PyData.depth]
    rw [show PyData.depthAll (List.map PyData.int l) = 0 from this]
    rfl
theorem shape_i (l : List Int) : SeqAt.shaped (.list (pdI l)) = true := by
  unfold SeqAt.shaped
  simp only [PyData.canLay0, PyData.depth, lay_i, dep_i]
  rfl
theorem eqv_i : ∀ l m : List Int, PyData.eqvAll (pdI l) (pdI m) = decide (l = m)
  | [], [] => by simp [pdI, PyData.eqvAll]
  | [], _ :: _ => by simp [pdI, PyData.eqvAll]
  | _ :: _, [] => by simp [pdI, PyData.eqvAll]
  | i :: l, j :: m => by
    have := eqv_i l m
    simp only [pdI, List.map_cons, PyData.eqvAll, PyData.eqv]
    rw [show PyData.eqvAll (List.map PyData.int l) (List.map PyData.int m) = decide (l = m) from this]
    by_cases h1 : i = j
    · by_cases h2 : l = m <;> simp [h1, h2]
    · simp [h1]
theorem ne_ints {a b : Addr} {l m : List Int} {Q : VK} (h1 : SqL K H a (vi l)) (h2 : SqL K H b (vi m)) (e : l = m) (q : Q (.bl false) H) : rNeD K (.ref a) (.ref b) H Q := by
  refine ⟨_, _, .lst h1 (dpI l), .lst h2 (dpI m), shape_i l, shape_i m, ?_⟩
  have z : PyData.eqv (.list (pdI l)) (.list (pdI m)) = true := by
    simp only [PyData.eqv, eqv_i]
    exact decide_eq_true e
  rw [z]
  exact q
theorem eq_ints {a b : Addr} {l m : List Int} {Q : VK} (h1 : SqL K H a (vi l)) (h2 : SqL K H b (vi m)) (q : Q (.bl (decide (l = m))) H) : rEqD K (.ref a) (.ref b) H Q := by
  refine ⟨_, _, .lst h1 (dpI l), .lst h2 (dpI m), shape_i l, shape_i m, ?_⟩
  have z : PyData.eqv (.list (pdI l)) (.list (pdI m)) = decide (l = m) := by simp only [PyData.eqv, eqv_i]
  rw [z]
  exact q
end
theorem cut_take {xs : List V} {n : Nat} : cutV xs none (some (n : Int)) = xs.take n := by
  unfold cutV
  rw [HT.sIx_nat, HT.sIx_none, List.drop_zero, Nat.sub_zero]
  by_cases h : n ≤ xs.length
  · rw [Nat.min_eq_left h]
  · rw [Nat.min_eq_right (by omega), List.take_length, List.take_of_length_le (by omega)]
theorem cut_drop {xs : List V} {n : Nat} (h : n ≤ xs.length) : cutV xs (some (n : Int)) none = xs.drop n := by
  unfold cutV
  rw [HT.sIx_nat, HT.sIx_none, Nat.min_eq_left h]
  exact List.take_of_length_le (by rw [List.length_drop]; omega)
section
variable {K : PySem.W.Frag} {H : Hp}
/-- a written list of ints, one of which is drawn -/
theorem pickL {l : Addr} {xs : List Int} {n : Nat} {Q : VK} (h : SqL K H l (vi xs)) (hn : n < xs.length) (q : Q (.int (at0 xs n)) H) : rIxL K (.ref l) (.int n) H Q := ⟨l, _, _, _, rfl, rfl, h, vi_at hn, q⟩
end
end Kp
namespace Kp
open PySem PySem.Spec PyProof.Rows L2 KpR
section
variable {P : Program} {w : World} {K : PySem.W.Frag} {mg : Str → Option Value} {base : Heap}
/-! ### isinstance of a deed -/
def E1.cls (T : Tx K mg) : E1 → Addr
  | .pour _ _ => T.cPour
  | .put _ _ => T.cPut
  | .draw _ _ => T.cDraw
  | .change _ _ => T.cChange
def E1.fst : E1 → Int
  | .pour a _ => a
  | .put a _ => a
  | .draw a _ => a
  | .change a _ => a
def E1.fs : E1 → List (Str × V)
  | .pour a b => f2s "a" (.int a) "b" (.int b)
  | .put a k => f2s "a" (.int a) "k" (.int k)
  | .draw a k => f2s "a" (.int a) "k" (.int k)
  | .change a b => f2s "a" (.int a) "b" (.int b)
theorem deed_at {T : Tx K mg} {H : Hp} {v : V} {d : E1} (h : DeedAt T H v d) : ∃ p dx, v = .ref p ∧ H p = some (.ins (d.cls T) dx d.fs) := by
  obtain ⟨p, dx, rfl, h⟩ := h
  cases d <;> exact ⟨p, dx, rfl, h⟩
theorem cls_cls (T : Tx K mg) (d : E1) : Cls K (d.cls T) := by
  cases d
  · exact T.lPour
  · exact T.lPut
  · exact T.lDraw
  · exact T.lChange
theorem no_a (T : Tx K mg) (d : E1) : NoAttr K (d.cls T) "a" := by
  cases d
  · exact T.nPour_a
  · exact T.nPut_a
  · exact T.nDraw_a
  · exact T.nChange_a
theorem fs_a (d : E1) : d.fs.lookup ("a" : Str) = some (.int d.fst) := by
  cases d <;> exact lk1
theorem ty_deed {T : Tx K mg} {H : Hp} {p dx : Addr} {d : E1} (h : H p = some (.ins (d.cls T) dx d.fs)) : TyX K H (.ref p) (.ref (d.cls T)) := by
  refine .base ?_
  cases d
  · exact .ins h T.lPour T.yPour.ha T.yPour.hn T.yPour.ht T.yPour.hm
  · exact .ins h T.lPut T.yPut.ha T.yPut.hn T.yPut.ht T.yPut.hm
  · exact .ins h T.lDraw T.yDraw.ha T.yDraw.hn T.yDraw.ht T.yDraw.hm
  · exact .ins h T.lChange T.yChange.ha T.yChange.hn T.yChange.ht T.yChange.hm
def E1.isPut : E1 → Bool
  | .put _ _ => true
  | _ => false
def E1.isDraw : E1 → Bool
  | .draw _ _ => true
  | _ => false
def E1.isPour : E1 → Bool
  | .pour _ _ => true
  | _ => false
def E1.isChange : E1 → Bool
  | .change _ _ => true
  | _ => false
theorem is_put (T : Tx K mg) (d : E1) : PySem.W.kitOne K (.ref (d.cls T)) (.ref T.cPut) = some d.isPut := by
  cases d
  · exact T.iPour_Put
  · exact T.iPut_Put
  · exact T.iDraw_Put
  · exact T.iChange_Put
theorem is_draw (T : Tx K mg) (d : E1) : PySem.W.kitOne K (.ref (d.cls T)) (.ref T.cDraw) = some d.isDraw := by
  cases d
  · exact T.iPour_Draw
  · exact T.iPut_Draw
  · exact T.iDraw_Draw
  · exact T.iChange_Draw
theorem is_pour (T : Tx K mg) (d : E1) : PySem.W.kitOne K (.ref (d.cls T)) (.ref T.cPour) = some d.isPour := by
  cases d
  · exact T.iPour_Pour
  · exact T.iPut_Pour
  · exact T.iDraw_Pour
  · exact T.iChange_Pour
theorem is_change (T : Tx K mg) (d : E1) : PySem.W.kitOne K (.ref (d.cls T)) (.ref T.cChange) = some d.isChange := by
  cases d
  · exact T.iPour_Change
  · exact T.iPut_Change
  · exact T.iDraw_Change
  · exact T.iChange_Change
end
end Kp

namespace Kp
open PySem PySem.Spec PyProof.Rows L2 KpR
theorem inJ_nat {n : Nat} {j : Int} (h : inJ n j = true) : ∃ k : Nat, j = (k : Int) ∧ k < n := by
  unfold inJ at h
  simp only [Bool.and_eq_true, decide_eq_true_eq] at h
  exact ⟨j.toNat, by omega, by omega⟩
section
variable {P : Program} {w : World} {K : PySem.W.Frag} {mg : Str → Option Value} {base : Heap}
theorem okcheckdeed (T : Tx K mg) : FnOk P w K mg base (L2.CX P w) 4 T.acheckdeed T.dcheckdeed ["jars", "deed"] (spcheckdeed T) := by
  refine T.fcheckdeed.okX sccheckdeed (fun vs H Q E h => ?_) (fun cdv A outer s H vs Q E hr h => ?_)
  · obtain ⟨j, caps, v, d, rfl, _⟩ := h
    rfl
  · obtain ⟨j, caps, v, d, rfl, hJ, hD, hq, hr2⟩ := h
    refine ⟨_, (pss_cons (ps_expr (pe_call (okcheckjar T) (hr.mono (by decide)) rfl T.gcheckjar T.fcheckjar.kp T.bcheckjar .nil (passes_call (W := fun c d _ H => E c d H) (takes_of rfl rfl rfl rfl) (fun _ _ _ _ h => h)) (pa_cons (pv 0) (pa_cons (pe_fld (pv 1) rfl) pa_nil))))
      (pss_cons (ps_if (PW.pt (pw_or (pt_val (pe_callB call_isi rfl T.nisinstance (by decide +kernel) (pa_cons (pv 1) (pa_cons (pe_glob (v := .ref T.cPut) rfl T.mPut rfl) pa_nil)))) (pw_or1 (pt_val (pe_callB call_isi rfl T.nisinstance (by decide +kernel) (pa_cons (pv 1) (pa_cons (pe_glob (v := .ref T.cDraw) rfl T.mDraw rfl) pa_nil))))))) (pss_cons (ps_expr (pe_call (okcheckmuch T) (hr.mono (by decide)) rfl T.gcheckmuch T.fcheckmuch.kp T.bcheckmuch .nil (passes_call (W := fun c d _ H => E c d H) (takes_of rfl rfl rfl rfl) (fun _ _ _ _ h => h)) (pa_cons pe_str (pa_cons (pe_fld (pv 1) rfl) pa_nil))))
      (pss_one ps_retN)) pss_nil)
      (pss_cons (ps_expr (pe_call (okcheckjar T) (hr.mono (by decide)) rfl T.gcheckjar T.fcheckjar.kp T.bcheckjar .nil (passes_call (W := fun c d _ H => E c d H) (takes_of rfl rfl rfl rfl) (fun _ _ _ _ h => h)) (pa_cons (pv 0) (pa_cons (pe_fld (pv 1) rfl) pa_nil))))
      (pss_cons (ps_if (pt_cmpR op_eq (pe_fld (pv 1) rfl) (pe_fld (pv 1) rfl) (nomark _)) (pss_one (ps_raise rfl (takes_of rfl rfl rfl rfl) (pmk_oex T.oSameJar T.iSameJar T.tSameJar (okSameJarInit T) (hr.mono (by decide)) T.bSameJarInit .nil pass0 rfl T.mSameJar (pa_cons (pe_fld (pv 1) rfl) pa_nil)))) pss_nil)
      (pss_one (ps_if (PW.pt (pw_and (pt_val (pe_callB call_isi rfl T.nisinstance (by decide +kernel) (pa_cons (pv 1) (pa_cons (pe_glob (v := .ref T.cChange) rfl T.mChange rfl) pa_nil)))) (pw_and1 (pt_cmpR op_ne (pe_ix (r := rIxT K) ix_tup (pe_fld (pv 0) rfl) (pe_fld (pv 1) rfl) (fun _ _ => rfl)) (pe_ix (r := rIxT K) ix_tup (pe_fld (pv 0) rfl) (pe_fld (pv 1) rfl) (fun _ _ => rfl)) (nomark _))))) (pss_one (ps_raise rfl (takes_of rfl rfl rfl rfl) (pmk_oex T.oSizes T.iSizes T.tSizes (okSizesInit T) (hr.mono (by decide)) T.bSizesInit .nil pass0 rfl T.mSizes (pa_cons (pe_fld (pv 1) rfl) (pa_cons (pe_fld (pv 1) rfl) pa_nil))))) pss_nil)))))), ?_⟩
    obtain ⟨p, dx, rfl, hp⟩ := deed_at hD
    have ty := ty_deed hp
    refine ⟨_, rfl, _, rfl, p, _, dx, _, _, rfl, hp, cls_cls T d, no_a T d, fs_a d, j, caps, d.fst, rfl, hJ, fun ok1 => ?_, fun no => hr2 _ ?_⟩
    · refine ⟨_, rfl, .ref p, .ref T.cPut, _, _, _, rfl, .own _, ty, is_put T d, _, rfl, ?_⟩
      cases d with
      | put a k =>
        have e1 : inJ caps.length a = true := ok1
        refine ifT rfl (ifT rfl ?_)
        exact ⟨_, rfl, p, _, dx, _, _, rfl, hp, T.lPut, T.nPut_k, lk2 (by decide +kernel), "much", k, rfl, fun ok => hq (by simp [E1.bad, e1, ok]), fun no => hr2 _ (by simp [E1.bad, e1, no])⟩
      | draw a k =>
        have e1 : inJ caps.length a = true := ok1
        refine ifF rfl ⟨_, rfl, .ref p, .ref T.cDraw, _, _, _, rfl, .own _, ty, T.iDraw_Draw, _, rfl, ifT rfl ?_⟩
        exact ⟨_, rfl, p, _, dx, _, _, rfl, hp, T.lDraw, T.nDraw_k, lk2 (by decide +kernel), "much", k, rfl, fun ok => hq (by simp [E1.bad, e1, ok]), fun no => hr2 _ (by simp [E1.bad, e1, no])⟩
      | pour a b =>
        have e1 : inJ caps.length a = true := ok1
        refine ifF rfl ⟨_, rfl, .ref p, .ref T.cDraw, _, _, _, rfl, .own _, ty, T.iPour_Draw, _, rfl, ifF rfl ?_⟩
        refine ⟨_, rfl, _, rfl, p, _, dx, _, _, rfl, hp, T.lPour, T.nPour_b, lk2 (by decide +kernel), j, caps, b, rfl, hJ, fun e2 => ?_, fun no => hr2 _ (by simp [E1.bad, e1, no])⟩
        refine ⟨_, rfl, p, _, dx, _, _, rfl, hp, T.lPour, T.nPour_a, lk1, _, rfl, p, _, dx, _, _, rfl, hp, T.lPour, T.nPour_b, lk2 (by decide +kernel), rfl, _, rfl, ifD (fun e => ?_) fun e => ?_⟩
        · injection e with e
          exact ⟨_, rfl, p, _, dx, _, _, rfl, hp, T.lPour, T.nPour_a, lk1, (by show 1 ≤ 1000; decide), x1_made (hr2 (.same a) (by simp [E1.bad, e1, e2, e]))⟩
        · have ne : ¬ a = b := fun z => e (congrArg V.int z)
          exact ⟨_, rfl, .ref p, .ref T.cChange, _, _, _, rfl, .own _, ty, T.iPour_Change, _, rfl, ifF rfl (ifF rfl (hq (by simp [E1.bad, e1, e2, ne])))⟩
      | change a b =>
        have e1 : inJ caps.length a = true := ok1
        refine ifF rfl ⟨_, rfl, .ref p, .ref T.cDraw, _, _, _, rfl, .own _, ty, T.iChange_Draw, _, rfl, ifF rfl ?_⟩
        refine ⟨_, rfl, _, rfl, p, _, dx, _, _, rfl, hp, T.lChange, T.nChange_b, lk2 (by decide +kernel), j, caps, b, rfl, hJ, fun e2 => ?_, fun no => hr2 _ (by simp [E1.bad, e1, no])⟩
        refine ⟨_, rfl, p, _, dx, _, _, rfl, hp, T.lChange, T.nChange_a, lk1, _, rfl, p, _, dx, _, _, rfl, hp, T.lChange, T.nChange_b, lk2 (by decide +kernel), rfl, _, rfl, ifD (fun e => ?_) fun e => ?_⟩
        · injection e with e
          exact ⟨_, rfl, p, _, dx, _, _, rfl, hp, T.lChange, T.nChange_a, lk1, (by show 1 ≤ 1000; decide), x1_made (hr2 (.same a) (by simp [E1.bad, e1, e2, e]))⟩
        · have ne : ¬ a = b := fun z => e (congrArg V.int z)
          obtain ⟨na, rfl, la⟩ := inJ_nat e1
          obtain ⟨nb, rfl, lb⟩ := inJ_nat e2
          obtain ⟨jx, t, j1, j2⟩ := id hJ
          refine ⟨_, rfl, .ref p, .ref T.cChange, _, _, _, rfl, .own _, ty, T.iChange_Change, _, rfl, ifT rfl ?_⟩
          refine ⟨_, rfl, j, _, jx, _, _, rfl, j1, T.lJars, T.nJars_sizes, lk1, _, rfl, p, _, dx, _, _, rfl, hp, T.lChange, T.nChange_a, lk1, t, _, _, _, rfl, rfl, SqT.of j2, vi_at la, ?_⟩
          refine ⟨_, rfl, j, _, jx, _, _, rfl, j1, T.lJars, T.nJars_sizes, lk1, _, rfl, p, _, dx, _, _, rfl, hp, T.lChange, T.nChange_b, lk2 (by decide +kernel), t, _, _, _, rfl, rfl, SqT.of j2, vi_at lb, ?_⟩
          refine ⟨rfl, _, rfl, ?_⟩
          by_cases s : caps.getD na 0 = caps.getD nb 0
          · exact iteNS (congrArg V.int s) (hq (by simp only [E1.bad, e1, e2, if_pos, if_neg ne, Int.toNat_natCast, s]))
          · refine (congrArg (fun c : Bool => if (!c) = true then _ else _) (decide_eq_false fun z => s (by injection z))).mpr ?_
            exact ifT rfl ⟨_, rfl, p, _, dx, _, _, rfl, hp, T.lChange, T.nChange_a, lk1, _, rfl, p, _, dx, _, _, rfl, hp, T.lChange, T.nChange_b, lk2 (by decide +kernel), (by show 2 ≤ 1000; decide), x2_made (hr2 (.sizes na nb) (by simp only [E1.bad, e1, e2, if_pos, if_neg ne, Int.toNat_natCast, if_neg s]))⟩
    · cases d <;> simp only [E1.fst] at no <;> simp [E1.bad, E1.fst, no]
theorem fnOr {CX : CXT} {k : Nat} {f : Addr} {fd : FuncData} {ps : List Str} {s1 s2 s3 : Sp} (F : FnOk P w K mg base CX k f fd ps s1) (G : FnOk P w K mg base CX k f fd ps s2) (h : ∀ vs H Q E, s3 vs H Q E → s1 vs H Q E ∨ s2 vs H Q E) : FnOk P w K mg base CX k f fd ps s3 :=
  ⟨fun vs H Q E q => (h _ _ _ _ q).elim (F.len vs H Q E) (G.len vs H Q E), fun A outer s H args us vs Q E hr he hb hv hs => (h _ _ _ _ hs).elim (F.run A outer s H args us vs Q E hr he hb hv) (G.run A outer s H args us vs Q E hr he hb hv)⟩
theorem okJarsL (T : Tx K mg) : FnOk P w K mg base CX0 4 T.aJarsInit T.dJarsInit ["self", "sizes"] (spJarsL T) := by
  refine T.fJarsInit.ok scJarsInit (fun vs H Q E h => ?_) (fun cdv A outer s H vs Q E hr h => ?_)
  · obtain ⟨p, dx, a, caps, rfl, _⟩ := h
    rfl
  · obtain ⟨p, dx, a, caps, rfl, hp, hS, hC, hq⟩ := h
    have c1 := hC.l1
    have c6 := hC.l6
    refine ⟨_, (pss_cons (ps_if (pt_not (pt_chain op_le op_le pe_int (pe_callB call_len_seq rfl T.nlen PySem.boot_len (pa_cons (pv 1) pa_nil)) (pe_glob (v := .int 6) rfl T.cMOSTJARS ⟨_, rfl⟩))) (pss_one ps_never) pss_nil)
      (pss_cons (ps_for PassesOwn.never rfl (pi_list (pv 1)) (pg_name (i := 2) scJarsInit.nd rfl (by first | exact Or.inl rfl | exact Or.inr rfl)) (pss_one (ps_expr (pe_call (okcheckmuch T) (hr.mono (by decide)) rfl T.gcheckmuch T.fcheckmuch.kp T.bcheckmuch .nil passF (pa_cons pe_str (pa_cons (pv 2) pa_nil))))))
      (pss_one (ps_fld (pv 0) (pe_callTy call_tuple_of rfl T.ntuple (by decide +kernel) (pa_cons (pv 1) pa_nil)) rfl)))), ?_⟩
    refine ⟨_, rfl, a, _, rfl, .inl hS, 1, _, rfl, rfl, _, rfl, ifT (decide_eq_true (by rw [List.length_map]; omega)) ?_⟩
    refine ⟨_, _, rfl, rfl, _, rfl, iteNS (by rw [List.length_map]; omega) ?_⟩
    refine ⟨_, rfl, a, rfl, ⟨_, hS⟩, for_list (K := K) (a := a) (xs := vi caps) (fun i σ H' => ∃ v : Option V, σ = [some (.ref p), some (.ref a), v] ∧ H' = H) ⟨none, rfl, rfl⟩ (fun i σ H' _ ⟨_, _, e⟩ => by rw [e]; exact hS) ?_ ?_⟩
    · rintro i y σ H' hi ⟨v, rfl, rfl⟩
      obtain ⟨z, hz, rfl⟩ := vi_get hi
      have lt : i < caps.length := (List.getElem?_eq_some_iff.mp hz).1
      have ez := at0_of hz
      have z1 := hC.lo i lt
      have z2 := hC.hi i lt
      rw [ez] at z1 z2
      have okz : okN z = true := by unfold okN; rw [decide_eq_true z1, decide_eq_true z2]; rfl
      exact ⟨_, rfl, "size", z, rfl, fun _ => ⟨some (.int z), rfl, rfl⟩, fun no => by rw [okz] at no; cases no⟩
    · rintro σ H' ⟨v, rfl, rfl⟩
      refine ⟨_, rfl, a, _, rfl, .inl ⟨hS, fun t ht => ?_⟩⟩
      have n : p ≠ t := ne_of_none hp ht
      refine ⟨_, rfl, p, _, dx, _, rfl, (by rw [upd_ne n]; exact hp), T.lJars, T.nJars_sizes, (by show 0 < 1000; decide), ?_⟩
      refine hq _ ⟨dx, t, upd_same, by rw [upd_ne n.symm]; exact upd_same⟩ (fr_mut (fr_new (Fr.refl _ _) ht))
theorem okJarsT (T : Tx K mg) : FnOk P w K mg base CX0 4 T.aJarsInit T.dJarsInit ["self", "sizes"] (spJarsT T) := by
  refine T.fJarsInit.ok scJarsInit (fun vs H Q E h => ?_) (fun cdv A outer s H vs Q E hr h => ?_)
  · obtain ⟨p, dx, a, caps, rfl, _⟩ := h
    rfl
  · obtain ⟨p, dx, a, caps, rfl, hp, hS0, hC, hq⟩ := h
    have hS : SqT K H a (vi caps) := SqT.of hS0
    have c1 := hC.l1
    have c6 := hC.l6
    refine ⟨_, (pss_cons (ps_if (pt_not (pt_chain op_le op_le pe_int (pe_callB call_len_seq rfl T.nlen PySem.boot_len (pa_cons (pv 1) pa_nil)) (pe_glob (v := .int 6) rfl T.cMOSTJARS ⟨_, rfl⟩))) (pss_one ps_never) pss_nil)
      (pss_cons (ps_for PassesOwn.never rfl (pi_tup (pv 1)) (pg_name (i := 2) scJarsInit.nd rfl (by first | exact Or.inl rfl | exact Or.inr rfl)) (pss_one (ps_expr (pe_call (okcheckmuch T) (hr.mono (by decide)) rfl T.gcheckmuch T.fcheckmuch.kp T.bcheckmuch .nil passF (pa_cons pe_str (pa_cons (pv 2) pa_nil))))))
      (pss_one (ps_fld (pv 0) (pe_callTy call_tuple_of rfl T.ntuple (by decide +kernel) (pa_cons (pv 1) pa_nil)) rfl)))), ?_⟩
    refine ⟨_, rfl, a, _, rfl, .inr hS, 1, _, rfl, rfl, _, rfl, ifT (decide_eq_true (by rw [List.length_map]; omega)) ?_⟩
    refine ⟨_, _, rfl, rfl, _, rfl, iteNS (by rw [List.length_map]; omega) ?_⟩
    refine ⟨_, rfl, a, rfl, ⟨_, hS⟩, for_tup (K := K) (a := a) (xs := vi caps) (fun i σ H' => ∃ v : Option V, σ = [some (.ref p), some (.ref a), v] ∧ H' = H) ⟨none, rfl, rfl⟩ (fun i σ H' _ ⟨_, _, e⟩ => by rw [e]; exact hS) ?_ ?_⟩
    · rintro i y σ H' hi ⟨v, rfl, rfl⟩
      obtain ⟨z, hz, rfl⟩ := vi_get hi
      have lt : i < caps.length := (List.getElem?_eq_some_iff.mp hz).1
      have ez := at0_of hz
      have z1 := hC.lo i lt
      have z2 := hC.hi i lt
      rw [ez] at z1 z2
      have okz : okN z = true := by unfold okN; rw [decide_eq_true z1, decide_eq_true z2]; rfl
      exact ⟨_, rfl, "size", z, rfl, fun _ => ⟨some (.int z), rfl, rfl⟩, fun no => by rw [okz] at no; cases no⟩
    · rintro σ H' ⟨v, rfl, rfl⟩
      refine ⟨_, rfl, a, _, rfl, .inr ⟨hS, ?_⟩⟩
      have n : a ≠ p := fun z => by rw [z, hp] at hS0; cases hS0
      refine ⟨_, rfl, p, _, dx, _, rfl, hp, T.lJars, T.nJars_sizes, (by show 0 < 1000; decide), ?_⟩
      exact hq _ ⟨dx, a, upd_same, by rw [upd_ne n]; exact hS0⟩ (fr_mut (Fr.refl _ _))
theorem okJarsInit (T : Tx K mg) : FnOk P w K mg base CX0 4 T.aJarsInit T.dJarsInit ["self", "sizes"] (spJarsInit T) :=
  fnOr (okJarsL T) (okJarsT T) fun vs H Q E h => by
    obtain ⟨p, dx, a, caps, e, hp, hS, r⟩ := h
    rcases hS with hS | hS
    · exact .inl ⟨p, dx, a, caps, e, hp, hS, r⟩
    · exact .inr ⟨p, dx, a, caps, e, hp, hS, r⟩
end
end Kp

namespace Kp
open PySem PySem.Spec PyProof.Rows L2 KpR
section
variable {K : PySem.W.Frag} {H : Hp}
theorem eq_tupsB {a b : Addr} {l m : List Int} {Q : VK} (h1 : SqT K H a (vi l)) (h2 : SqT K H b (vi m)) (q : Q (.bl (decide (l = m))) H) : rEqD K (.ref a) (.ref b) H Q := by
  have sh : ∀ l : List Int, SeqAt.shaped (.tuple (pdI l)) = true := fun l => by
    unfold SeqAt.shaped
    simp only [PyData.canLay0, PyData.depth, lay_i, dep_i]
    rfl
  refine ⟨_, _, .tup h1 (dpI l), .tup h2 (dpI m), sh l, sh m, ?_⟩
  have z : PyData.eqv (.tuple (pdI l)) (.tuple (pdI m)) = decide (l = m) := by simp only [PyData.eqv, eqv_i]
  rw [z]
  exact q
theorem alien_ty {C : Addr} {y : V} (h : Alien K C H y) (k1 : PySem.W.kitOne K (.type "NoneType") (.ref C) = some false) (k2 : PySem.W.kitOne K (.type "int") (.ref C) = some false) (k3 : PySem.W.kitOne K (.type "tuple") (.ref C) = some false)
    (k4 : PySem.W.kitOne K (.type "list") (.ref C) = some false) : ∃ t, TyX K H y t ∧ PySem.W.kitOne K t (.ref C) = some false := by
  cases h with
  | non _ => exact ⟨_, .base .non, k1⟩
  | int _ => exact ⟨_, .base (.int _), k2⟩
  | lst _ e => exact ⟨_, .base (.lst e), k4⟩
  | tup _ e => exact ⟨_, .base (.tup e), k3⟩
end
section
variable {K : PySem.W.Frag} {mg : Str → Option Value}
def RJars (T : Tx K mg) (a : Addr) (y : V) (b : Bool) (H : Hp) : Prop := ∃ caps, JarsAt T H a caps ∧ ((∃ c caps2, y = .ref c ∧ JarsAt T H c caps2 ∧ b = decide (caps = caps2)) ∨ (Alien K T.cJars H y ∧ b = false))
/-- a deed of one kind against a deed, or against what is none -/
def RDeed (T : Tx K mg) (C : Addr) (k : E1 → Bool) (a : Addr) (y : V) (b : Bool) (H : Hp) : Prop := ∃ d, k d = true ∧ DeedAt T H (.ref a) d ∧ ((∃ d2, DeedAt T H y d2 ∧ b = decide (d = d2)) ∨ (Alien K C H y ∧ b = false))
def spJarsEq (T : Tx K mg) : Sp := spEqB (RJars T)
end
section
variable {P : Program} {w : World} {K : PySem.W.Frag} {mg : Str → Option Value} {base : Heap}
theorem okJarsEq (T : Tx K mg) : FnOk P w K mg base CX0 1 T.aJarsEq T.dJarsEq ["self", "other"] (spJarsEq T) := by
  refine T.fJarsEq.ok scJarsEq (fun vs H Q E h => ?_) (fun cdv A outer s H vs Q E hr h => ?_)
  · obtain ⟨a, y, b, rfl, _⟩ := h
    rfl
  · obtain ⟨a, y, b, rfl, ⟨caps, ⟨dx, t, h1, h2⟩, hc⟩, hq⟩ := h
    refine ⟨_, (pss_one (ps_ret (pe_and (pe_callB call_isi rfl T.nisinstance (by decide +kernel) (pa_cons (pv 1) (pa_cons (pe_glob (v := .ref T.cJars) rfl T.mJars rfl) pa_nil))) (pe_one (pe_cmpR (r := rEqD K) (op_eqD hr.units) (pe_fld (pv 0) rfl) (pe_fld (pv 1) rfl) (nomark _)))))), ?_⟩
    rcases hc with ⟨c, caps2, rfl, ⟨dy, u, g1, g2⟩, rfl⟩ | ⟨al, rfl⟩
    · refine ⟨_, rfl, .ref c, .ref T.cJars, _, _, true, rfl, .own _, .base (.ins g1 T.lJars T.yJars.ha T.yJars.hn T.yJars.ht T.yJars.hm), T.iJars_Jars, _, rfl, ifT rfl ?_⟩
      exact ⟨_, rfl, a, _, dx, _, _, rfl, h1, T.lJars, T.nJars_sizes, lk1, _, rfl, c, _, dy, _, _, rfl, g1, T.lJars, T.nJars_sizes, lk1, eq_tupsB (SqT.of h2) (SqT.of g2) (hq _ Ext.rfl')⟩
    · obtain ⟨ty, tx, kx⟩ := alien_ty al T.ikJars_NoneType T.ikJars_int T.ikJars_tuple T.ikJars_list
      exact ⟨_, rfl, y, .ref T.cJars, _, _, false, rfl, .own _, tx, kx, _, rfl, ifF rfl (hq _ Ext.rfl')⟩
def spPourEq (T : Tx K mg) : Sp := spEqB (RDeed T T.cPour E1.isPour)
theorem okPourEq (T : Tx K mg) : FnOk P w K mg base CX0 1 T.aPourEq T.dPourEq ["self", "other"] (spPourEq T) := by
  refine T.fPourEq.ok scPourEq (fun vs H Q E h => ?_) (fun cdv A outer s H vs Q E hr h => ?_)
  · obtain ⟨a, y, b, rfl, _⟩ := h
    rfl
  · obtain ⟨a, y, b, rfl, ⟨d, k, ⟨p, dx, e1, h1⟩, hc⟩, hq⟩ := h
    cases e1
    refine ⟨_, (pss_one (ps_ret (pe_and (pe_callB call_isi rfl T.nisinstance (by decide +kernel) (pa_cons (pv 1) (pa_cons (pe_glob (v := .ref T.cPour) rfl T.mPour rfl) pa_nil))) (pe_and (pe_cmpR op_eq (pe_fld (pv 0) rfl) (pe_fld (pv 1) rfl) (nomark _)) (pe_one (pe_cmpR op_eq (pe_fld (pv 0) rfl) (pe_fld (pv 1) rfl) (nomark _))))))), ?_⟩
    cases d with
    | pour x1 x2 =>
      rcases hc with ⟨d2, hd2, rfl⟩ | ⟨al, rfl⟩
      · obtain ⟨q, dy, rfl, g1⟩ := deed_at hd2
        refine ⟨_, rfl, .ref q, .ref T.cPour, _, _, _, rfl, .own _, ty_deed g1, is_pour T d2, _, rfl, ?_⟩
        cases d2 with
        | pour z1 z2 =>
          refine ifT rfl ⟨_, rfl, a, _, dx, _, _, rfl, h1, T.lPour, T.nPour_a, lk1, _, rfl, q, _, dy, _, _, rfl, g1, T.lPour, T.nPour_a, lk1, rfl, _, rfl, ifD (fun e => ?_) fun e => ?_⟩
          · refine ⟨_, rfl, a, _, dx, _, _, rfl, h1, T.lPour, T.nPour_b, lk2 (by decide +kernel), _, rfl, q, _, dy, _, _, rfl, g1, T.lPour, T.nPour_b, lk2 (by decide +kernel), rfl, ?_⟩
            refine (congrArg (fun c => Q (V.bl c) H) (decide_eq_decide.mpr ?_)).mpr (hq _ Ext.rfl')
            injection e with e
            have e := e
            simp
            omega
          · refine (congrArg (fun c => Q (V.bl c) H) (decide_eq_false fun z => ?_).symm).mpr (hq _ Ext.rfl')
            injection z with z1 z2
            subst z1
            exact e rfl
        | put _ _ => exact ifF rfl (hq _ Ext.rfl')
        | draw _ _ => exact ifF rfl (hq _ Ext.rfl')
        | change _ _ => exact ifF rfl (hq _ Ext.rfl')
      · obtain ⟨ty, tx, kx⟩ := alien_ty al T.ikPour_NoneType T.ikPour_int T.ikPour_tuple T.ikPour_list
        exact ⟨_, rfl, y, .ref T.cPour, _, _, false, rfl, .own _, tx, kx, _, rfl, ifF rfl (hq _ Ext.rfl')⟩
    | put _ _ => cases k
    | draw _ _ => cases k
    | change _ _ => cases k
def spPutEq (T : Tx K mg) : Sp := spEqB (RDeed T T.cPut E1.isPut)
theorem okPutEq (T : Tx K mg) : FnOk P w K mg base CX0 1 T.aPutEq T.dPutEq ["self", "other"] (spPutEq T) := by
  refine T.fPutEq.ok scPutEq (fun vs H Q E h => ?_) (fun cdv A outer s H vs Q E hr h => ?_)
  · obtain ⟨a, y, b, rfl, _⟩ := h
    rfl
  · obtain ⟨a, y, b, rfl, ⟨d, k, ⟨p, dx, e1, h1⟩, hc⟩, hq⟩ := h
    cases e1
    refine ⟨_, (pss_one (ps_ret (pe_and (pe_callB call_isi rfl T.nisinstance (by decide +kernel) (pa_cons (pv 1) (pa_cons (pe_glob (v := .ref T.cPut) rfl T.mPut rfl) pa_nil))) (pe_and (pe_cmpR op_eq (pe_fld (pv 0) rfl) (pe_fld (pv 1) rfl) (nomark _)) (pe_one (pe_cmpR op_eq (pe_fld (pv 0) rfl) (pe_fld (pv 1) rfl) (nomark _))))))), ?_⟩
    cases d with
    | put x1 x2 =>
      rcases hc with ⟨d2, hd2, rfl⟩ | ⟨al, rfl⟩
      · obtain ⟨q, dy, rfl, g1⟩ := deed_at hd2
        refine ⟨_, rfl, .ref q, .ref T.cPut, _, _, _, rfl, .own _, ty_deed g1, is_put T d2, _, rfl, ?_⟩
        cases d2 with
        | put z1 z2 =>
          refine ifT rfl ⟨_, rfl, a, _, dx, _, _, rfl, h1, T.lPut, T.nPut_a, lk1, _, rfl, q, _, dy, _, _, rfl, g1, T.lPut, T.nPut_a, lk1, rfl, _, rfl, ifD (fun e => ?_) fun e => ?_⟩
          · refine ⟨_, rfl, a, _, dx, _, _, rfl, h1, T.lPut, T.nPut_k, lk2 (by decide +kernel), _, rfl, q, _, dy, _, _, rfl, g1, T.lPut, T.nPut_k, lk2 (by decide +kernel), rfl, ?_⟩
            refine (congrArg (fun c => Q (V.bl c) H) (decide_eq_decide.mpr ?_)).mpr (hq _ Ext.rfl')
            injection e with e
            have e := e
            simp
            omega
          · refine (congrArg (fun c => Q (V.bl c) H) (decide_eq_false fun z => ?_).symm).mpr (hq _ Ext.rfl')
            injection z with z1 z2
            subst z1
            exact e rfl
        | pour _ _ => exact ifF rfl (hq _ Ext.rfl')
        | draw _ _ => exact ifF rfl (hq _ Ext.rfl')
        | change _ _ => exact ifF rfl (hq _ Ext.rfl')
      · obtain ⟨ty, tx, kx⟩ := alien_ty al T.ikPut_NoneType T.ikPut_int T.ikPut_tuple T.ikPut_list
        exact ⟨_, rfl, y, .ref T.cPut, _, _, false, rfl, .own _, tx, kx, _, rfl, ifF rfl (hq _ Ext.rfl')⟩
    | pour _ _ => cases k
    | draw _ _ => cases k
    | change _ _ => cases k
def spDrawEq (T : Tx K mg) : Sp := spEqB (RDeed T T.cDraw E1.isDraw)
theorem okDrawEq (T : Tx K mg) : FnOk P w K mg base CX0 1 T.aDrawEq T.dDrawEq ["self", "other"] (spDrawEq T) := by
  refine T.fDrawEq.ok scDrawEq (fun vs H Q E h => ?_) (fun cdv A outer s H vs Q E hr h => ?_)
  · obtain ⟨a, y, b, rfl, _⟩ := h
    rfl
  · obtain ⟨a, y, b, rfl, ⟨d, k, ⟨p, dx, e1, h1⟩, hc⟩, hq⟩ := h
    cases e1
    refine ⟨_, (pss_one (ps_ret (pe_and (pe_callB call_isi rfl T.nisinstance (by decide +kernel) (pa_cons (pv 1) (pa_cons (pe_glob (v := .ref T.cDraw) rfl T.mDraw rfl) pa_nil))) (pe_and (pe_cmpR op_eq (pe_fld (pv 0) rfl) (pe_fld (pv 1) rfl) (nomark _)) (pe_one (pe_cmpR op_eq (pe_fld (pv 0) rfl) (pe_fld (pv 1) rfl) (nomark _))))))), ?_⟩
    cases d with
    | draw x1 x2 =>
      rcases hc with ⟨d2, hd2, rfl⟩ | ⟨al, rfl⟩
      · obtain ⟨q, dy, rfl, g1⟩ := deed_at hd2
        refine ⟨_, rfl, .ref q, .ref T.cDraw, _, _, _, rfl, .own _, ty_deed g1, is_draw T d2, _, rfl, ?_⟩
        cases d2 with
        | draw z1 z2 =>
          refine ifT rfl ⟨_, rfl, a, _, dx, _, _, rfl, h1, T.lDraw, T.nDraw_a, lk1, _, rfl, q, _, dy, _, _, rfl, g1, T.lDraw, T.nDraw_a, lk1, rfl, _, rfl, ifD (fun e => ?_) fun e => ?_⟩
          · refine ⟨_, rfl, a, _, dx, _, _, rfl, h1, T.lDraw, T.nDraw_k, lk2 (by decide +kernel), _, rfl, q, _, dy, _, _, rfl, g1, T.lDraw, T.nDraw_k, lk2 (by decide +kernel), rfl, ?_⟩
            refine (congrArg (fun c => Q (V.bl c) H) (decide_eq_decide.mpr ?_)).mpr (hq _ Ext.rfl')
            injection e with e
            have e := e
            simp
            omega
          · refine (congrArg (fun c => Q (V.bl c) H) (decide_eq_false fun z => ?_).symm).mpr (hq _ Ext.rfl')
            injection z with z1 z2
            subst z1
            exact e rfl
        | pour _ _ => exact ifF rfl (hq _ Ext.rfl')
        | put _ _ => exact ifF rfl (hq _ Ext.rfl')
        | change _ _ => exact ifF rfl (hq _ Ext.rfl')
      · obtain ⟨ty, tx, kx⟩ := alien_ty al T.ikDraw_NoneType T.ikDraw_int T.ikDraw_tuple T.ikDraw_list
        exact ⟨_, rfl, y, .ref T.cDraw, _, _, false, rfl, .own _, tx, kx, _, rfl, ifF rfl (hq _ Ext.rfl')⟩
    | pour _ _ => cases k
    | put _ _ => cases k
    | change _ _ => cases k
def spChangeEq (T : Tx K mg) : Sp := spEqB (RDeed T T.cChange E1.isChange)
theorem okChangeEq (T : Tx K mg) : FnOk P w K mg base CX0 1 T.aChangeEq T.dChangeEq ["self", "other"] (spChangeEq T) := by
  refine T.fChangeEq.ok scChangeEq (fun vs H Q E h => ?_) (fun cdv A outer s H vs Q E hr h => ?_)
  · obtain ⟨a, y, b, rfl, _⟩ := h
    rfl
  · obtain ⟨a, y, b, rfl, ⟨d, k, ⟨p, dx, e1, h1⟩, hc⟩, hq⟩ := h
    cases e1
    refine ⟨_, (pss_one (ps_ret (pe_and (pe_callB call_isi rfl T.nisinstance (by decide +kernel) (pa_cons (pv 1) (pa_cons (pe_glob (v := .ref T.cChange) rfl T.mChange rfl) pa_nil))) (pe_and (pe_cmpR op_eq (pe_fld (pv 0) rfl) (pe_fld (pv 1) rfl) (nomark _)) (pe_one (pe_cmpR op_eq (pe_fld (pv 0) rfl) (pe_fld (pv 1) rfl) (nomark _))))))), ?_⟩
    cases d with
    | change x1 x2 =>
      rcases hc with ⟨d2, hd2, rfl⟩ | ⟨al, rfl⟩
      · obtain ⟨q, dy, rfl, g1⟩ := deed_at hd2
        refine ⟨_, rfl, .ref q, .ref T.cChange, _, _, _, rfl, .own _, ty_deed g1, is_change T d2, _, rfl, ?_⟩
        cases d2 with
        | change z1 z2 =>
          refine ifT rfl ⟨_, rfl, a, _, dx, _, _, rfl, h1, T.lChange, T.nChange_a, lk1, _, rfl, q, _, dy, _, _, rfl, g1, T.lChange, T.nChange_a, lk1, rfl, _, rfl, ifD (fun e => ?_) fun e => ?_⟩
          · refine ⟨_, rfl, a, _, dx, _, _, rfl, h1, T.lChange, T.nChange_b, lk2 (by decide +kernel), _, rfl, q, _, dy, _, _, rfl, g1, T.lChange, T.nChange_b, lk2 (by decide +kernel), rfl, ?_⟩
            refine (congrArg (fun c => Q (V.bl c) H) (decide_eq_decide.mpr ?_)).mpr (hq _ Ext.rfl')
            injection e with e
            have e := e
            simp
            omega
          · refine (congrArg (fun c => Q (V.bl c) H) (decide_eq_false fun z => ?_).symm).mpr (hq _ Ext.rfl')
            injection z with z1 z2
            subst z1
            exact e rfl
        | pour _ _ => exact ifF rfl (hq _ Ext.rfl')
        | put _ _ => exact ifF rfl (hq _ Ext.rfl')
        | draw _ _ => exact ifF rfl (hq _ Ext.rfl')
      · obtain ⟨ty, tx, kx⟩ := alien_ty al T.ikChange_NoneType T.ikChange_int T.ikChange_tuple T.ikChange_list
        exact ⟨_, rfl, y, .ref T.cChange, _, _, false, rfl, .own _, tx, kx, _, rfl, ifF rfl (hq _ Ext.rfl')⟩
    | pour _ _ => cases k
    | put _ _ => cases k
    | draw _ _ => cases k
end
end Kp

namespace Kp
open PySem PySem.Spec PyProof.Rows L2 KpR
/-! ### ==, != and in of instances -/
theorem nf_self {K : PySem.W.Frag} {C : Addr} : PySem.W.notFirst K C (.ref C) = true := by simp [PySem.W.notFirst]
section
variable {X : Cx} {K : PySem.W.Frag} {mg : Str → Option Value}
def Al3 (H : Hp) (z : V) : Prop := z = .non ∨ (∃ i, z = .int i) ∨ ∃ a xs, z = .ref a ∧ H a = some (.tup xs)
theorem Al3.ext {H H' : Hp} {z : V} (e : Ext H H') (h : Al3 H z) : Al3 H' z := h.elim .inl fun h => h.elim (fun h => .inr (.inl h)) fun ⟨a, xs, q, r⟩ => .inr (.inr ⟨a, xs, q, e _ _ r⟩)
theorem Al3.alien {C : Addr} {H : Hp} {z : V} (h : Al3 H z) (h1 : PySem.W.subIn K (.ref C) (.type "NoneType") = some false) (h2 : PySem.W.subIn K (.ref C) (.type "int") = some false) (h3 : PySem.W.subIn K (.ref C) (.type "tuple") = some false) : Alien K C H z := by
  rcases h with rfl | ⟨i, rfl⟩ | ⟨a, xs, rfl, e⟩
  · exact .non h1
  · exact .int h2
  · exact .tup h3 e
theorem beh_refs {C : Addr} {R : Addr → V → Bool → Hp → Prop} {x y : V} {b : Bool} {H : Hp} (h : DBehB K C R x y b H) : (∃ c, x = .ref c ∧ ∃ a, y = .ref a ∧ (c = a → b = true)) ∨ ((x = .non ∨ ∃ i, x = .int i) ∧ ∃ a, y = .ref a) := by
  obtain ⟨a, dx, fs, rfl, ha, al, _⟩ := h
  cases al with
  | non _ => exact .inr ⟨.inl rfl, a, rfl⟩
  | int _ => exact .inr ⟨.inr ⟨_, rfl⟩, a, rfl⟩
  | tup _ e => exact .inl ⟨_, rfl, a, rfl, fun z => by rw [z, ha] at e; cases e⟩
  | lst _ e => exact .inl ⟨_, rfl, a, rfl, fun z => by rw [z, ha] at e; cases e⟩
theorem opEqJars (T : Tx K mg) (hr : Room 1 X.A) (hK : X.K = K := by rfl) (hm : X.mg = mg := by rfl) : OpR X (compareOp .Eq) (rEqB (DInsB K T.cJars (RJars T))) := by
  subst hK
  subst hm
  exact op_eqB (rcB_ins (E := E0) ⟨T.eJarsEq, T.eiJarsEq⟩ (okJarsEq T) T.bJarsEq pass0) hr
theorem opNeJars (T : Tx K mg) (hr : Room 2 X.A) (hK : X.K = K := by rfl) (hm : X.mg = mg := by rfl) : OpR X (compareOp .NotEq) (rNeK T.cJars (RJars T)) := by
  subst hK
  subst hm
  exact op_neK (E := E0) (okJarsEq T) T.neJars T.bJarsEq pass0 hr
theorem opInJars (T : Tx K mg) (hr : Room 2 X.A) (hK : X.K = K := by rfl) (hm : X.mg = mg := by rfl) : OpR X (compareOp .In) (rOutB (DBehB K T.cJars (RJars T))) := by
  subst hK
  subst hm
  exact op_outB (n := 1) ((rcB_beh (E := E0) ⟨T.eJarsEq, T.eiJarsEq⟩ (okJarsEq T) T.bJarsEq pass0).eqB fun _ _ _ _ h => beh_refs h) hr
theorem eqJars {T : Tx K mg} {H : Hp} {a b : Addr} {l m : List Int} {Q : VK} (h1 : JarsAt T H a l) (h2 : JarsAt T H b m) (q : ∀ H', Ext H H' → Q (.bl (decide (l = m))) H') : rEqB (DInsB K T.cJars (RJars T)) (.ref a) (.ref b) H Q := by
  obtain ⟨dx, t, e1, _⟩ := id h1
  obtain ⟨dy, u, g1, _⟩ := id h2
  exact ⟨_, ⟨a, b, T.cJars, dx, dy, _, _, rfl, rfl, e1, g1, nf_self, l, h1, .inl ⟨b, m, rfl, h2, rfl⟩⟩, q⟩
theorem neJars {T : Tx K mg} {H : Hp} {a b : Addr} {l : List Int} {Q : VK} (h1 : JarsAt T H a l) (h2 : JarsAt T H b l) (q : ∀ H', Ext H H' → Q (.bl false) H') : rNeK T.cJars (RJars T) (.ref a) (.ref b) H Q := by
  obtain ⟨dx, t, e1, _⟩ := id h1
  obtain ⟨dy, u, g1, _⟩ := id h2
  exact ⟨a, b, true, dx, dy, _, _, rfl, rfl, e1, g1, ⟨l, h1, .inl ⟨b, l, rfl, h2, (decide_eq_true rfl).symm⟩⟩, q⟩
theorem outJars {T : Tx K mg} {H : Hp} {a l : Addr} {caps : List Int} {ys : List V} {Q : VK} (h1 : JarsAt T H a caps) (hl : H l = some (.lst ys)) (hy : ∀ z ∈ ys, Al3 H z) (q : ∀ H', Ext H H' → Q (.bl false) H') : rOutB (DBehB K T.cJars (RJars T)) (.ref a) (.ref l) H Q := by
  refine ⟨l, ys, rfl, fun H' e => e _ _ hl, fun z hz H' e => ?_, q⟩
  obtain ⟨dx, t, e1, e2⟩ := id h1
  have al : Alien K T.cJars H' z := ((hy z hz).ext e).alien T.alJars_NoneType T.alJars_int T.alJars_tuple
  exact ⟨a, dx, _, rfl, e _ _ e1, al, caps, ⟨dx, t, e _ _ e1, e _ _ e2⟩, .inr ⟨al, rfl⟩⟩
/-! deeds -/
def QDeedB (T : Tx K mg) : EqvB := fun x y b H => DInsB K T.cPour (RDeed T T.cPour E1.isPour) x y b H ∨ DInsB K T.cPut (RDeed T T.cPut E1.isPut) x y b H ∨ DInsB K T.cDraw (RDeed T T.cDraw E1.isDraw) x y b H ∨ DInsB K T.cChange (RDeed T T.cChange E1.isChange) x y b H
def QBehD (T : Tx K mg) : EqvB := fun x y b H => DBehB K T.cPour (RDeed T T.cPour E1.isPour) x y b H ∨ DBehB K T.cPut (RDeed T T.cPut E1.isPut) x y b H ∨ DBehB K T.cDraw (RDeed T T.cDraw E1.isDraw) x y b H ∨ DBehB K T.cChange (RDeed T T.cChange E1.isChange) x y b H
def rNeQ4 (T : Tx K mg) : R2 := fun x y H Q => rNeK T.cPour (RDeed T T.cPour E1.isPour) x y H Q ∨ rNeK T.cPut (RDeed T T.cPut E1.isPut) x y H Q ∨ rNeK T.cDraw (RDeed T T.cDraw E1.isDraw) x y H Q ∨ rNeK T.cChange (RDeed T T.cChange E1.isChange) x y H Q
theorem opEqDeeds (T : Tx K mg) (hr : Room 1 X.A) (hK : X.K = K := by rfl) (hm : X.mg = mg := by rfl) : OpR X (compareOp .Eq) (rEqB (QDeedB T)) := by
  subst hK
  subst hm
  exact op_eqB (n := 1) (RcB.or (rcB_ins (E := E0) ⟨T.ePourEq, T.eiPourEq⟩ (okPourEq T) T.bPourEq pass0) (RcB.or  (rcB_ins (E := E0) ⟨T.ePutEq, T.eiPutEq⟩ (okPutEq T) T.bPutEq pass0) (RcB.or  (rcB_ins (E := E0) ⟨T.eDrawEq, T.eiDrawEq⟩ (okDrawEq T) T.bDrawEq pass0) (rcB_ins (E := E0) ⟨T.eChangeEq, T.eiChangeEq⟩ (okChangeEq T) T.bChangeEq pass0)))) hr
theorem opNeDeeds (T : Tx K mg) (hr : Room 2 X.A) (hK : X.K = K := by rfl) (hm : X.mg = mg := by rfl) : OpR X (compareOp .NotEq) (rNeQ4 T) := by
  subst hK
  subst hm
  exact OpR.or (op_neK (E := E0) (okPourEq T) T.nePour T.bPourEq pass0 hr) (OpR.or (op_neK (E := E0) (okPutEq T) T.nePut T.bPutEq pass0 hr) (OpR.or (op_neK (E := E0) (okDrawEq T) T.neDraw T.bDrawEq pass0 hr) (op_neK (E := E0) (okChangeEq T) T.neChange T.bChangeEq pass0 hr)))
theorem opInDeeds (T : Tx K mg) (hr : Room 2 X.A) (hK : X.K = K := by rfl) (hm : X.mg = mg := by rfl) : OpR X (compareOp .In) (rOutB (QBehD T)) := by
  subst hK
  subst hm
  refine op_outB (n := 1) (RcB.eqB (RcB.or (rcB_beh (E := E0) ⟨T.ePourEq, T.eiPourEq⟩ (okPourEq T) T.bPourEq pass0) (RcB.or  (rcB_beh (E := E0) ⟨T.ePutEq, T.eiPutEq⟩ (okPutEq T) T.bPutEq pass0) (RcB.or  (rcB_beh (E := E0) ⟨T.eDrawEq, T.eiDrawEq⟩ (okDrawEq T) T.bDrawEq pass0) (rcB_beh (E := E0) ⟨T.eChangeEq, T.eiChangeEq⟩ (okChangeEq T) T.bChangeEq pass0)))) fun _ _ _ _ h => ?_) hr
  rcases h with h | h | h | h <;> exact beh_refs h
theorem eqDeeds {T : Tx K mg} {H : Hp} {u v : V} {d e : E1} {Q : VK} (h1 : DeedAt T H u d) (h2 : DeedAt T H v e) (q : ∀ H', Ext H H' → Q (.bl (decide (d = e))) H') : rEqB (QDeedB T) u v H Q := by
  obtain ⟨p, dx, rfl, e1⟩ := deed_at h1
  obtain ⟨r, dy, rfl, g1⟩ := deed_at h2
  refine ⟨_, ?_, q⟩
  cases d with
  | pour _ _ =>
    have nf : PySem.W.notFirst K T.cPour (.ref (e.cls T)) = true := by
      cases e
      · exact nf_self
      · exact T.nfPour_Put
      · exact T.nfPour_Draw
      · exact T.nfPour_Change
    exact .inl (⟨p, r, _, dx, dy, _, _, rfl, rfl, e1, g1, nf, _, rfl, h1, .inl ⟨e, h2, rfl⟩⟩)
  | put _ _ =>
    have nf : PySem.W.notFirst K T.cPut (.ref (e.cls T)) = true := by
      cases e
      · exact T.nfPut_Pour
      · exact nf_self
      · exact T.nfPut_Draw
      · exact T.nfPut_Change
    exact .inr (.inl (⟨p, r, _, dx, dy, _, _, rfl, rfl, e1, g1, nf, _, rfl, h1, .inl ⟨e, h2, rfl⟩⟩))
  | draw _ _ =>
    have nf : PySem.W.notFirst K T.cDraw (.ref (e.cls T)) = true := by
      cases e
      · exact T.nfDraw_Pour
      · exact T.nfDraw_Put
      · exact nf_self
      · exact T.nfDraw_Change
    exact .inr (.inr (.inl (⟨p, r, _, dx, dy, _, _, rfl, rfl, e1, g1, nf, _, rfl, h1, .inl ⟨e, h2, rfl⟩⟩)))
  | change _ _ =>
    have nf : PySem.W.notFirst K T.cChange (.ref (e.cls T)) = true := by
      cases e
      · exact T.nfChange_Pour
      · exact T.nfChange_Put
      · exact T.nfChange_Draw
      · exact nf_self
    exact .inr (.inr (.inr (⟨p, r, _, dx, dy, _, _, rfl, rfl, e1, g1, nf, _, rfl, h1, .inl ⟨e, h2, rfl⟩⟩)))
theorem neDeeds {T : Tx K mg} {H : Hp} {u v : V} {d : E1} {Q : VK} (h1 : DeedAt T H u d) (h2 : DeedAt T H v d) (q : ∀ H', Ext H H' → Q (.bl false) H') : rNeQ4 T u v H Q := by
  obtain ⟨p, dx, rfl, e1⟩ := deed_at h1
  obtain ⟨r, dy, rfl, g1⟩ := deed_at h2
  cases d with
  | pour _ _ => exact .inl (⟨p, r, true, dx, dy, _, _, rfl, rfl, e1, g1, ⟨_, rfl, h1, .inl ⟨_, h2, (decide_eq_true rfl).symm⟩⟩, q⟩)
  | put _ _ => exact .inr (.inl (⟨p, r, true, dx, dy, _, _, rfl, rfl, e1, g1, ⟨_, rfl, h1, .inl ⟨_, h2, (decide_eq_true rfl).symm⟩⟩, q⟩))
  | draw _ _ => exact .inr (.inr (.inl (⟨p, r, true, dx, dy, _, _, rfl, rfl, e1, g1, ⟨_, rfl, h1, .inl ⟨_, h2, (decide_eq_true rfl).symm⟩⟩, q⟩)))
  | change _ _ => exact .inr (.inr (.inr (⟨p, r, true, dx, dy, _, _, rfl, rfl, e1, g1, ⟨_, rfl, h1, .inl ⟨_, h2, (decide_eq_true rfl).symm⟩⟩, q⟩)))
theorem DeedAt.ext {T : Tx K mg} {H H' : Hp} {v : V} {d : E1} (e : Ext H H') (h : DeedAt T H v d) : DeedAt T H' v d := h.same fun b o q => e b o q
theorem outDeeds {T : Tx K mg} {H : Hp} {u : V} {d : E1} {l : Addr} {ys : List V} {Q : VK} (h1 : DeedAt T H u d) (hl : H l = some (.lst ys)) (hy : ∀ z ∈ ys, Al3 H z) (q : ∀ H', Ext H H' → Q (.bl false) H') : rOutB (QBehD T) u (.ref l) H Q := by
  refine ⟨l, ys, rfl, fun H' e => e _ _ hl, fun z hz H' e => ?_, q⟩
  have h2 := h1.ext e
  have a3 := (hy z hz).ext e
  obtain ⟨p, dx, rfl, e1⟩ := deed_at h2
  cases d with
  | pour _ _ =>
    have al : Alien K T.cPour H' z := a3.alien T.alPour_NoneType T.alPour_int T.alPour_tuple
    exact .inl (⟨p, dx, _, rfl, e1, al, _, rfl, h2, .inr ⟨al, rfl⟩⟩)
  | put _ _ =>
    have al : Alien K T.cPut H' z := a3.alien T.alPut_NoneType T.alPut_int T.alPut_tuple
    exact .inr (.inl (⟨p, dx, _, rfl, e1, al, _, rfl, h2, .inr ⟨al, rfl⟩⟩))
  | draw _ _ =>
    have al : Alien K T.cDraw H' z := a3.alien T.alDraw_NoneType T.alDraw_int T.alDraw_tuple
    exact .inr (.inr (.inl (⟨p, dx, _, rfl, e1, al, _, rfl, h2, .inr ⟨al, rfl⟩⟩)))
  | change _ _ =>
    have al : Alien K T.cChange H' z := a3.alien T.alChange_NoneType T.alChange_int T.alChange_tuple
    exact .inr (.inr (.inr (⟨p, dx, _, rfl, e1, al, _, rfl, h2, .inr ⟨al, rfl⟩⟩)))
end
end Kp

namespace Kp
open PySem PySem.Spec PyProof.Rows L2 KpR
theorem firstBad_app {caps : List Int} : ∀ l m : List E1, firstBad caps l = none → firstBad caps (l ++ m) = firstBad caps m
  | [], m, _ => rfl
  | d :: l, m, h => by
    simp only [firstBad, List.cons_append] at h ⊢
    cases c : d.bad caps with
    | some x => rw [c] at h; cases h
    | none =>
      rw [c] at h
      exact firstBad_app l m h
theorem firstBad_take {caps : List Int} {l : List E1} {i : Nat} {d : E1} (h : firstBad caps (l.take i) = none) (hd : l[i]? = some d) : (d.bad caps = none → firstBad caps (l.take (i + 1)) = none) ∧ ∀ r, d.bad caps = some r → firstBad caps l = some r := by
  refine ⟨fun k => ?_, fun r k => ?_⟩
  · rw [List.take_add_one, hd, firstBad_app _ _ h]
    simp [firstBad, k]
  · obtain ⟨lt, q⟩ := List.getElem?_eq_some_iff.mp hd
    have e2 : l = l.take i ++ d :: l.drop (i + 1) := by rw [← q, ← List.drop_eq_getElem_cons lt, List.take_append_drop]
    rw [e2, firstBad_app _ _ h]
    simp [firstBad, k]
section
variable {K : PySem.W.Frag} {mg : Str → Option Value}
def RowAt (T : Tx K mg) (H : Hp) (r : Addr) (caps : List Int) (ds : List E1) : Prop := ∃ dx j t vs, H r = some (.ins T.cRow dx (f2s "jars" (.ref j) "deeds" (.ref t))) ∧ JarsAt T H j caps ∧ H t = some (.tup vs) ∧ A2 (DeedAt T H) vs ds
def spRowOf (T : Tx K mg) (S : Hp → Addr → List V → Prop) : Sp := fun vs H Q E => ∃ (p dx j a : Addr) (caps : List Int) (us : List V) (ds : List E1), vs = [.ref p, .ref j, .ref a] ∧ H p = some (.ins T.cRow dx []) ∧ JarsAt T H j caps ∧ S H a us ∧ A2 (DeedAt T H) us ds ∧ ds.length ≤ 10000000 ∧
  (ds.length > 20 → rE T H E (.count "deeds" ds.length)) ∧ (ds.length ≤ 20 → ∀ r, firstBad caps ds = some r → rE T H E r) ∧ (ds.length ≤ 20 → firstBad caps ds = none → ∀ H', RowAt T H' p caps ds → Fr p H H' → Q .non H')
def spRowL (T : Tx K mg) : Sp := spRowOf T fun H a us => H a = some (.lst us)
def spRowT (T : Tx K mg) : Sp := spRowOf T fun H a us => H a = some (.tup us)
def spRowInit (T : Tx K mg) : Sp := spRowOf T fun H a us => H a = some (.lst us) ∨ H a = some (.tup us)
end
section
variable {P : Program} {w : World} {K : PySem.W.Frag} {mg : Str → Option Value} {base : Heap}
theorem FnOk.or {CX : CXT} {k : Nat} {f : Addr} {fd : FuncData} {ps : List Str} {s1 s2 s3 : Sp} (F : FnOk P w K mg base CX k f fd ps s1) (G : FnOk P w K mg base CX k f fd ps s2) (h : ∀ vs H Q E, s3 vs H Q E → s1 vs H Q E ∨ s2 vs H Q E) : FnOk P w K mg base CX k f fd ps s3 :=
  ⟨fun vs H Q E q => (h _ _ _ _ q).elim (F.len vs H Q E) (G.len vs H Q E), fun A outer s H args us vs Q E hr he hb hv hs => (h _ _ _ _ hs).elim (F.run A outer s H args us vs Q E hr he hb hv) (G.run A outer s H args us vs Q E hr he hb hv)⟩
theorem okRowL (T : Tx K mg) : FnOk P w K mg base (L2.CX P w) 5 T.aRowInit T.dRowInit ["self", "jars", "deeds"] (spRowL T) := by
  refine T.fRowInit.okX scRowInit (fun vs H Q E h => ?_) (fun cdv A outer s H vs Q E hr h => ?_)
  · obtain ⟨p, dx, j, a, caps, us, ds, rfl, _⟩ := h
    rfl
  · obtain ⟨p, dx, j, a, caps, us, ds, rfl, hp, hJ, hS, hA, hz, h1, h2, hq⟩ := h
    refine ⟨_, (pss_cons (ps_if (pt_cmpR op_gt (pe_callB call_len_seq rfl T.nlen PySem.boot_len (pa_cons (pv 2) pa_nil)) (pe_glob (v := .int 20) rfl T.cMOSTDEEDS ⟨_, rfl⟩) (nomark _)) (pss_one (ps_raise rfl (takes_of rfl rfl rfl rfl) (pmk_oex T.oBadCount T.iBadCount T.tBadCount (okBadCountInit T) (hr.mono (by decide)) T.bBadCountInit .nil pass0 rfl T.mBadCount (pa_cons pe_str (pa_cons (pe_callB call_len_seq rfl T.nlen PySem.boot_len (pa_cons (pv 2) pa_nil)) pa_nil))))) pss_nil)
      (pss_cons (ps_for (passes_of rfl) rfl (pi_list (pv 2)) (pg_name (i := 3) scRowInit.nd rfl (by first | exact Or.inl rfl | exact Or.inr rfl)) (pss_one (ps_expr (pe_call (okcheckdeed T) (hr.mono (by decide)) rfl T.gcheckdeed T.fcheckdeed.kp T.bcheckdeed .nil (passes_call (W := fun c d _ H => E c d H) (takes_of rfl rfl rfl rfl) (fun _ _ _ _ h => h)) (pa_cons (pv 1) (pa_cons (pv 3) pa_nil))))))
      (pss_cons (ps_fld (pv 0) (pv 1) rfl)
      (pss_one (ps_fld (pv 0) (pe_callTy call_tuple_of rfl T.ntuple (by decide +kernel) (pa_cons (pv 2) pa_nil)) rfl))))), ?_⟩
    have el := hA.len
    have h1' : ds.length > 20 → rE T H E (.count "deeds" (us.length : Int)) := by
      rw [el]
      exact h1
    refine ⟨_, rfl, a, _, rfl, .inl (SqL.of hS), _, _, rfl, rfl, _, rfl, ?_⟩
    by_cases g : ds.length > 20
    · refine ifT (decide_eq_true (by rw [el]; omega)) ?_
      exact ⟨_, rfl, a, _, rfl, .inl (SqL.of hS), (by show 2 ≤ 1000; decide), x2_made (h1' g)⟩
    · refine ifF (decide_eq_false (by rw [el]; omega)) ?_
      have h3 := h2 (by omega)
      have hq := hq (by omega)
      refine ⟨_, rfl, a, rfl, ⟨_, SqL.of hS⟩, for_list (K := K) (a := a) (xs := us) (fun i σ H' => ∃ v : Option V, σ = [some (.ref p), some (.ref j), some (.ref a), v] ∧ H' = H ∧ firstBad caps (ds.take i) = none) ⟨none, rfl, rfl, rfl⟩ (fun i σ H' _ ⟨_, _, e, _⟩ => by rw [e]; exact SqL.of hS) ?_ ?_⟩
      · rintro i y σ H' hi ⟨v, rfl, rfl, hb⟩
        obtain ⟨d, hd, hv⟩ := hA.get hi
        obtain ⟨b1, b2⟩ := firstBad_take hb hd
        exact ⟨_, rfl, _, rfl, j, caps, y, d, rfl, hJ, hv, fun ok => ⟨some y, rfl, rfl, b1 ok⟩, fun r e => h3 r (b2 r e)⟩
      · rintro σ H' ⟨v, rfl, rfl, hb⟩
        rw [el, List.take_length] at hb
        refine ⟨_, rfl, _, rfl, p, _, dx, _, rfl, hp, T.lRow, T.nRow_jars, (by show 0 < 1000; decide), ?_⟩
        have f1 : Fr p H' (upd H' p (.ins T.cRow dx (putF "jars" (.ref j) []))) := fr_mut (Fr.refl _ _)
        have na : a ≠ p := ne_of hS hp (by intro z; cases z)
        refine ⟨_, rfl, a, _, rfl, .inl ⟨f1.sqL na (SqL.of hS), fun t ht => ?_⟩⟩
        have n : p ≠ t := fun z => by rw [← z, upd_same] at ht; cases ht
        have ht0 : H' t = none := fr_free f1 n.symm ht
        refine ⟨_, rfl, p, _, dx, _, rfl, (by rw [upd_ne n]; exact upd_same), T.lRow, T.nRow_deeds, (by show 1 < 1000; decide), ?_⟩
        have fr : Fr p H' (upd (upd (upd H' p (.ins T.cRow dx (putF "jars" (.ref j) []))) t (.tup us)) p (.ins T.cRow dx (putF "deeds" (.ref t) (putF "jars" (.ref j) [])))) := fr_mut (fr_new f1 ht0)
        refine hq hb _ ⟨dx, j, t, us, ?_, ?_, ?_, ?_⟩ fr
        · rw [upd_same, put2 (by decide +kernel)]
          rfl
        · exact hJ.fr fr hp bl_i
        · rw [upd_ne n.symm]; exact upd_same
        · exact A2.mono (fun _ _ q => q.fr fr hp bl_i) hA
theorem okRowT (T : Tx K mg) : FnOk P w K mg base (L2.CX P w) 5 T.aRowInit T.dRowInit ["self", "jars", "deeds"] (spRowT T) := by
  refine T.fRowInit.okX scRowInit (fun vs H Q E h => ?_) (fun cdv A outer s H vs Q E hr h => ?_)
  · obtain ⟨p, dx, j, a, caps, us, ds, rfl, _⟩ := h
    rfl
  · obtain ⟨p, dx, j, a, caps, us, ds, rfl, hp, hJ, hS, hA, hz, h1, h2, hq⟩ := h
    refine ⟨_, (pss_cons (ps_if (pt_cmpR op_gt (pe_callB call_len_seq rfl T.nlen PySem.boot_len (pa_cons (pv 2) pa_nil)) (pe_glob (v := .int 20) rfl T.cMOSTDEEDS ⟨_, rfl⟩) (nomark _)) (pss_one (ps_raise rfl (takes_of rfl rfl rfl rfl) (pmk_oex T.oBadCount T.iBadCount T.tBadCount (okBadCountInit T) (hr.mono (by decide)) T.bBadCountInit .nil pass0 rfl T.mBadCount (pa_cons pe_str (pa_cons (pe_callB call_len_seq rfl T.nlen PySem.boot_len (pa_cons (pv 2) pa_nil)) pa_nil))))) pss_nil)
      (pss_cons (ps_for (passes_of rfl) rfl (pi_tup (pv 2)) (pg_name (i := 3) scRowInit.nd rfl (by first | exact Or.inl rfl | exact Or.inr rfl)) (pss_one (ps_expr (pe_call (okcheckdeed T) (hr.mono (by decide)) rfl T.gcheckdeed T.fcheckdeed.kp T.bcheckdeed .nil (passes_call (W := fun c d _ H => E c d H) (takes_of rfl rfl rfl rfl) (fun _ _ _ _ h => h)) (pa_cons (pv 1) (pa_cons (pv 3) pa_nil))))))
      (pss_cons (ps_fld (pv 0) (pv 1) rfl)
      (pss_one (ps_fld (pv 0) (pe_callTy call_tuple_of rfl T.ntuple (by decide +kernel) (pa_cons (pv 2) pa_nil)) rfl))))), ?_⟩
    have el := hA.len
    have h1' : ds.length > 20 → rE T H E (.count "deeds" (us.length : Int)) := by
      rw [el]
      exact h1
    refine ⟨_, rfl, a, _, rfl, .inr (SqT.of hS), _, _, rfl, rfl, _, rfl, ?_⟩
    by_cases g : ds.length > 20
    · refine ifT (decide_eq_true (by rw [el]; omega)) ?_
      exact ⟨_, rfl, a, _, rfl, .inr (SqT.of hS), (by show 2 ≤ 1000; decide), x2_made (h1' g)⟩
    · refine ifF (decide_eq_false (by rw [el]; omega)) ?_
      have h3 := h2 (by omega)
      have hq := hq (by omega)
      refine ⟨_, rfl, a, rfl, ⟨_, SqT.of hS⟩, for_tup (K := K) (a := a) (xs := us) (fun i σ H' => ∃ v : Option V, σ = [some (.ref p), some (.ref j), some (.ref a), v] ∧ H' = H ∧ firstBad caps (ds.take i) = none) ⟨none, rfl, rfl, rfl⟩ (fun i σ H' _ ⟨_, _, e, _⟩ => by rw [e]; exact SqT.of hS) ?_ ?_⟩
      · rintro i y σ H' hi ⟨v, rfl, rfl, hb⟩
        obtain ⟨d, hd, hv⟩ := hA.get hi
        obtain ⟨b1, b2⟩ := firstBad_take hb hd
        exact ⟨_, rfl, _, rfl, j, caps, y, d, rfl, hJ, hv, fun ok => ⟨some y, rfl, rfl, b1 ok⟩, fun r e => h3 r (b2 r e)⟩
      · rintro σ H' ⟨v, rfl, rfl, hb⟩
        rw [el, List.take_length] at hb
        refine ⟨_, rfl, _, rfl, p, _, dx, _, rfl, hp, T.lRow, T.nRow_jars, (by show 0 < 1000; decide), ?_⟩
        have f1 : Fr p H' (upd H' p (.ins T.cRow dx (putF "jars" (.ref j) []))) := fr_mut (Fr.refl _ _)
        have na : a ≠ p := ne_of hS hp (by intro z; cases z)
        refine ⟨_, rfl, a, _, rfl, .inr ⟨SqT.of (by rw [upd_ne na]; exact hS), ?_⟩⟩
        refine ⟨_, rfl, p, _, dx, _, rfl, upd_same, T.lRow, T.nRow_deeds, (by show 1 < 1000; decide), ?_⟩
        have fr : Fr p H' (upd (upd H' p (.ins T.cRow dx (putF "jars" (.ref j) []))) p (.ins T.cRow dx (putF "deeds" (.ref a) (putF "jars" (.ref j) [])))) := fr_mut f1
        refine hq hb _ ⟨dx, j, a, us, ?_, ?_, ?_, ?_⟩ fr
        · rw [upd_same, put2 (by decide +kernel)]
          rfl
        · exact hJ.fr fr hp bl_i
        · rw [upd_ne na, upd_ne na]; exact hS
        · exact A2.mono (fun _ _ q => q.fr fr hp bl_i) hA
theorem okRowInit (T : Tx K mg) : FnOk P w K mg base (L2.CX P w) 5 T.aRowInit T.dRowInit ["self", "jars", "deeds"] (spRowInit T) :=
  FnOk.or (okRowL T) (okRowT T) fun vs H Q E h => by
    obtain ⟨p, dx, j, a, caps, us, ds, e, hp, hJ, hS, r⟩ := h
    rcases hS with hS | hS
    · exact .inl ⟨p, dx, j, a, caps, us, ds, e, hp, hJ, hS, r⟩
    · exact .inr ⟨p, dx, j, a, caps, us, ds, e, hp, hJ, hS, r⟩
end
end Kp

namespace Kp
open PySem PySem.Spec PyProof.Rows L2 KpR
section
variable {K : PySem.W.Frag} {mg : Str → Option Value}
theorem cls_ne {A C : Addr} (h : PySem.W.kitOne K (.ref A) (.ref C) = some false) : A ≠ C := fun z => by
  rw [z, kit_self (by simp)] at h
  cases h
theorem deed_inj {T : Tx K mg} {H : Hp} {v : V} {d e : E1} (h1 : DeedAt T H v d) (h2 : DeedAt T H v e) : d = e := by
  obtain ⟨p, dx, rfl, a1⟩ := deed_at h1
  obtain ⟨q, dy, ev, b1⟩ := deed_at h2
  cases ev
  rw [a1] at b1
  have z := Option.some.inj b1
  injection z with z1 z2 z3
  have kk := is_pour T d
  cases d <;> cases e <;> simp only [E1.cls, E1.fs, f2s] at z1 z3 <;> first
    | (simp only [List.cons.injEq, Prod.mk.injEq, V.int.injEq, true_and, and_true] at z3
       obtain ⟨k1, k2⟩ := z3
       subst k1
       subst k2
       rfl)
    | exact absurd z1 (cls_ne T.iPour_Put)
    | exact absurd z1 (cls_ne T.iPour_Draw)
    | exact absurd z1 (cls_ne T.iPour_Change)
    | exact absurd z1 (cls_ne T.iPut_Pour)
    | exact absurd z1 (cls_ne T.iPut_Draw)
    | exact absurd z1 (cls_ne T.iPut_Change)
    | exact absurd z1 (cls_ne T.iDraw_Pour)
    | exact absurd z1 (cls_ne T.iDraw_Put)
    | exact absurd z1 (cls_ne T.iDraw_Change)
    | exact absurd z1 (cls_ne T.iChange_Pour)
    | exact absurd z1 (cls_ne T.iChange_Put)
    | exact absurd z1 (cls_ne T.iChange_Draw)
end
end Kp

namespace Kp
open PySem PySem.Spec PyProof.Rows L2 KpR
section
variable {X : Cx} {K : PySem.W.Frag} {mg : Str → Option Value}
theorem deeds_self {T : Tx K mg} {x y : V} {b : Bool} {H : Hp} (h : QDeedB T x y b H) : (∃ c, x = .ref c ∧ ∃ a, y = .ref a ∧ (c = a → b = true)) ∨ ((x = .non ∨ ∃ i, x = .int i) ∧ ∃ a, y = .ref a) := by
  have one : ∀ {C : Addr} {k : E1 → Bool}, DInsB K C (RDeed T C k) x y b H → ∃ c, x = .ref c ∧ ∃ a, y = .ref a ∧ (c = a → b = true) := by
    rintro C k ⟨a, c, C', dx, dy, fs, gs, rfl, rfl, ha, hc, _, d, _, hd, r⟩
    refine ⟨a, rfl, c, rfl, fun z => ?_⟩
    subst z
    rcases r with ⟨d2, h2, rfl⟩ | ⟨al, _⟩
    · exact decide_eq_true (deed_inj hd h2)
    · cases al with
      | tup _ e => rw [ha] at e; cases e
      | lst _ e => rw [ha] at e; cases e
  rcases h with h | h | h | h <;> exact .inl (one h)
theorem eqB_deeds {X : Cx} (T : Tx X.K X.mg) : EqB X 1 (QDeedB T) := RcB.eqB (RcB.or (rcB_ins (E := E0) ⟨T.ePourEq, T.eiPourEq⟩ (okPourEq T) T.bPourEq pass0) (RcB.or (rcB_ins (E := E0) ⟨T.ePutEq, T.eiPutEq⟩ (okPutEq T) T.bPutEq pass0) (RcB.or (rcB_ins (E := E0) ⟨T.eDrawEq, T.eiDrawEq⟩ (okDrawEq T) T.bDrawEq pass0) (rcB_ins (E := E0) ⟨T.eChangeEq, T.eiChangeEq⟩ (okChangeEq T) T.bChangeEq pass0)))) fun _ _ _ _ h => deeds_self h
theorem opEqTups (T : Tx K mg) (hr : Room 2 X.A) (hK : X.K = K := by rfl) (hm : X.mg = mg := by rfl) : OpR X (compareOp .Eq) (rEqB (DTupB K (QDeedB T))) := by
  subst hK
  subst hm
  exact op_eqB (n := 2) (rcB_tup (n := 1) (eqB_deeds T)) hr
theorem QDeed_of {T : Tx K mg} {H : Hp} {u v : V} {d e : E1} (h1 : DeedAt T H u d) (h2 : DeedAt T H v e) : QDeedB T u v (decide (d = e)) H := by
  obtain ⟨b, h, q⟩ := eqDeeds (Q := fun v _ => v = .bl (decide (d = e))) h1 h2 fun _ _ => rfl
  have z := q H Ext.rfl'
  cases z
  exact h
theorem eqTups {T : Tx K mg} {H : Hp} {a c : Addr} {us vs : List V} {ds es : List E1} {Q : VK} (ha : H a = some (.tup us)) (hc : H c = some (.tup vs)) (h1 : A2 (DeedAt T H) us ds) (h2 : A2 (DeedAt T H) vs es) (q : ∀ H', Ext H H' → Q (.bl (decide (ds = es))) H') :
    rEqB (DTupB K (QDeedB T)) (.ref a) (.ref c) H Q := by
  have l1 := h1.len
  have l2 := h2.len
  refine ⟨_, ⟨a, c, us, vs, fun i => decide (ds[i]? = es[i]?), rfl, rfl, SqT.of ha, SqT.of hc, fun i u v hu hv H' e => ?_, ?_⟩, q⟩
  · obtain ⟨d, hd, r1⟩ := h1.get hu
    obtain ⟨e2, he, r2⟩ := h2.get hv
    have z := QDeed_of (r1.ext e) (r2.ext e)
    have y : decide (ds[i]? = es[i]?) = decide (d = e2) := by
      rw [hd, he]
      exact decide_eq_decide.mpr ⟨fun z => Option.some.inj z, fun z => congrArg some z⟩
    show QDeedB T u v (decide (ds[i]? = es[i]?)) H'
    rw [y]
    exact z
  · rw [decide_eq_true_iff]
    refine ⟨fun z => ⟨by rw [l1, l2, z], fun i _ => decide_eq_true (by rw [z])⟩, fun ⟨z1, z2⟩ => List.ext_getElem? fun i => ?_⟩
    by_cases c : i < us.length
    · exact of_decide_eq_true (z2 i c)
    · rw [List.getElem?_eq_none (by omega), List.getElem?_eq_none (by omega)]
def RRow (T : Tx K mg) (a : Addr) (y : V) (b : Bool) (H : Hp) : Prop := ∃ caps ds, RowAt T H a caps ds ∧ ((∃ c caps2 ds2, y = .ref c ∧ RowAt T H c caps2 ds2 ∧ b = decide (caps = caps2 ∧ ds = ds2)) ∨ (Alien K T.cRow H y ∧ b = false))
def spRowEq (T : Tx K mg) : Sp := spEqB (RRow T)
end
section
variable {P : Program} {w : World} {K : PySem.W.Frag} {mg : Str → Option Value} {base : Heap}
theorem okRowEq (T : Tx K mg) : FnOk P w K mg base CX0 3 T.aRowEq T.dRowEq ["self", "other"] (spRowEq T) := by
  refine T.fRowEq.ok scRowEq (fun vs H Q E h => ?_) (fun cdv A outer s H vs Q E hr h => ?_)
  · obtain ⟨a, y, b, rfl, _⟩ := h
    rfl
  · obtain ⟨a, y, b, rfl, ⟨caps, ds, ⟨dx, j1, t1, us, h1, hj1, ht1, hA1⟩, hc⟩, hq⟩ := h
    refine ⟨_, (pss_one (ps_ret (pe_and (pe_callB call_isi rfl T.nisinstance (by decide +kernel) (pa_cons (pv 1) (pa_cons (pe_glob (v := .ref T.cRow) rfl T.mRow rfl) pa_nil))) (pe_and (pe_cmpR (opEqJars T (hr.mono (by decide))) (pe_fld (pv 0) rfl) (pe_fld (pv 1) rfl) (nomark _)) (pe_one (pe_cmpR (opEqTups T (hr.mono (by decide))) (pe_fld (pv 0) rfl) (pe_fld (pv 1) rfl) (nomark _))))))), ?_⟩
    rcases hc with ⟨c, caps2, ds2, rfl, ⟨dy, j2, t2, vs, g1, gj1, gt1, gA1⟩, rfl⟩ | ⟨al, rfl⟩
    · refine ⟨_, rfl, .ref c, .ref T.cRow, _, _, true, rfl, .own _, .base (.ins g1 T.lRow T.yRow.ha T.yRow.hn T.yRow.ht T.yRow.hm), T.iRow_Row, _, rfl, ifT rfl ?_⟩
      refine ⟨_, rfl, a, _, dx, _, _, rfl, h1, T.lRow, T.nRow_jars, lk1, _, rfl, c, _, dy, _, _, rfl, g1, T.lRow, T.nRow_jars, lk1, eqJars hj1 gj1 fun H1 e1 => ⟨_, rfl, ifD (fun e => ?_) fun e => ?_⟩⟩
      · refine ⟨_, rfl, a, _, dx, _, _, rfl, e1 _ _ h1, T.lRow, T.nRow_deeds, lk2 (by decide +kernel), _, rfl, c, _, dy, _, _, rfl, e1 _ _ g1, T.lRow, T.nRow_deeds, lk2 (by decide +kernel), eqTups (e1 _ _ ht1) (e1 _ _ gt1) (A2.mono (fun _ _ k => k.ext e1) hA1) (A2.mono (fun _ _ k => k.ext e1) gA1) fun H2 e2 => ?_⟩
        refine (congrArg (fun c => Q (V.bl c) H2) (decide_eq_decide.mpr ?_)).mpr (hq _ (Ext.trans e1 e2))
        exact ⟨fun z => ⟨e, z⟩, fun z => z.2⟩
      · refine (congrArg (fun c => Q (V.bl c) H1) (decide_eq_false fun z => e z.1).symm).mpr (hq _ e1)
    · obtain ⟨ty, tx, kx⟩ := alien_ty al T.ikRow_NoneType T.ikRow_int T.ikRow_tuple T.ikRow_list
      exact ⟨_, rfl, y, .ref T.cRow, _, _, false, rfl, .own _, tx, kx, _, rfl, ifF rfl (hq _ Ext.rfl')⟩
end
end Kp

namespace Kp
open PySem PySem.Spec PyProof.Rows L2 KpR
section
variable {X : Cx} {K : PySem.W.Frag} {mg : Str → Option Value}
theorem opNeTups (T : Tx K mg) (hr : Room 2 X.A) (hK : X.K = K := by rfl) (hm : X.mg = mg := by rfl) : OpR X (compareOp .NotEq) (rNeTup K (QDeedB T)) := by
  subst hK
  subst hm
  exact op_neTup (n := 1) (eqB_deeds T) hr
theorem neTups {T : Tx K mg} {H : Hp} {a c : Addr} {us vs : List V} {ds : List E1} {Q : VK} (ha : H a = some (.tup us)) (hc : H c = some (.tup vs)) (h1 : A2 (DeedAt T H) us ds) (h2 : A2 (DeedAt T H) vs ds) (q : ∀ H', Ext H H' → Q (.bl false) H') :
    rNeTup K (QDeedB T) (.ref a) (.ref c) H Q := by
  refine ⟨a, c, us, vs, rfl, rfl, SqT.of ha, SqT.of hc, by rw [h1.len, h2.len], fun i u v hu hv H' e => ?_, q⟩
  obtain ⟨d, hd, r1⟩ := h1.get hu
  obtain ⟨d2, hd2, r2⟩ := h2.get hv
  rw [hd] at hd2
  cases hd2
  have z := QDeed_of (r1.ext e) (r2.ext e)
  rw [decide_eq_true rfl] at z
  exact z
theorem opEqRow (T : Tx K mg) (hr : Room 3 X.A) (hK : X.K = K := by rfl) (hm : X.mg = mg := by rfl) : OpR X (compareOp .Eq) (rEqB (DInsB K T.cRow (RRow T))) := by
  subst hK
  subst hm
  exact op_eqB (rcB_ins (E := E0) ⟨T.eRowEq, T.eiRowEq⟩ (okRowEq T) T.bRowEq pass0) hr
theorem opNeRow (T : Tx K mg) (hr : Room 4 X.A) (hK : X.K = K := by rfl) (hm : X.mg = mg := by rfl) : OpR X (compareOp .NotEq) (rNeK T.cRow (RRow T)) := by
  subst hK
  subst hm
  exact op_neK (E := E0) (okRowEq T) T.neRow T.bRowEq pass0 hr
theorem opInRow (T : Tx K mg) (hr : Room 4 X.A) (hK : X.K = K := by rfl) (hm : X.mg = mg := by rfl) : OpR X (compareOp .In) (rOutB (DBehB K T.cRow (RRow T))) := by
  subst hK
  subst hm
  exact op_outB (n := 3) ((rcB_beh (E := E0) ⟨T.eRowEq, T.eiRowEq⟩ (okRowEq T) T.bRowEq pass0).eqB fun _ _ _ _ h => beh_refs h) hr
theorem RowAt.same {T : Tx K mg} {H H' : Hp} {p : Addr} {caps : List Int} {ds : List E1} (e : Same H H') (h : RowAt T H p caps ds) : RowAt T H' p caps ds := by
  obtain ⟨dx, j, t, vs, h1, h2, h3, h4⟩ := h
  exact ⟨dx, j, t, vs, e _ _ h1, h2.same e, e _ _ h3, A2.mono (fun _ _ q => q.same e) h4⟩
theorem eqRow {T : Tx K mg} {H : Hp} {a b : Addr} {l m : List Int} {ds es : List E1} {Q : VK} (h1 : RowAt T H a l ds) (h2 : RowAt T H b m es) (q : ∀ H', Ext H H' → Q (.bl (decide (l = m ∧ ds = es))) H') : rEqB (DInsB K T.cRow (RRow T)) (.ref a) (.ref b) H Q := by
  obtain ⟨dx, j, t, vs, e1, _⟩ := id h1
  obtain ⟨dy, i, u, ws, g1, _⟩ := id h2
  exact ⟨_, ⟨a, b, T.cRow, dx, dy, _, _, rfl, rfl, e1, g1, nf_self, l, ds, h1, .inl ⟨b, m, es, rfl, h2, rfl⟩⟩, q⟩
theorem neRow {T : Tx K mg} {H : Hp} {a b : Addr} {l : List Int} {ds : List E1} {Q : VK} (h1 : RowAt T H a l ds) (h2 : RowAt T H b l ds) (q : ∀ H', Ext H H' → Q (.bl false) H') : rNeK T.cRow (RRow T) (.ref a) (.ref b) H Q := by
  obtain ⟨dx, j, t, vs, e1, _⟩ := id h1
  obtain ⟨dy, i, u, ws, g1, _⟩ := id h2
  exact ⟨a, b, true, dx, dy, _, _, rfl, rfl, e1, g1, ⟨l, ds, h1, .inl ⟨b, l, ds, rfl, h2, (decide_eq_true ⟨rfl, rfl⟩).symm⟩⟩, q⟩
theorem outRow {T : Tx K mg} {H : Hp} {a l : Addr} {caps : List Int} {ds : List E1} {ys : List V} {Q : VK} (h1 : RowAt T H a caps ds) (hl : H l = some (.lst ys)) (hy : ∀ z ∈ ys, Al3 H z ∨ ∃ b xs, z = .ref b ∧ H b = some (.lst xs)) (q : ∀ H', Ext H H' → Q (.bl false) H') :
    rOutB (DBehB K T.cRow (RRow T)) (.ref a) (.ref l) H Q := by
  refine ⟨l, ys, rfl, fun H' e => e _ _ hl, fun z hz H' e => ?_, q⟩
  have h2 := h1.same (H' := H') fun b o q => e b o q
  obtain ⟨dx, j, t, vs, e1, _⟩ := id h2
  have al : Alien K T.cRow H' z := by
    rcases hy z hz with h | ⟨b, xs, rfl, hb⟩
    · exact (h.ext e).alien T.alRow_NoneType T.alRow_int T.alRow_tuple
    · exact .lst T.alRow_list (e _ _ hb)
  exact ⟨a, dx, _, rfl, e1, al, caps, ds, h2, .inr ⟨al, rfl⟩⟩
end
end Kp

namespace Kp
open PySem PySem.Spec PyProof.Rows L2 KpR
theorem ixN_nat {n i : Nat} (h : i < n) : ixN n (i : Int) = some i := by
  have e : atI (List.range n) (i : Int) = some i := atI_nat (by simp [h])
  unfold atI at e
  cases z : ixN (List.range n).length (i : Int) with
  | none => rw [z] at e; cases e
  | some j =>
    rw [z] at e
    have e2 : (List.range n)[j]? = some i := e
    have hj := (List.getElem?_eq_some_iff.mp e2).2
    rw [List.getElem_range] at hj
    subst hj
    simpa using z
theorem ixN_last {n : Nat} : ixN (n + 1) (-1) = some n := by
  have e : atI (List.range n ++ [n]) (-1) = some n := atI_last _ _
  unfold atI at e
  have hl : (List.range n ++ [n]).length = n + 1 := by simp
  rw [hl] at e
  cases z : ixN (n + 1) (-1) with
  | none => rw [z] at e; cases e
  | some j =>
    rw [z, ← List.range_succ] at e
    have e2 : (List.range (n + 1))[j]? = some n := e
    have hj := (List.getElem?_eq_some_iff.mp e2).2
    rw [List.getElem_range] at hj
    exact congrArg some hj
theorem vi_set {l : List Int} {i : Nat} {z : Int} : (vi l).set i (.int z) = vi (l.set i z) := (List.map_set ..).symm
def E1.word : E1 → Str
  | .pour _ _ => "pour"
  | .put _ _ => "put"
  | .draw _ _ => "draw"
  | .change _ _ => "change"
def E1.last : E1 → Int
  | .pour _ b => b
  | .put _ k => k
  | .draw _ k => k
  | .change _ b => b
def WellAt (H : Hp) (w : Addr) : Prop := ∃ a b c : Int, H w = some (.lst [.int a, .int b, .int c])
theorem WellAt.ex {H : Hp} {w : Addr} (h : WellAt H w) : ∃ u, H w = some u ∧ Blank u := by
  obtain ⟨a, b, c, h⟩ := h
  exact ⟨_, h, bl_l⟩
def FactAt (H : Hp) (v : V) (d : E1) : Prop := ∃ t, v = .ref t ∧ H t = some (.tup [.str d.word, .int d.fst, .int d.last])
theorem FactAt.same {H H' : Hp} {v : V} {d : E1} (e : Same H H') (h : FactAt H v d) : FactAt H' v d := by
  obtain ⟨t, rfl, h⟩ := h
  exact ⟨t, rfl, e _ _ h⟩
theorem FactAt.fr {w : Addr} {H H' : Hp} {u : HO} {v : V} {d : E1} (e : Fr w H H') (hw : H w = some u) (hb : Blank u) (h : FactAt H v d) : FactAt H' v d := by
  obtain ⟨t, rfl, h⟩ := h
  exact ⟨t, rfl, fr_no e hw hb h nbT⟩
theorem made_same {H H' : Hp} {x dx : Addr} {o1 o2 : HO} (hx : H x = none) (hdx : H dx = none) (fr : Fr x (upd (upd H dx o1) x o2) H') : Same H H' := fun b o e => by
  have n1 : b ≠ x := ne_of_none e hx
  refine fr b o n1 ?_
  rw [upd_ne n1, upd_ne (ne_of_none e hdx)]
  exact e
theorem WellAt.new {H : Hp} {w p : Addr} {o : HO} (h : WellAt H w) (n : H p = none) : WellAt (upd H p o) w := by
  obtain ⟨a, b, c, q⟩ := h
  exact ⟨a, b, c, by rw [upd_ne (ne_of_none q n)]; exact q⟩
theorem WellAt.ne {H : Hp} {w p : Addr} (h : WellAt H w) (n : H p = none) : p ≠ w := fun z => by
  obtain ⟨_, _, _, q⟩ := h
  rw [← z, n] at q
  cases q
theorem WellAt.mut {H : Hp} {w p : Addr} {o : HO} (h : WellAt H w) (n : p ≠ w) : WellAt (upd H p o) w := by
  obtain ⟨a, b, c, q⟩ := h
  exact ⟨a, b, c, by rw [upd_ne (Ne.symm n)]; exact q⟩
theorem WellAt.same {H H' : Hp} {w : Addr} (h : WellAt H w) (e : Same H H') : WellAt H' w := by
  obtain ⟨a, b, c, q⟩ := h
  exact ⟨a, b, c, e _ _ q⟩
section
variable {K : PySem.W.Frag} {mg : Str → Option Value}
def spLwell (T : Tx K mg) : Sp := fun vs H Q _ => ∃ n : Int, vs = [.int n] ∧ ∀ (H' : Hp) (p : Addr), H p = none → WellAt H' p → Same H H' → Q (.ref p) H'
def spLdraw (T : Tx K mg) : Sp := fun vs H Q _ => ∃ (w : Addr) (m : Int), vs = [.ref w, .int m] ∧ WellAt H w ∧ 1 ≤ m ∧ m < 2 ^ 100 ∧ ∀ (H' : Hp) (v : Nat), (v : Int) < m → WellAt H' w → Fr w H H' → Q (.int v) H'
def spLcaps (T : Tx K mg) : Sp := fun vs H Q _ => ∃ (w : Addr) (m : Int), vs = [.ref w, .int m] ∧ WellAt H w ∧ 1 ≤ m ∧ m ≤ 6 ∧
  ∀ (H' : Hp) (p : Addr) (caps : List Int), H p = none → H' p = some (.lst (vi caps)) → Caps caps → (caps.length : Int) ≤ m → WellAt H' w → Fr w H H' → Q (.ref p) H'
def spLdeed (T : Tx K mg) : Sp := fun vs H Q _ => ∃ (v : V) (d : E1), vs = [v] ∧ FactAt H v d ∧ ∀ (H' : Hp) (p : Addr), H p = none → DeedAt T H' (.ref p) d → Same H H' → Q (.ref p) H'
end
section
variable {P : Program} {w : World} {K : PySem.W.Frag} {mg : Str → Option Value} {base : Heap}
theorem okLwell (T : Tx K mg) : FnOk P w K mg base CX0 1 T.aLwell T.dLwell ["_law_cell"] (spLwell T) := by
  refine T.fLwell.ok scLwell (fun vs H Q E h => ?_) (fun cdv A outer s H vs Q E hr h => ?_)
  · obtain ⟨n, rfl, _⟩ := h
    rfl
  · obtain ⟨n, rfl, hq⟩ := h
    refine ⟨_, (pss_one (ps_ret (pe_lst (pa_cons (pe_callB call_abs rfl T.nabs (by decide +kernel) (pa_cons (pv 0) pa_nil)) (pa_cons (pe_op op_mod (pv 0) pe_int) (pa_cons pe_int pa_nil)))))), ?_⟩
    refine ⟨_, rfl, n, rfl, _, rfl, _, _, rfl, rfl, (by show (0 : Int) < 2147483629; decide), (by show 3 ≤ sizeLine; decide), fun p hp => ?_⟩
    exact hq _ p hp ⟨_, _, _, upd_same⟩ (same_new hp)
theorem okLdraw (T : Tx K mg) : FnOk P w K mg base CX0 1 T.aLdraw T.dLdraw ["_law_well_here", "_law_many"] (spLdraw T) := by
  refine T.fLdraw.ok scLdraw (fun vs H Q E h => ?_) (fun cdv A outer s H vs Q E hr h => ?_)
  · obtain ⟨u, m, rfl, _⟩ := h
    rfl
  · obtain ⟨u, m, rfl, ⟨a, b, c, hw⟩, m1, m2, hq⟩ := h
    refine ⟨_, (pss_cons (ps_if (pt_cmpR op_ge (pe_ix (r := rIxL K) ix_list (pv 0) pe_int (fun _ _ => rfl)) (pe_op op_pow pe_int pe_int) (nomark _)) (pss_cons (ps_set (i := 2) scLdraw.nd rfl (by first | exact Or.inl rfl | exact Or.inr rfl) (pe_op op_mod (pe_ix (r := rIxL K) ix_list (pv 0) pe_int (fun _ _ => rfl)) (pv 1)))
      (pss_cons (ps_asg (pe_op op_fdivW (pe_ix (r := rIxL K) ix_list (pv 0) pe_int (fun _ _ => rfl)) (pv 1)) (pg_sub (pv 0) pe_int set_list))
      (pss_one (ps_ret (pv 2))))) pss_nil)
      (pss_cons (ps_asg (pe_op op_add (pe_ix (r := rIxL K) ix_list (pv 0) pe_int (fun _ _ => rfl)) pe_int) (pg_sub (pv 0) pe_int set_list))
      (pss_cons (ps_set (i := 3) scLdraw.nd rfl (by first | exact Or.inl rfl | exact Or.inr rfl) (pe_op op_mod (pe_op op_mul (pe_op op_add (pe_op op_add (pe_ix (r := rIxL K) ix_list (pv 0) pe_int (fun _ _ => rfl)) (pe_op op_mul pe_int (pe_ix (r := rIxL K) ix_list (pv 0) pe_int (fun _ _ => rfl)))) pe_int) pe_int) pe_int))
      (pss_cons (ps_set (i := 3) scLdraw.nd rfl (by first | exact Or.inl rfl | exact Or.inr rfl) (pe_op op_mod (pe_op op_mul (pv 3) (pe_op op_add (pe_op op_fdivW (pv 3) pe_int) pe_int)) pe_int))
      (pss_one (ps_ret (pe_op op_mod (pe_op op_mod (pe_op op_add (pe_op op_fdivW (pv 3) pe_int) (pe_op op_mul (pe_op op_mod (pv 3) pe_int) pe_int)) pe_int) (pv 1)))))))), ?_⟩
    have wd : CDivW a m := wide_div (b := 100) (by omega) (by omega) (by decide) (by decide)
    have back : ∀ (x : Int) (H' : Hp), WellAt H' u → Fr u H H' → Q (.int (x % m)) H' := fun x H' h1 h2 => by
      have q0 := Int.emod_nonneg x (show m ≠ 0 by omega)
      have q1 := Int.emod_lt_of_pos x (show 0 < m by omega)
      have e : x % m = ((x % m).toNat : Int) := by omega
      rw [e]
      exact hq H' _ (by omega) h1 h2
    refine ⟨_, rfl, u, _, _, _, rfl, rfl, SqL.of hw, rfl, _, _, rfl, rfl, ⟨by decide, by decide, by decide⟩, _, _, rfl, rfl, _, rfl, ifD (fun _ => ?_) (fun _ => ?_)⟩
    · refine ⟨_, rfl, u, _, _, _, rfl, rfl, SqL.of hw, rfl, _, rfl, _, _, rfl, rfl, (by show 0 < m; omega), ?_⟩
      refine ⟨_, rfl, u, _, _, _, rfl, rfl, SqL.of hw, rfl, _, rfl, _, _, rfl, rfl, wd, _, rfl, u, _, _, 0, rfl, rfl, hw, rfl, _, rfl, ?_⟩
      exact back a _ ⟨_, _, _, upd_same⟩ (fr_mut (Fr.refl _ _))
    · refine ⟨_, rfl, u, _, _, _, rfl, rfl, SqL.of hw, rfl, _, _, rfl, rfl, _, rfl, u, _, _, 2, rfl, rfl, hw, rfl, ?_⟩
      refine ⟨_, rfl, u, _, _, _, rfl, rfl, SqL.of upd_same, rfl, _, rfl, u, _, _, _, rfl, rfl, SqL.of upd_same, rfl, _, _, rfl, rfl, .inl ⟨by decide, by decide⟩, _, _, rfl, rfl, _, _, rfl, rfl, _, _, rfl, rfl, .inr ⟨by decide, by decide⟩, _, _, rfl, rfl, (by show (0 : Int) < 2147483647; decide), ?_⟩
      refine ⟨_, rfl, _, rfl, _, _, rfl, rfl, ⟨by decide, by decide⟩, _, _, rfl, rfl, _, _, rfl, rfl, .inl ⟨by omega, by omega⟩, _, _, rfl, rfl, (by show (0 : Int) < 2147483587; decide), ?_⟩
      refine ⟨_, rfl, _, _, rfl, rfl, ⟨by decide, by decide⟩, _, rfl, _, _, rfl, rfl, (by show (0 : Int) < 7919; decide), _, _, rfl, rfl, .inr ⟨by decide, by decide⟩, _, _, rfl, rfl, _, _, rfl, rfl, (by show (0 : Int) < 2147483399; decide), _, rfl, _, _, rfl, rfl, (by show 0 < m; omega), ?_⟩
      exact back _ _ ⟨_, _, _, upd_same⟩ (fr_mut (Fr.refl _ _))
theorem okLcaps (T : Tx K mg) : FnOk P w K mg base CX0 2 T.aLcaps T.dLcaps ["_law_well_here", "_law_most"] (spLcaps T) := by
  refine T.fLcaps.ok scLcaps (fun vs H Q E h => ?_) (fun cdv A outer s H vs Q E hr h => ?_)
  · obtain ⟨u, m, rfl, _⟩ := h
    rfl
  · obtain ⟨u, m, rfl, hw, m1, m2, hq⟩ := h
    refine ⟨_, (pss_cons (ps_set (i := 2) scLcaps.nd rfl (by first | exact Or.inl rfl | exact Or.inr rfl) (pe_ix (r := rIxL K) ix_list (pe_lst (pa_cons pe_int (pa_cons pe_int (pa_cons pe_int (pa_cons pe_int (pa_cons (pe_op op_pow pe_int pe_int) (pa_cons (pe_op op_pow pe_int pe_int) pa_nil))))))) (pe_call (okLdraw T) (hr.mono (by decide)) rfl T.gLdraw T.fLdraw.kp T.bLdraw .nil pass0 (pa_cons (pv 0) (pa_cons pe_int pa_nil))) (fun _ _ => rfl)))
      (pss_cons (ps_set (i := 3) scLcaps.nd rfl (by first | exact Or.inl rfl | exact Or.inr rfl) (pe_lst pa_nil))
      (pss_cons (ps_for PassesOwn.never rfl (pi_range1 rfl T.nrange (pa_cons (pe_op op_add pe_int (pe_call (okLdraw T) (hr.mono (by decide)) rfl T.gLdraw T.fLdraw.kp T.bLdraw .nil pass0 (pa_cons (pv 0) (pa_cons (pv 1) pa_nil)))) pa_nil)) (pg_name (i := 4) scLcaps.nd rfl (by first | exact Or.inl rfl | exact Or.inr rfl)) (pss_cons (ps_expr (pe_bm PySem.F.plainAttrs_list PySem.F.slot_list_append PySem.F.type_list_append mt_append (pv 3) (pa_cons (pe_op op_mul (pv 2) (pe_op op_add pe_int (pe_call (okLdraw T) (hr.mono (by decide)) rfl T.gLdraw T.fLdraw.kp T.bLdraw .nil pass0 (pa_cons (pv 0) (pa_cons pe_int pa_nil))))) pa_nil)))
      (pss_one (ps_if (pt_cmpR op_eq (pe_call (okLdraw T) (hr.mono (by decide)) rfl T.gLdraw T.fLdraw.kp T.bLdraw .nil pass0 (pa_cons (pv 0) (pa_cons pe_int pa_nil))) pe_int (nomark _)) (pss_one (ps_asg (pe_ix (r := rIxL K) ix_list (pv 3) pe_int (fun _ _ => rfl)) (pg_sub (pv 3) (pe_un un_neg pe_int) set_list))) pss_nil))))
      (pss_one (ps_ret (pv 3)))))), ?_⟩
    refine ⟨_, _, rfl, rfl, ⟨by decide, by decide, by decide⟩, _, _, rfl, rfl, ⟨by decide, by decide, by decide⟩, (by show 6 ≤ sizeLine; decide), fun l hl => ?_⟩
    have nw : ∀ {G : Hp} {x : Addr}, WellAt G u → G x = none → x ≠ u := fun hW hx z => by
      obtain ⟨_, _, _, q⟩ := hW
      rw [← z, hx] at q
      cases q
    have lu := nw hw hl
    have w1 : WellAt (upd H l (.lst (vi [1, 1, 1, 7, 10 ^ (6 : Int).toNat, 10 ^ (11 : Int).toNat]))) u := by
      obtain ⟨a, b, c, q⟩ := hw
      exact ⟨a, b, c, by rw [upd_ne lu.symm]; exact q⟩
    refine ⟨_, rfl, u, 6, rfl, w1, by decide, by decide, fun H1 n hn w2 f1 => ?_⟩
    have hn6 : n < 6 := by omega
    refine ⟨l, vi [1, 1, 1, 7, 10 ^ (6 : Int).toNat, 10 ^ (11 : Int).toNat], _, _, rfl, rfl, SqL.of (f1 _ _ lu upd_same), vi_at hn6, ?_⟩
    have fr1 : Fr u H H1 := (Fr.of (same_new hl)).trans f1
    obtain ⟨un, hun, ub⟩ : ∃ un : Int, at0 [1, 1, 1, 7, 10 ^ (6 : Int).toNat, 10 ^ (11 : Int).toNat] n = un ∧ 1 ≤ un ∧ un ≤ 100000000000 := ⟨_, rfl, unit_ok hn6⟩
    unfold at0 at hun
    rw [hun]
    refine ⟨(by show 0 ≤ sizeLine; decide), fun f hf => ?_⟩
    have fu := nw w2 hf
    have w3 : WellAt (upd H1 f (.lst [])) u := by
      obtain ⟨a, b, c, q⟩ := w2
      exact ⟨a, b, c, by rw [upd_ne fu.symm]; exact q⟩
    have f0 : H f = none := fr_free fr1 fu hf
    refine ⟨_, rfl, _, rfl, u, m, rfl, w3, m1, by omega, fun H2 k hk w4 f2 => ?_⟩
    have fr2 : Fr u H H2 := (fr1.trans (Fr.of (same_new hf))).trans f2
    refine ⟨_, _, rfl, rfl, _, rfl, by omega, by omega, ?_⟩
    refine for_range (lo := 0) (n := (1 + (k : Int)).toNat) (fun i σ H' => ∃ (v : Option V) (caps : List Int), σ = [some (.ref u), some (.int m), some (.int un), some (.ref f), v] ∧ H' f = some (.lst (vi caps)) ∧ caps.length = i ∧ Mid caps ∧ WellAt H' u ∧ Fr u H H')
      ⟨none, [], rfl, f2 _ _ fu upd_same, rfl, Mid.nil, w4, fr2⟩ ?_ ?_
    · rintro i σ H' hi ⟨v, caps, rfl, hf', rfl, mid, wl, fr⟩
      have i6 : caps.length < 6 := by omega
      refine ⟨_, rfl, .inl ⟨rfl, _, SqL.of hf'⟩, _, rfl, _, rfl, u, 10, rfl, wl, by decide, by decide, fun H3 x hx w5 f3 => ?_⟩
      refine ⟨_, _, rfl, rfl, _, _, rfl, rfl, .inl ⟨by omega, by omega⟩, f, _, _, rfl, rfl, f3 _ _ fu hf', (by rw [List.length_map]; exact Nat.lt_of_lt_of_le i6 (by decide)), ?_⟩
      have z1 : 1 ≤ un * (1 + (x : Int)) := by
        have := Int.mul_le_mul ub.1 (show (1 : Int) ≤ 1 + x by omega) (by decide) (by omega)
        simpa using this
      have z2 : un * (1 + (x : Int)) ≤ 1000000000000 := by
        have := Int.mul_le_mul ub.2 (show (1 + x : Int) ≤ 10 by omega) (by omega) (by decide)
        simpa using this
      have ea : vi caps ++ [V.int (un * (1 + (x : Int)))] = vi (caps ++ [un * (1 + (x : Int))]) := by simp
      have w6 : WellAt (upd H3 f (.lst (vi caps ++ [V.int (un * (1 + (x : Int)))]))) u := by
        obtain ⟨a, b, c, q⟩ := w5
        exact ⟨a, b, c, by rw [upd_ne fu.symm]; exact q⟩
      refine ⟨_, rfl, u, 3, rfl, w6, by decide, by decide, fun H4 y hy w7 f4 => ?_⟩
      have g4 : H4 f = some (.lst (vi (caps ++ [un * (1 + (x : Int))]))) := f4 _ _ fu (by rw [upd_same, ea])
      have fr4 : Fr u H H4 := (fr_new (fr.trans f3) f0).trans f4
      refine ⟨rfl, _, rfl, ifD (fun _ => ?_) (fun _ => ?_)⟩
      · have ln : (vi (caps ++ [un * (1 + (x : Int))])).length = caps.length + 1 := by simp
        refine ⟨_, rfl, f, _, _, _, rfl, rfl, SqL.of g4, vi_at (i := 0) (by simp), _, rfl, _, rfl, f, _, _, caps.length, rfl, rfl, g4, ?_, ?_⟩
        · rw [ln]
          exact ixN_last
        · refine ⟨_, (caps ++ [un * (1 + (x : Int))]).set caps.length (at0 (caps ++ [un * (1 + (x : Int))]) 0), rfl, ?_, by simp, (mid.app z1 z2).set (by simp), ?_, fr_new fr4 f0⟩
          · rw [upd_same, vi_set]
            rfl
          · obtain ⟨a, b, c, q⟩ := w7
            exact ⟨a, b, c, by rw [upd_ne fu.symm]; exact q⟩
      · exact ⟨_, _, rfl, g4, by simp, mid.app z1 z2, w7, fr4⟩
    · rintro σ H' ⟨v, caps, rfl, hf', hl', mid, wl, fr⟩
      exact ⟨_, rfl, hq H' f caps f0 hf' (mid.caps (by omega) (by omega)) (by omega) wl fr⟩
theorem okLdeed (T : Tx K mg) : FnOk P w K mg base CX0 3 T.aLdeed T.dLdeed ["_law_fact_here"] (spLdeed T) := by
  refine T.fLdeed.ok scLdeed (fun vs H Q E h => ?_) (fun cdv A outer s H vs Q E hr h => ?_)
  · obtain ⟨v, d, rfl, _⟩ := h
    rfl
  · obtain ⟨v, d, rfl, ⟨t, rfl, ht⟩, hq⟩ := h
    refine ⟨_, (pss_cons (ps_asg (pv 0) (pg_tup rfl (pgs_cons (pg_name (i := 1) scLdeed.nd rfl (by first | exact Or.inl rfl | exact Or.inr rfl)) (pgs_cons (pg_name (i := 2) scLdeed.nd rfl (by first | exact Or.inl rfl | exact Or.inr rfl)) (pgs_cons (pg_name (i := 3) scLdeed.nd rfl (by first | exact Or.inl rfl | exact Or.inr rfl)) pgs_nil)))))
      (pss_cons (ps_if (pt_cmpR op_eq (pv 1) pe_str (nomark _)) (pss_one (ps_ret (pe_make T.kPour (okPourInit T) (hr.mono (by decide)) rfl T.mPour T.bPourInit .nil pass0 (pa_cons (pv 2) (pa_cons (pv 3) pa_nil))))) pss_nil)
      (pss_cons (ps_if (pt_cmpR op_eq (pv 1) pe_str (nomark _)) (pss_one (ps_ret (pe_make T.kPut (okPutInit T) (hr.mono (by decide)) rfl T.mPut T.bPutInit .nil pass0 (pa_cons (pv 2) (pa_cons (pv 3) pa_nil))))) pss_nil)
      (pss_cons (ps_if (pt_cmpR op_eq (pv 1) pe_str (nomark _)) (pss_one (ps_ret (pe_make T.kDraw (okDrawInit T) (hr.mono (by decide)) rfl T.mDraw T.bDrawInit .nil pass0 (pa_cons (pv 2) (pa_cons (pv 3) pa_nil))))) pss_nil)
      (pss_one (ps_ret (pe_make T.kChange (okChangeInit T) (hr.mono (by decide)) rfl T.mChange T.bChangeInit .nil pass0 (pa_cons (pv 2) (pa_cons (pv 3) pa_nil))))))))), ?_⟩
    refine ⟨_, rfl, t, _, rfl, SqT.of ht, rfl, _, _, rfl, _, _, rfl, _, _, rfl, rfl, _, rfl, rfl, _, rfl, ?_⟩
    cases d with
    | pour a b =>
      refine ifT (show decide (V.str "pour" = V.str "pour") = true by decide +kernel) ⟨_, rfl, _, rfl, fun x dx hx hdx ne => ⟨x, dx, _, _, rfl, upd_same, fun H1 h1 fr => ⟨rfl, ?_⟩⟩⟩
      exact hq H1 x hx ⟨x, dx, rfl, h1⟩ (made_same hx hdx fr)
    | put a k =>
      refine ifF (show decide (V.str "put" = V.str "pour") = false by decide +kernel) ⟨_, rfl, rfl, _, rfl, ifT (show decide (V.str "put" = V.str "put") = true by decide +kernel) ⟨_, rfl, _, rfl, fun x dx hx hdx ne => ⟨x, dx, _, _, rfl, upd_same, fun H1 h1 fr => ⟨rfl, ?_⟩⟩⟩⟩
      exact hq H1 x hx ⟨x, dx, rfl, h1⟩ (made_same hx hdx fr)
    | draw a k =>
      refine ifF (show decide (V.str "draw" = V.str "pour") = false by decide +kernel) ⟨_, rfl, rfl, _, rfl, ifF (show decide (V.str "draw" = V.str "put") = false by decide +kernel) ⟨_, rfl, rfl, _, rfl, ifT (show decide (V.str "draw" = V.str "draw") = true by decide +kernel) ⟨_, rfl, _, rfl, fun x dx hx hdx ne => ⟨x, dx, _, _, rfl, upd_same, fun H1 h1 fr => ⟨rfl, ?_⟩⟩⟩⟩⟩
      exact hq H1 x hx ⟨x, dx, rfl, h1⟩ (made_same hx hdx fr)
    | change a b =>
      refine ifF (show decide (V.str "change" = V.str "pour") = false by decide +kernel) ⟨_, rfl, rfl, _, rfl, ifF (show decide (V.str "change" = V.str "put") = false by decide +kernel) ⟨_, rfl, rfl, _, rfl, ifF (show decide (V.str "change" = V.str "draw") = false by decide +kernel) ⟨_, rfl, _, rfl, fun x dx hx hdx ne => ⟨x, dx, _, _, rfl, upd_same, fun H1 h1 fr => ⟨rfl, ?_⟩⟩⟩⟩⟩
      exact hq H1 x hx ⟨x, dx, rfl, h1⟩ (made_same hx hdx fr)
end
end Kp

namespace Kp
open PySem PySem.Spec PyProof.Rows L2 KpR
/-! good deeds, over Kmath's deeds -/
def D.word : D → Str
  | .pour _ _ => "pour"
  | .put _ _ => "put"
  | .draw _ _ => "draw"
  | .change _ _ => "change"
def D.last : D → Int
  | .pour _ b => b
  | .put _ k => k
  | .draw _ k => k
  | .change _ b => b
def D.fst : D → Nat
  | .pour a _ => a
  | .put a _ => a
  | .draw a _ => a
  | .change a _ => a
def FactD (H : Hp) (v : V) (d : D) : Prop := ∃ t, v = .ref t ∧ H t = some (.tup [.str d.word, .int d.fst, .int d.last])
theorem FactD.same {H H' : Hp} {v : V} {d : D} (e : Same H H') (h : FactD H v d) : FactD H' v d := by
  obtain ⟨t, rfl, h⟩ := h
  exact ⟨t, rfl, e _ _ h⟩
theorem FactD.fr {w : Addr} {H H' : Hp} {u : HO} {v : V} {d : D} (e : Fr w H H') (hw : H w = some u) (hb : Blank u) (h : FactD H v d) : FactD H' v d := by
  obtain ⟨t, rfl, h⟩ := h
  exact ⟨t, rfl, fr_no e hw hb h nbT⟩
def wn : Wd → Str
  | .pour => "pour"
  | .put => "put"
  | .draw => "draw"
  | .change => "change"
theorem wn_eq {a b : Wd} : decide (V.str (wn a) = V.str (wn b)) = decide (a = b) := by
  cases a <;> cases b <;> first | rfl | decide +kernel
/-- a deed of what was drawn -/
def mkD : Wd → Nat → Nat → Int → D
  | .pour, a, b, _ => .pour a b
  | .put, a, _, k => .put a k
  | .draw, a, _, k => .draw a k
  | .change, a, b, _ => .change a b
theorem mkD_ok {caps : List Int} {k : Wd} {a b : Nat} {m : Int} (ha : a < caps.length) (hb : b < caps.length) (m1 : 1 ≤ m) (m2 : m ≤ 1000000000000) (h1 : k = .pour → a ≠ b) (h2 : k = .change → a ≠ b ∧ at0 caps a = at0 caps b) : (mkD k a b m).ok caps := by
  cases k
  · exact ⟨ha, hb, h1 rfl⟩
  · exact ⟨ha, m1, m2⟩
  · exact ⟨ha, m1, m2⟩
  · exact ⟨ha, hb, h2 rfl⟩
theorem mkD_word {k : Wd} {a b : Nat} {m : Int} : (mkD k a b m).word = wn k := by cases k <;> rfl
theorem mkD_fst {k : Wd} {a b : Nat} {m : Int} : (mkD k a b m).fst = a := by cases k <;> rfl
theorem mkD_last {k : Wd} {a b : Nat} {m : Int} : (mkD k a b m).last = if k = .put ∨ k = .draw then m else (b : Int) := by cases k <;> rfl
theorem inV_word {k : Wd} : inV (.str (wn k)) [.str "put", .str "draw"] = decide (k = .put ∨ k = .draw) := by
  cases k <;> decide +kernel
section
variable {K : PySem.W.Frag} {mg : Str → Option Value}
def spLfacts (T : Tx K mg) : Sp := fun vs H Q _ => ∃ (w c : Addr) (m : Nat) (caps : List Int), vs = [.ref w, .ref c, .int m] ∧ WellAt H w ∧ H c = some (.lst (vi caps)) ∧ c ≠ w ∧ Caps caps ∧ m ≤ 22 ∧
  ∀ (H' : Hp) (p : Addr) (ts : List V) (ds : List D), H p = none → H' p = some (.lst ts) → A2 (FactD H') ts ds → ds.length = m → (∀ d ∈ ds, d.ok caps) → WellAt H' w → Fr w H H' → Q (.ref p) H'
end
theorem six_at {n : Nat} (h : n < 6) : atI (sixW.map fun k => V.str (wn k)) (n : Int) = some (.str (wn (sixW.getD n .pour))) := by
  refine atI_nat ?_
  have h' : n < sixW.length := h
  rw [List.getElem?_map, List.getElem?_eq_getElem h', List.getD_eq_getElem?_getD, List.getElem?_eq_getElem h']
  rfl
theorem pick2 {x y : Int} {c : Bool} : atI [V.int x, V.int y] (if c = true then 1 else 0) = some (.int (if c = true then y else x)) := by
  cases c <;> rfl
theorem wnT {k j : Wd} (h : k = j) : decide (V.str (wn k) = V.str (wn j)) = true := by rw [wn_eq]; exact decide_eq_true h
theorem wnF {k j : Wd} (h : ¬ k = j) : decide (V.str (wn k) = V.str (wn j)) = false := by rw [wn_eq]; exact decide_eq_false h
section
variable {P : Program} {w : World} {K : PySem.W.Frag} {mg : Str → Option Value} {base : Heap}
theorem okLfacts (T : Tx K mg) : FnOk P w K mg base CX0 2 T.aLfacts T.dLfacts ["_law_well_here", "_law_caps_here", "_law_many"] (spLfacts T) := by
  refine T.fLfacts.ok scLfacts (fun vs H Q E h => ?_) (fun cdv A outer s H vs Q E hr h => ?_)
  · obtain ⟨u, c, m, caps, rfl, _⟩ := h
    rfl
  · obtain ⟨u, c, m, caps, rfl, hw, hc, cu, hC, hm, hq⟩ := h
    refine ⟨_, (pss_cons (ps_set (i := 3) scLfacts.nd rfl (by first | exact Or.inl rfl | exact Or.inr rfl) (pe_lst pa_nil))
      (pss_cons (ps_for PassesOwn.never rfl (pi_range1 rfl T.nrange (pa_cons (pv 2) pa_nil)) (pg_name (i := 4) scLfacts.nd rfl (by first | exact Or.inl rfl | exact Or.inr rfl)) (pss_cons (ps_par (i := 5) (j := 6) rfl scLfacts.nd rfl rfl (by decide) rfl rfl (pa_cons (pe_call (okLdraw T) (hr.mono (by decide)) rfl T.gLdraw T.fLdraw.kp T.bLdraw .nil pass0 (pa_cons (pv 0) (pa_cons (pe_callB call_len_seq rfl T.nlen PySem.boot_len (pa_cons (pv 1) pa_nil)) pa_nil))) (pa_cons (pe_call (okLdraw T) (hr.mono (by decide)) rfl T.gLdraw T.fLdraw.kp T.bLdraw .nil pass0 (pa_cons (pv 0) (pa_cons (pe_callB call_len_seq rfl T.nlen PySem.boot_len (pa_cons (pv 1) pa_nil)) pa_nil))) pa_nil)) rfl)
      (pss_cons (ps_set (i := 7) scLfacts.nd rfl (by first | exact Or.inl rfl | exact Or.inr rfl) (pe_ix (r := rIxL K) ix_list (pe_lst (pa_cons pe_int (pa_cons (pe_op op_add pe_int (pe_call (okLdraw T) (hr.mono (by decide)) rfl T.gLdraw T.fLdraw.kp T.bLdraw .nil pass0 (pa_cons (pv 0) (pa_cons (pe_ix (r := rIxL K) ix_list (pv 1) (pv 5) (fun _ _ => rfl)) pa_nil)))) (pa_cons (pe_ix (r := rIxL K) ix_list (pv 1) (pv 5) (fun _ _ => rfl)) (pa_cons (pe_callB (call_min2 rfl) rfl T.nmin (by decide +kernel) (pa_cons (pe_op op_pow pe_int pe_int) (pa_cons (pe_op op_add (pe_ix (r := rIxL K) ix_list (pv 1) (pv 5) (fun _ _ => rfl)) pe_int) pa_nil))) pa_nil))))) (pe_call (okLdraw T) (hr.mono (by decide)) rfl T.gLdraw T.fLdraw.kp T.bLdraw .nil pass0 (pa_cons (pv 0) (pa_cons pe_int pa_nil))) (fun _ _ => rfl)))
      (pss_cons (ps_set (i := 8) scLfacts.nd rfl (by first | exact Or.inl rfl | exact Or.inr rfl) (pe_ix (r := rIxL K) ix_list (pe_lst (pa_cons pe_str (pa_cons pe_str (pa_cons pe_str (pa_cons pe_str (pa_cons pe_str (pa_cons pe_str pa_nil))))))) (pe_call (okLdraw T) (hr.mono (by decide)) rfl T.gLdraw T.fLdraw.kp T.bLdraw .nil pass0 (pa_cons (pv 0) (pa_cons pe_int pa_nil))) (fun _ _ => rfl)))
      (C8.pss_cut (ps_if (PW.pt (pw_and (pt_cmpR op_eq (pv 8) pe_str (nomark _)) (pw_and1 (PW.pt (pw_or (pt_cmpR op_eq (pv 5) (pv 6) (nomark _)) (pw_or1 (pt_cmpR op_ne (pe_ix (r := rIxL K) ix_list (pv 1) (pv 5) (fun _ _ => rfl)) (pe_ix (r := rIxL K) ix_list (pv 1) (pv 6) (fun _ _ => rfl)) (nomark _)))))))) (pss_one (ps_set (i := 8) scLfacts.nd rfl (by first | exact Or.inl rfl | exact Or.inr rfl) pe_str)) pss_nil)
      (C8.pss_cut (ps_if (PW.pt (pw_and (pt_cmpR op_eq (pv 8) pe_str (nomark _)) (pw_and1 (pt_cmpR op_eq (pv 5) (pv 6) (nomark _))))) (pss_one (ps_set (i := 8) scLfacts.nd rfl (by first | exact Or.inl rfl | exact Or.inr rfl) pe_str)) pss_nil)
      (pss_one (ps_expr (pe_bm PySem.F.plainAttrs_list PySem.F.slot_list_append PySem.F.type_list_append mt_append (pv 3) (pa_cons (pe_tup (pa_cons (pv 8) (pa_cons (pv 5) (pa_cons (pe_ix (r := rIxL K) ix_list (pe_lst (pa_cons (pv 6) (pa_cons (pv 7) pa_nil))) (pe_callTy call_int1 rfl T.nint (by decide +kernel) (pa_cons (pe_cmpR (r := rIn K false) op_in_seq (pv 8) (pe_tup (pa_cons pe_str (pa_cons pe_str pa_nil))) (by rfl)) pa_nil)) (fun _ _ => rfl)) pa_nil)))) pa_nil))))))))))
      (pss_one (ps_ret (pv 3))))), ?_⟩
    have c1 := hC.l1
    have c6 := hC.l6
    have vl : (vi caps).length = caps.length := List.length_map ..
    refine ⟨(by show 0 ≤ sizeLine; decide), fun f hf => ?_⟩
    have fu := hw.ne hf
    have cf : c ≠ f := ne_of_none hc hf
    refine ⟨_, rfl, m, rfl, by omega, by omega, ?_⟩
    refine for_range (lo := 0) (n := (m : Int).toNat) (fun i σ H' => ∃ (v4 v5 v6 v7 v8 : Option V) (ts : List V) (ds : List D), σ = [some (.ref u), some (.ref c), some (.int m), some (.ref f), v4, v5, v6, v7, v8] ∧ H' f = some (.lst ts) ∧
        A2 (FactD H') ts ds ∧ ds.length = i ∧ (∀ d ∈ ds, d.ok caps) ∧ WellAt H' u ∧ Fr u H H')
      ⟨none, none, none, none, none, [], [], rfl, upd_same, trivial, rfl, (fun d h => by cases h), hw.new hf, Fr.of (same_new hf)⟩ ?_ ?_
    · rintro i σ H' hi ⟨v4, v5, v6, v7, v8, ts, ds, rfl, gf, gA, gl, gok, wl, fr⟩
      have gc := fr _ _ cu hc
      refine ⟨_, rfl, _, rfl, c, _, rfl, .inl (SqL.of gc), u, _, rfl, wl, by omega, by omega, fun H1 a la w1 f1 => ?_⟩
      have gc1 := f1 _ _ cu gc
      refine ⟨_, rfl, _, rfl, c, _, rfl, .inl (SqL.of gc1), u, _, rfl, w1, by omega, by omega, fun H2 b lb w2 f2 => ⟨_, _, rfl, ?_⟩⟩
      have gc2 := f2 _ _ cu gc1
      have ha : a < caps.length := by omega
      have hb : b < caps.length := by omega
      have k0 := hC.lo a ha
      have k1 := hC.hi a ha
      refine ⟨_, rfl, _, rfl, _, rfl, c, _, _, _, rfl, rfl, SqL.of gc2, vi_at ha, u, at0 caps a, rfl, w2, k0, by omega, fun H3 x lx w3 f3 => ?_⟩
      have gc3 := f3 _ _ cu gc2
      refine ⟨_, _, rfl, rfl, _, rfl, _, rfl, c, _, _, _, rfl, rfl, SqL.of gc3, vi_at ha, _, _, rfl, rfl, ⟨by decide, by decide, by decide⟩, _, rfl, _, rfl, c, _, _, _, rfl, rfl, SqL.of gc3, vi_at ha, _, _, rfl, rfl, _, _, rfl, (by show 4 ≤ sizeLine; decide), fun s hs => ?_⟩
      have su := w3.ne hs
      have fr3 : Fr u H H3 := ((fr.trans f1).trans f2).trans f3
      have gf3 := f3 _ _ fu (f2 _ _ fu (f1 _ _ fu gf))
      have sm3 : Same H3 (upd H3 s (.lst (vi [1, 1 + (x : Int), at0 caps a, (if at0 caps a + 1 < 10 ^ (12 : Int).toNat then at0 caps a + 1 else 10 ^ (12 : Int).toNat)]))) := same_new hs
      refine ⟨_, rfl, u, 4, rfl, w3.new hs, by decide, by decide, fun H4 n ln w4 f4 => ?_⟩
      have n4 : n < 4 := by omega
      refine ⟨s, vi [1, 1 + (x : Int), at0 caps a, (if at0 caps a + 1 < 10 ^ (12 : Int).toNat then at0 caps a + 1 else 10 ^ (12 : Int).toNat)], _, _, rfl, rfl, SqL.of (f4 _ _ su upd_same), vi_at n4, ?_⟩
      obtain ⟨mu, hmu, mb⟩ : ∃ r : Int, at0 [1, 1 + (x : Int), at0 caps a, (if at0 caps a + 1 < 10 ^ (12 : Int).toNat then at0 caps a + 1 else 10 ^ (12 : Int).toNat)] n = r ∧ 1 ≤ r ∧ r ≤ 1000000000000 :=
        ⟨_, rfl, pick4 n4 ⟨by omega, by omega⟩ ⟨by omega, by omega⟩ ⟨by omega, by omega⟩ (by
          have e12 : (10 : Int) ^ (12 : Int).toNat = 1000000000000 := by decide
          rw [e12]
          split <;> exact ⟨by omega, by omega⟩)⟩
      unfold at0 at hmu
      unfold at0
      rw [hmu]
      refine ⟨(by show 6 ≤ sizeLine; decide), fun s2 hs2 => ?_⟩
      have s2u := w4.ne hs2
      have fr4 : Fr u H H4 := (fr3.trans (Fr.of sm3)).trans f4
      have gf4 := f4 _ _ fu (sm3 _ _ gf3)
      have gc4 := f4 _ _ cu (sm3 _ _ gc3)
      have sm4 : Same H4 (upd H4 s2 (.lst (sixW.map fun k => V.str (wn k)))) := same_new hs2
      refine ⟨_, rfl, u, 6, rfl, w4.new hs2, by decide, by decide, fun H5 n2 ln2 w5 f5 => ?_⟩
      have n6 : n2 < 6 := by omega
      refine ⟨s2, sixW.map fun k => V.str (wn k), _, _, rfl, rfl, SqL.of (f5 _ _ s2u upd_same), six_at n6, ?_⟩
      generalize sixW.getD n2 .pour = k0'
      have fr5 : Fr u H H5 := (fr4.trans (Fr.of sm4)).trans f5
      have gf5 := f5 _ _ fu (sm4 _ _ gf4)
      have gc5 := f5 _ _ cu (sm4 _ _ gc4)
      have gA5 : A2 (FactD H5) ts ds := by
        obtain ⟨o, ho, hb⟩ := wl.ex
        exact A2.mono (fun _ _ q => q.fr (((((f1.trans f2).trans f3).trans (Fr.of sm3)).trans f4).trans ((Fr.of sm4).trans f5)) ho hb) gA
      refine ⟨fun σ' H' => ∃ k : Wd, σ' = [some (.ref u), some (.ref c), some (.int m), some (.ref f), some (.int (0 + (i : Int))), some (.int a), some (.int b), some (.int mu), some (.str (wn k))] ∧ H' = H5 ∧ (k = .change → a ≠ b ∧ at0 caps a = at0 caps b), ?_, ?_⟩
      · refine ⟨_, rfl, rfl, _, rfl, ?_⟩
        by_cases hk : k0' = .change
        · refine ifT (wnT (j := .change) hk) ⟨_, rfl, _, rfl, rfl, _, rfl, ifD (fun _ => ifT rfl ⟨.pour, rfl, rfl, fun z => by cases z⟩) (fun hab => ?_)⟩
          refine ⟨_, rfl, _, rfl, c, _, _, _, rfl, rfl, SqL.of gc5, vi_at ha, _, rfl, _, rfl, c, _, _, _, rfl, rfl, SqL.of gc5, vi_at hb, rfl, _, rfl, ifN (fun hcap => ⟨k0', rfl, rfl, fun _ => ⟨fun z => hab (by rw [z]), ?_⟩⟩) (fun _ => ⟨.pour, rfl, rfl, fun z => by cases z⟩)⟩
          injection hcap
        · exact ifF (wnF (j := .change) hk) (ifF rfl ⟨k0', rfl, rfl, fun z => absurd z hk⟩)
      · rintro σ' H' ⟨k, rfl, rfl, hk⟩
        refine ⟨fun σ' H'' => ∃ k : Wd, σ' = [some (.ref u), some (.ref c), some (.int m), some (.ref f), some (.int (0 + (i : Int))), some (.int a), some (.int b), some (.int mu), some (.str (wn k))] ∧ H'' = H' ∧ (k = .change → a ≠ b ∧ at0 caps a = at0 caps b) ∧ (k = .pour → a ≠ b), ?_, ?_⟩
        · refine ⟨_, rfl, rfl, _, rfl, ?_⟩
          by_cases hp : k = .pour
          · exact ifT (wnT (j := .pour) hp) ⟨_, rfl, _, rfl, rfl, _, rfl, ifD (fun _ => ⟨.put, rfl, rfl, (fun z => by cases z), fun z => by cases z⟩) (fun hab => ⟨k, rfl, rfl, hk, fun _ z => hab (by rw [z])⟩)⟩
          · exact ifF (wnF (j := .pour) hp) (ifF rfl ⟨k, rfl, rfl, hk, fun z => absurd z hp⟩)
        · rintro σ' H'' ⟨k, rfl, rfl, hk, hp⟩
          refine ⟨_, rfl, .inl ⟨rfl, _, SqL.of gf5⟩, _, rfl, _, rfl, _, rfl, _, rfl, (by show 2 ≤ sizeLine; decide), fun s3 hs3 => ?_⟩
          have sm5 : Same H'' (upd H'' s3 (.lst [.int b, .int mu])) := same_new hs3
          refine ⟨_, rfl, (by show 2 ≤ sizeLine; decide), fun s4 hs4 => ?_⟩
          have sm6 := sm5.trans (same_new (o := .tup [.str "put", .str "draw"]) hs4)
          have n34 : s3 ≠ s4 := fun z => by rw [← z, upd_same] at hs4; cases hs4
          refine ⟨s4, _, rfl, .inr (SqT.of upd_same), rfl, rfl, .inr ⟨_, rfl, s3, _, _, _, rfl, rfl, SqL.of (by rw [upd_ne n34]; exact upd_same), pick2, (by show 3 ≤ sizeLine; decide), fun t ht => ?_⟩⟩
          have sm7 := sm6.trans (same_new (o := .tup [.str (wn k), .int a, .int (if inV (.str (wn k)) [.str "put", .str "draw"] = true then mu else (b : Int))]) ht)
          have tf : f ≠ t := ne_of_none (sm6 _ _ gf5) ht
          have tl := gA5.len
          refine ⟨f, _, _, rfl, rfl, sm7 _ _ gf5, Nat.lt_of_lt_of_le (by omega : ts.length < 100) (by decide), ?_⟩
          have bl : Fr f (upd (upd (upd H'' s3 (.lst [.int b, .int mu])) s4 (.tup [.str "put", .str "draw"])) t (.tup [.str (wn k), .int a, .int (if inV (.str (wn k)) [.str "put", .str "draw"] = true then mu else (b : Int))])) _ := fr_mut (o := .lst (ts ++ [.ref t])) (Fr.refl _ _)
          refine ⟨_, _, _, _, _, ts ++ [.ref t], ds ++ [mkD k a b mu], rfl, upd_same, ?_, by simp [gl], ?_, ?_, ?_⟩
          · refine A2.app (A2.mono (fun _ _ q => (q.same sm7).fr bl (sm7 _ _ gf5) bl_l) gA5) ⟨⟨t, rfl, ?_⟩, trivial⟩
            refine bl _ _ tf.symm ?_
            rw [upd_same, mkD_word, mkD_fst, mkD_last, inV_word]
            by_cases hpd : k = .put ∨ k = .draw
            · rw [if_pos hpd, if_pos (decide_eq_true hpd)]
            · rw [if_neg hpd, if_neg (by rw [decide_eq_false hpd]; exact Bool.false_ne_true)]
          · intro d hd
            rcases List.mem_append.mp hd with q | q
            · exact gok d q
            · obtain rfl : d = mkD k a b mu := by simpa using q
              exact mkD_ok ha hb mb.1 mb.2 hp hk
          · exact (w5.same sm7).mut fu
          · exact fr_new (fr5.trans (Fr.of sm7)) hf
    · rintro σ H' ⟨v4, v5, v6, v7, v8, ts, ds, rfl, gf, gA, gl, gok, wl, fr⟩
      rw [Int.toNat_natCast] at gl
      exact ⟨_, rfl, hq H' f ts ds hf gf gA gl gok wl fr⟩
end
end Kp
namespace Kp
open PySem PySem.Spec PyProof.Rows L2 KpR
def D.toE : D → E1
  | .pour a b => .pour a b
  | .put a k => .put a k
  | .draw a k => .draw a k
  | .change a b => .change a b
theorem FactD.e {H : Hp} {v : V} {d : D} (h : FactD H v d) : FactAt H v d.toE := by
  obtain ⟨t, rfl, ht⟩ := h
  cases d <;> exact ⟨t, rfl, ht⟩
theorem inJ_of {n k : Nat} (h : k < n) : inJ n (k : Int) = true := by
  unfold inJ
  rw [decide_eq_true (by omega), decide_eq_true (by omega)]
  rfl
theorem good_toE {caps : List Int} {d : D} (h : d.ok caps) : d.toE.bad caps = none := by
  cases d with
  | put a k => simp [D.toE, E1.bad, inJ_of h.1, okN, h.2.1, h.2.2]
  | draw a k => simp [D.toE, E1.bad, inJ_of h.1, okN, h.2.1, h.2.2]
  | pour a b =>
    have ne : ¬ (a : Int) = (b : Int) := fun z => h.2.2 (Int.ofNat.inj z)
    simp only [D.toE, E1.bad, inJ_of h.1, inJ_of h.2.1, if_pos, if_neg ne]
  | change a b =>
    have ne : ¬ (a : Int) = (b : Int) := fun z => h.2.2.1 (Int.ofNat.inj z)
    have e : caps.getD a 0 = caps.getD b 0 := h.2.2.2
    simp only [D.toE, E1.bad, inJ_of h.1, inJ_of h.2.1, if_pos, if_neg ne, Int.toNat_natCast, e]
end Kp

namespace Kp
open PySem PySem.Spec PyProof.Rows L2 KpR TL
theorem lg13 {n : Nat} (h : n < 10 ^ 13) : ((n : Nat) : Int).natAbs.log2 < 1920 := by
  rw [Int.natAbs_natCast]
  rcases Nat.eq_zero_or_pos n with rfl | h0
  · decide
  · exact (Nat.log2_lt (by omega)).mpr (Nat.lt_of_lt_of_le h (Nat.le_trans (by decide : 10 ^ 13 ≤ 2 ^ 44) (Nat.pow_le_pow_right (by decide) (by decide))))
theorem sz_of {x : Str} {n : Nat} (h : x.length ≤ n) (hn : n ≤ 1000) : x.length ≤ sizeLine := Nat.le_trans h (Nat.le_trans hn (by decide))
theorem app_len (x y : Str) : (x ++ y).length = x.length + y.length := by
  rw [len_tl, tl_append, List.length_append, ← len_tl, ← len_tl]
section
variable {K : PySem.W.Frag} {mg : Str → Option Value}
def spisnumber (T : Tx K mg) : Sp := fun vs H Q _ => ∃ z : Str, vs = [.str z] ∧ z.length ≤ 1000000 ∧ ∀ H', Same H H' → Q (.bl (isNum (tl z))) H'
end
section
variable {P : Program} {w : World} {K : PySem.W.Frag} {mg : Str → Option Value} {base : Heap}
theorem okisnumber (T : Tx K mg) : FnOk P w K mg base CX0 1 T.aisnumber T.disnumber ["part"] (spisnumber T) := by
  refine T.fisnumber.ok scisnumber (fun vs H Q E h => ?_) (fun cdv A outer s H vs Q E hr h => ?_)
  · obtain ⟨z, rfl, _⟩ := h
    rfl
  · obtain ⟨z, rfl, hz, hq⟩ := h
    refine ⟨_, (pss_cons (ps_if (PW.pt (pw_or (pt_not (pt_chain op_le op_le pe_int (pe_callB call_len_str rfl T.nlen PySem.boot_len (pa_cons (pv 0) pa_nil)) (pe_glob (v := .int 13) rfl T.cMOSTFIGURES ⟨_, rfl⟩))) (pw_or1 (pt_not (pt_val (pe_callB (cr_all rfl) rfl T.nall (by decide +kernel) (pa_cons (pe_lc (own := [("sign", 1)]) rfl scisnumber.nd (pi_str (pv 0)) (blkOk_by (own := [("sign", 1)]) (N := ["part", "sign"]) (sc := defScope sisnumber) (by decide +kernel)) (fun _ _ _ _ _ => (pg_name (i := 1) scisnumber.nd rfl (by first | exact Or.inl rfl | exact Or.inr rfl))) (fun _ _ _ _ _ => pts_nil) (fun _ _ _ _ _ => (pe_chain op_le_str op_le_str pe_str (pv 1) pe_str))) pa_nil))))))) (pss_one (ps_ret pe_bl)) pss_nil)
      (pss_one (ps_ret (pe_or (pe_cmpR op_eq (pv 0) pe_str (nomark _)) (pe_one (pe_cmpR op_ne (pe_ix (r := rIxS) ix_str (pv 0) pe_int (fun _ _ => rfl)) pe_str (nomark _))))))), ?_⟩
    have zl : z.length ≤ sizeLine := Nat.le_trans hz (by decide)
    have el : z.length = (tl z).length := len_tl z
    refine ⟨_, rfl, _, rfl, zl, 1, _, rfl, rfl, _, rfl, ?_⟩
    have no : ∀ H', Same H H' → isNum (tl z) = false → Q (.bl false) H' := fun H' sm h => by
      have := hq H' sm
      rw [h] at this
      exact this
    by_cases g1 : 1 ≤ (tl z).length
    · refine ifT (decide_eq_true (by omega)) ?_
      refine ⟨_, _, rfl, rfl, _, rfl, ?_⟩
      by_cases g2 : (tl z).length ≤ 13
      · refine iteNS (by omega) ?_
        -- all
        refine ⟨_, rfl, _, rfl, fun D1 hD1 => ?_⟩
        refine lc_it (walk_str (z := z)) (fun i H' => H' D1 = some (.lst (((tl z).take i).map fun c => V.bl (isDg c))) ∧ Same H H') ⟨upd_same, same_new hD1⟩ (fun _ _ _ _ => True.intro) ?_ ?_
        · rintro i x H' H1 hi ⟨k1, sm⟩ ⟨rfl, c, hc, rfl⟩
          have hci : (tl z)[i]? = some c := by
            have := hc
            rw [← Array.getElem?_toList] at this
            exact this
          have cmp1 : (!decide (((⟨#[c]⟩ : Str).cps.toList) < (("0" : Str).cps.toList))) = decide (48 ≤ c) := by
            rw [show ("0" : Str).cps.toList = [48] by decide +kernel]
            show (!decide ([c] < [48])) = _
            by_cases h : 48 ≤ c
            · rw [decide_eq_true h, decide_eq_false (by rw [List.cons_lt_cons_iff]; simp; omega)]
              rfl
            · rw [decide_eq_false h, decide_eq_true (by rw [List.cons_lt_cons_iff]; simp; omega)]
              rfl
          have cmp2 : (!decide ((("9" : Str).cps.toList) < ((⟨#[c]⟩ : Str).cps.toList))) = decide (c ≤ 57) := by
            rw [show ("9" : Str).cps.toList = [57] by decide +kernel]
            show (!decide ([57] < [c])) = _
            by_cases h : c ≤ 57
            · rw [decide_eq_true h, decide_eq_false (by rw [List.cons_lt_cons_iff]; simp; omega)]
              rfl
            · rw [decide_eq_false h, decide_eq_true (by rw [List.cons_lt_cons_iff]; simp; omega)]
              rfl
          refine ⟨rfl, ?_⟩
          have fin : ∀ b : Bool, b = isDg c → ∃ acc, H1 D1 = some (.lst acc) ∧ acc.length < sizeLine ∧ (upd H1 D1 (.lst (acc ++ [V.bl b]))) D1 = some (.lst (((tl z).take (i + 1)).map fun c => V.bl (isDg c))) ∧ Same H (upd H1 D1 (.lst (acc ++ [V.bl b]))) := fun b hb => by
            refine ⟨_, k1, small1000 (by rw [List.length_map, List.length_take]; omega), ?_, same_mut sm hD1⟩
            rw [upd_same, List.take_add_one, hci, hb]
            simp
          refine ⟨_, rfl, _, _, rfl, rfl, _, rfl, ?_⟩
          rw [cmp1]
          by_cases a1 : 48 ≤ c
          · refine ifT (decide_eq_true a1) ⟨_, _, rfl, rfl, ?_⟩
            rw [cmp2]
            exact fin _ (by unfold isDg; rw [decide_eq_true a1]; rfl)
          · refine ifF (decide_eq_false a1) ?_
            exact fin _ (by unfold isDg; rw [decide_eq_false a1]; rfl)
        · rintro H' ⟨k1, sm⟩
          rw [show z.cps.size = (tl z).length from el, List.take_length] at k1
          have e : ((tl z).map fun c => V.bl (isDg c)) = ((tl z).map isDg).map V.bl := by rw [List.map_map]; rfl
          rw [e] at k1
          have ea : ((tl z).map isDg).all id = (tl z).all isDg := by simp [List.all_map]
          refine ⟨D1, (tl z).map isDg, rfl, SqL.of k1, ?_⟩
          rw [ea]
          refine ⟨_, rfl, ?_⟩
          cases ga : (tl z).all isDg with
          | false =>
            refine ifT rfl ?_
            exact no H' sm (by unfold isNum; rw [ga]; simp)
          | true =>
            refine ifF rfl ?_
            have e0 : tl ("0" : Str) = [48] := by decide +kernel
            have n0 : isNum (tl z) = (decide (tl z = [48]) || !decide ((tl z).head? = some 48)) := by unfold isNum; rw [decide_eq_true g1, decide_eq_true g2, ga]; rfl
            have b0 : decide (V.str z = V.str ("0" : Str)) = decide (tl z = [48]) := decide_eq_decide.mpr ⟨fun h => by
              injection h with h
              rw [h, e0], fun h => congrArg V.str (ext_tl (h.trans e0.symm))⟩
            have hq := hq H' sm
            rw [n0] at hq
            refine ⟨_, rfl, rfl, _, rfl, ?_⟩
            by_cases g0 : tl z = [48]
            · refine ifT (b0.trans (decide_eq_true g0)) ?_
              rw [decide_eq_true g0] at hq
              exact hq
            · refine ifF (b0.trans (decide_eq_false g0)) ?_
              rw [decide_eq_false g0] at hq
              obtain ⟨c, r, ec⟩ : ∃ c r, tl z = c :: r := by
                cases h : tl z with
                | nil => rw [h] at g1; simp at g1
                | cons c r => exact ⟨c, r, rfl⟩
              refine ⟨_, rfl, z, 0, c, rfl, rfl, zl, ?_, rfl, ?_⟩
              · rw [show z.cps.toList = c :: r from ec]
                exact (show atI _ ((0 : Nat) : Int) = _ from atI_nat rfl)
              · have b1 : (!decide (V.str (⟨#[c]⟩ : Str) = V.str ("0" : Str))) = (!decide ((tl z).head? = some 48)) := by
                  rw [ec, List.head?_cons]
                  refine congrArg Bool.not (decide_eq_decide.mpr ⟨fun h => ?_, fun h => ?_⟩)
                  · injection h with h
                    have := congrArg tl h
                    rw [e0] at this
                    have z2 : [c] = [48] := this
                    injection z2 with z2
                    rw [z2]
                  · have z2 : c = 48 := Option.some.inj h
                    exact congrArg V.str (ext_tl (by rw [e0, z2]))
                rw [show (!decide (V.str (⟨#[c]⟩ : Str) = V.str ("0" : Str))) = _ from b1]
                exact hq
      · refine (congrArg (fun c : Bool => if (!c) = true then _ else _) (decide_eq_false (by omega))).mpr ?_
        exact ifT rfl (no H (Same.refl _) (by unfold isNum; rw [decide_eq_false g2]; simp))
    · refine ifF (decide_eq_false (by omega)) ?_
      exact ⟨_, rfl, ifT rfl (no H (Same.refl _) (by unfold isNum; rw [decide_eq_false g1]; simp))⟩
end
end Kp

namespace Kp
open PySem PySem.Spec PyProof.Rows L2 KpR TL
/-- the deed of a word and two numbers -/
def mkE (w : Str) (a b : Int) : Option E1 := if w = "pour" then some (.pour a b) else if w = "put" then some (.put a b) else if w = "draw" then some (.draw a b) else if w = "change" then some (.change a b) else none
/-- the deed that a text tells -/
def rdL : List Str → Option E1
  | [w, x, y] => if isNum (tl x) = true ∧ isNum (tl y) = true then mkE w (nv x) (nv y) else none
  | _ => none
def rdP (z : Str) : Option E1 := rdL (Txt.split z spc)
/-- the first text that tells none -/
def badAt (ps : List Str) : Option Nat := ps.findIdx? fun p => (rdP p).isNone
def deedsOf (ps : List Str) : List E1 := ps.filterMap rdP
section
variable {K : PySem.W.Frag} {mg : Str → Option Value}
def spBadTextInit (T : Tx K mg) : Sp := spX1 T.cBadText "place"
def tE (T : Tx K mg) (H : Hp) (E : XK) (i : Int) : Prop := ∀ (H' : Hp) (d : Addr), H' d = some (.xd (f1s "place" (.int i))) → Same H H' → E (.ref T.cBadText) (some d) H'
theorem iteNF {c : Prop} [Decidable c] {A B : Prop} (hc : ¬ c) (h : A) : if (!decide c) = true then A else B := by
  rw [decide_eq_false hc]
  exact h
theorem tE.same {T : Tx K mg} {H H1 : Hp} {E : XK} {i : Int} (h : tE T H E i) (s : Same H H1) : tE T H1 E i := fun H' d e s' => h H' d e (s.trans s')
def spreaddeed (T : Tx K mg) : Sp := fun vs H Q E => ∃ (i : Int) (z : Str), vs = [.int i, .str z] ∧ z.length ≤ 1000000 ∧ (∀ e, rdP z = some e → ∀ (H' : Hp) (p : Addr), H p = none → DeedAt T H' (.ref p) e → Same H H' → Q (.ref p) H') ∧ (rdP z = none → tE T H E i)
def spreaddeeds (T : Tx K mg) : Sp := fun vs H Q E => ∃ z : Str, vs = [.str z] ∧ z.length ≤ 1000000 ∧ (z = none_ → ∀ (H' : Hp) (p : Addr), H p = none → H' p = some (.lst []) → Same H H' → Q (.ref p) H') ∧
  (z ≠ none_ → (∀ i, badAt (Txt.split z cma) = some i → tE T H E i) ∧ (badAt (Txt.split z cma) = none → ∀ (H' : Hp) (p : Addr) (us : List V), H p = none → H' p = some (.lst us) → A2 (DeedAt T H') us (deedsOf (Txt.split z cma)) → Same H H' → Q (.ref p) H'))
end
section
variable {P : Program} {w : World} {K : PySem.W.Frag} {mg : Str → Option Value} {base : Heap}
theorem okBadTextInit (T : Tx K mg) : FnOk P w K mg base CX0 1 T.aBadTextInit T.dBadTextInit ["self", "place"] (spBadTextInit T) := by
  refine T.fBadTextInit.ok scBadTextInit (fun vs H Q E h => ?_) (fun cdv A outer s H vs Q E hr h => ?_)
  · obtain ⟨a, u, rfl, _⟩ := h
    rfl
  · obtain ⟨a, u, rfl, ha, hq⟩ := h
    refine ⟨_, (pss_one (ps_ost (pv 0) (pv 1))), ?_⟩
    refine ⟨_, rfl, _, rfl, a, _, rfl, T.oBadText, T.nBadText_place, .inl ⟨ha, fun d hd ne => ?_⟩⟩
    refine hq _ d hd ne upd_same (by rw [upd_ne ne]; exact upd_same) ?_
    exact fun b o n1 e => by
      have n2 := ne_of_none e hd
      rw [upd_ne n1, upd_ne n2]
      exact e
theorem okreaddeed (T : Tx K mg) : FnOk P w K mg base (L2.CX P w) 3 T.areaddeed T.dreaddeed ["place", "text"] (spreaddeed T) := by
  refine T.freaddeed.okX screaddeed (fun vs H Q E h => ?_) (fun cdv A outer s H vs Q E hr h => ?_)
  · obtain ⟨i, z, rfl, _⟩ := h
    rfl
  · obtain ⟨i, z, rfl, hz, hq, hx⟩ := h
    refine ⟨_, (pss_cons (ps_set (i := 2) screaddeed.nd rfl (by first | exact Or.inl rfl | exact Or.inr rfl) (pe_split (pv 1) pe_str))
      (pss_cons (ps_if (PW.pt (pw_or (pt_cmpR op_ne (pe_callB call_len_seq rfl T.nlen PySem.boot_len (pa_cons (pv 2) pa_nil)) pe_int (nomark _)) (pw_or (pt_not (pt_val (pe_call (okisnumber T) (hr.mono (by decide)) rfl T.gisnumber T.fisnumber.kp T.bisnumber .nil pass0 (pa_cons (pe_ix (r := rIxL K) ix_list (pv 2) pe_int (fun _ _ => rfl)) pa_nil)))) (pw_or1 (pt_not (pt_val (pe_call (okisnumber T) (hr.mono (by decide)) rfl T.gisnumber T.fisnumber.kp T.bisnumber .nil pass0 (pa_cons (pe_ix (r := rIxL K) ix_list (pv 2) pe_int (fun _ _ => rfl)) pa_nil)))))))) (pss_one (ps_raise rfl (takes_of rfl rfl rfl rfl) (pmk_oex T.oBadText T.iBadText T.tBadText (okBadTextInit T) (hr.mono (by decide)) T.bBadTextInit .nil pass0 rfl T.mBadText (pa_cons (pv 0) pa_nil)))) pss_nil)
      (pss_cons (ps_set (i := 3) screaddeed.nd rfl (by first | exact Or.inl rfl | exact Or.inr rfl) (pe_callTy call_int_str rfl T.nint (by decide +kernel) (pa_cons (pe_ix (r := rIxL K) ix_list (pv 2) pe_int (fun _ _ => rfl)) pa_nil)))
      (pss_cons (ps_set (i := 4) screaddeed.nd rfl (by first | exact Or.inl rfl | exact Or.inr rfl) (pe_callTy call_int_str rfl T.nint (by decide +kernel) (pa_cons (pe_ix (r := rIxL K) ix_list (pv 2) pe_int (fun _ _ => rfl)) pa_nil)))
      (pss_cons (ps_if (pt_cmpR op_eq (pe_ix (r := rIxL K) ix_list (pv 2) pe_int (fun _ _ => rfl)) pe_str (nomark _)) (pss_one (ps_ret (pe_make T.kPour (okPourInit T) (hr.mono (by decide)) rfl T.mPour T.bPourInit .nil pass0 (pa_cons (pv 3) (pa_cons (pv 4) pa_nil))))) pss_nil)
      (pss_cons (ps_if (pt_cmpR op_eq (pe_ix (r := rIxL K) ix_list (pv 2) pe_int (fun _ _ => rfl)) pe_str (nomark _)) (pss_one (ps_ret (pe_make T.kPut (okPutInit T) (hr.mono (by decide)) rfl T.mPut T.bPutInit .nil pass0 (pa_cons (pv 3) (pa_cons (pv 4) pa_nil))))) pss_nil)
      (pss_cons (ps_if (pt_cmpR op_eq (pe_ix (r := rIxL K) ix_list (pv 2) pe_int (fun _ _ => rfl)) pe_str (nomark _)) (pss_one (ps_ret (pe_make T.kDraw (okDrawInit T) (hr.mono (by decide)) rfl T.mDraw T.bDrawInit .nil pass0 (pa_cons (pv 3) (pa_cons (pv 4) pa_nil))))) pss_nil)
      (pss_cons (ps_if (pt_cmpR op_eq (pe_ix (r := rIxL K) ix_list (pv 2) pe_int (fun _ _ => rfl)) pe_str (nomark _)) (pss_one (ps_ret (pe_make T.kChange (okChangeInit T) (hr.mono (by decide)) rfl T.mChange T.bChangeInit .nil pass0 (pa_cons (pv 3) (pa_cons (pv 4) pa_nil))))) pss_nil)
      (pss_one (ps_raise rfl (takes_of rfl rfl rfl rfl) (pmk_oex T.oBadText T.iBadText T.tBadText (okBadTextInit T) (hr.mono (by decide)) T.bBadTextInit .nil pass0 rfl T.mBadText (pa_cons (pv 0) pa_nil)))))))))))), ?_⟩
    have bad : rdP z = none → ∀ H2, Same H H2 → ∀ a, H2 a = none → spX1 T.cBadText "place" [.ref a, .int i] (upd H2 a (exo a T.cBadText none)) (fun v H3 => v = .non ∧ ∃ (d : Addr) (fs : List (Str × V)), H3 a = some (exo a T.cBadText (some d)) ∧ H3 d = some (exd d fs) ∧ H2 d = none ∧ E (.ref T.cBadText) (some d) (upd (del H3 a) d (.xd fs))) (fun _ _ _ => False) := fun h H2 s2 => x1_made ((hx h).same s2)
    obtain ⟨len, small⟩ := split_spc z
    refine ⟨_, rfl, ⟨_, rfl⟩, _, _, rfl, rfl, by decide +kernel, Nat.le_trans (by omega : _ ≤ 1000002) (by decide), fun p hp => ?_⟩
    show _
    generalize hG : upd H p _ = H1
    have s1 : Same H H1 := by rw [← hG]; exact same_new hp
    have g1 : H1 p = some (.lst ((Txt.split z spc).map V.str)) := by rw [← hG]; exact upd_same
    clear hG
    have e0 : rdP z = rdL (Txt.split z spc) := rfl
    generalize Txt.split z spc = ps at len small g1 e0
    have pl : (ps.map V.str).length = ps.length := List.length_map ..
    refine ⟨_, rfl, p, _, rfl, .inl (SqL.of g1), rfl, _, rfl, ?_⟩
    match ps, pl, len, small, g1, e0 with
    | [w, x, y], _, _, small, g1, e0 =>
      refine iteNS rfl ?_
      have xl := small x (by simp)
      have yl := small y (by simp)
      refine ⟨_, rfl, p, _, _, _, rfl, rfl, SqL.of g1, (show atI _ ((1 : Nat) : Int) = _ from atI_nat rfl), _, rfl, by omega, fun H2 s2 => ⟨_, rfl, ?_⟩⟩
      have g2 := s2 _ _ g1
      cases ix : isNum (tl x) with
      | false => exact ifT rfl ⟨_, rfl, (by show 1 ≤ 1000; decide), bad (by rw [e0]; simp [rdL, ix]) H2 (s1.trans s2)⟩
      | true =>
        refine ifF rfl ?_
        refine ⟨_, rfl, p, _, _, _, rfl, rfl, SqL.of g2, (show atI _ ((2 : Nat) : Int) = _ from atI_nat rfl), _, rfl, by omega, fun H3 s3 => ⟨_, rfl, ?_⟩⟩
        have g3 := s3 _ _ g2
        have s13 := (s1.trans s2).trans s3
        cases iy : isNum (tl y) with
        | false => exact ifT rfl ⟨_, rfl, (by show 1 ≤ 1000; decide), bad (by rw [e0]; simp [rdL, iy]) H3 s13⟩
        | true =>
          refine ifF rfl ?_
          obtain ⟨ex, bx⟩ := nv_ok ix
          obtain ⟨ey, by_⟩ := nv_ok iy
          have em : rdP z = mkE w (nv x) (nv y) := by rw [e0]; simp [rdL, ix, iy]
          have lx := nS_len bx
          have ly := nS_len by_
          rw [← ex] at lx
          rw [← ey] at ly
          have i1 : intText? x = some ((nv x : Nat) : Int) := by
            have := int_num (n := nv x) (by have := nS_len bx; rw [len_tl, nS_tl] at this; omega)
            rw [show Str.ofString (toString ((nv x : Nat) : Int)) = x from ex.symm] at this
            exact this
          have i2 : intText? y = some ((nv y : Nat) : Int) := by
            have := int_num (n := nv y) (by have := nS_len by_; rw [len_tl, nS_tl] at this; omega)
            rw [show Str.ofString (toString ((nv y : Nat) : Int)) = y from ey.symm] at this
            exact this
          generalize nv x = a at i1 em
          generalize nv y = b at i2 em
          refine ⟨_, rfl, p, _, _, _, rfl, rfl, SqL.of g3, (show atI _ ((1 : Nat) : Int) = _ from atI_nat rfl), _, _, rfl, i1, by omega, ?_⟩
          refine ⟨_, rfl, p, _, _, _, rfl, rfl, SqL.of g3, (show atI _ ((2 : Nat) : Int) = _ from atI_nat rfl), _, _, rfl, i2, by omega, ?_⟩
          have fin : ∀ (e : E1) (x dx : Addr) (C : Addr) (H2 : Hp), rdP z = some e → H3 x = none → H3 dx = none → Fr x (upd (upd H3 dx (.own x)) x (.ins C dx [])) H2 → (DeedAt T H2 (.ref x) e) → Q (.ref x) H2 := fun e x dx C H2 he hx hdx fr hd => hq e he H2 x (s13.free hx) hd (s13.trans (made_same hx hdx fr))
          have w0 : ∀ {u : Str}, w ≠ u → ¬ V.str w = V.str u := fun {u} n e => n (by injection e)
          refine ⟨_, rfl, p, _, _, _, rfl, rfl, SqL.of g3, (show atI _ ((0 : Nat) : Int) = _ from atI_nat rfl), rfl, _, rfl, ?_⟩
          by_cases c1 : w = "pour"
          · subst c1
            exact ifT (decide_eq_true rfl) ⟨_, rfl, _, rfl, fun x dx hx hdx ne => ⟨x, dx, _, _, rfl, upd_same, fun H2 h2 fr => ⟨rfl, fin (.pour a b) x dx _ H2 em hx hdx fr ⟨x, dx, rfl, h2⟩⟩⟩⟩
          refine ifF (decide_eq_false (w0 c1)) ?_
          refine ⟨_, rfl, p, _, _, _, rfl, rfl, SqL.of g3, (show atI _ ((0 : Nat) : Int) = _ from atI_nat rfl), rfl, _, rfl, ?_⟩
          by_cases c2 : w = "put"
          · refine ifT (decide_eq_true (by rw [c2])) ⟨_, rfl, _, rfl, fun x dx hx hdx ne => ⟨x, dx, _, _, rfl, upd_same, fun H2 h2 fr => ⟨rfl, fin (.put a b) x dx _ H2 ?_ hx hdx fr ⟨x, dx, rfl, h2⟩⟩⟩⟩
            rw [em]
            unfold mkE
            rw [if_neg c1, if_pos c2]
          refine ifF (decide_eq_false (w0 c2)) ?_
          refine ⟨_, rfl, p, _, _, _, rfl, rfl, SqL.of g3, (show atI _ ((0 : Nat) : Int) = _ from atI_nat rfl), rfl, _, rfl, ?_⟩
          by_cases c3 : w = "draw"
          · refine ifT (decide_eq_true (by rw [c3])) ⟨_, rfl, _, rfl, fun x dx hx hdx ne => ⟨x, dx, _, _, rfl, upd_same, fun H2 h2 fr => ⟨rfl, fin (.draw a b) x dx _ H2 ?_ hx hdx fr ⟨x, dx, rfl, h2⟩⟩⟩⟩
            rw [em]
            unfold mkE
            rw [if_neg c1, if_neg c2, if_pos c3]
          refine ifF (decide_eq_false (w0 c3)) ?_
          refine ⟨_, rfl, p, _, _, _, rfl, rfl, SqL.of g3, (show atI _ ((0 : Nat) : Int) = _ from atI_nat rfl), rfl, _, rfl, ?_⟩
          by_cases c4 : w = "change"
          · refine ifT (decide_eq_true (by rw [c4])) ⟨_, rfl, _, rfl, fun x dx hx hdx ne => ⟨x, dx, _, _, rfl, upd_same, fun H2 h2 fr => ⟨rfl, fin (.change a b) x dx _ H2 ?_ hx hdx fr ⟨x, dx, rfl, h2⟩⟩⟩⟩
            rw [em]
            unfold mkE
            rw [if_neg c1, if_neg c2, if_neg c3, if_pos c4]
          refine ifF (decide_eq_false (w0 c4)) ?_
          refine ⟨_, rfl, (by show 1 ≤ 1000; decide), bad ?_ H3 s13⟩
          rw [em]
          unfold mkE
          rw [if_neg c1, if_neg c2, if_neg c3, if_neg c4]
    | [], _, _, _, g1, e0 => exact iteNF (by show ¬ V.int 0 = V.int 3; intro z; cases z) ⟨_, rfl, (by show 1 ≤ 1000; decide), bad e0 H1 s1⟩
    | [_], _, _, _, g1, e0 => exact iteNF (by show ¬ V.int 1 = V.int 3; intro z; cases z) ⟨_, rfl, (by show 1 ≤ 1000; decide), bad e0 H1 s1⟩
    | [_, _], _, _, _, g1, e0 => exact iteNF (by show ¬ V.int 2 = V.int 3; intro z; cases z) ⟨_, rfl, (by show 1 ≤ 1000; decide), bad e0 H1 s1⟩
    | _ :: _ :: _ :: _ :: r, pl, _, _, g1, e0 => exact iteNF (fun z => by injection z with z; rw [pl] at z; simp at z; omega) ⟨_, rfl, (by show 1 ≤ 1000; decide), bad e0 H1 s1⟩
end
end Kp

namespace Kp
open PySem PySem.Spec PyProof.Rows L2 KpR TL
theorem bad_at {ps : List Str} {i : Nat} {z : Str} (hi : ps[i]? = some z) (hz : rdP z = none) (hd : ∀ p ∈ ps.take i, (rdP p).isSome = true) : badAt ps = some i := by
  unfold badAt
  obtain ⟨lt, e⟩ := List.getElem?_eq_some_iff.mp hi
  rw [List.findIdx?_eq_some_iff_getElem]
  refine ⟨lt, by rw [e, hz]; rfl, fun j hj => ?_⟩
  have := hd ps[j] (List.mem_take_iff_getElem.mpr ⟨j, by omega, rfl⟩)
  cases q : rdP ps[j] with
  | none => rw [q] at this; cases this
  | some e => simp
theorem bad_none {ps : List Str} (hd : ∀ p ∈ ps, (rdP p).isSome = true) : badAt ps = none := by
  unfold badAt
  rw [List.findIdx?_eq_none_iff]
  intro p hp
  have := hd p hp
  cases q : rdP p with
  | none => rw [q] at this; cases this
  | some e => rfl
theorem bad_good {ps : List Str} (h : badAt ps = none) : ∀ p ∈ ps, (rdP p).isSome = true := fun p hp => by
  unfold badAt at h
  rw [List.findIdx?_eq_none_iff] at h
  have := h p hp
  cases q : rdP p with
  | none => rw [q] at this; cases this
  | some e => rfl
theorem deeds_snoc {ps : List Str} {i : Nat} {z : Str} {e : E1} (hi : ps[i]? = some z) (he : rdP z = some e) : deedsOf (ps.take (i + 1)) = deedsOf (ps.take i) ++ [e] := by
  unfold deedsOf
  rw [List.take_add_one, hi, List.filterMap_append]
  simp [he]
section
variable {P : Program} {w : World} {K : PySem.W.Frag} {mg : Str → Option Value} {base : Heap}
theorem okreaddeeds (T : Tx K mg) : FnOk P w K mg base (L2.CX P w) 4 T.areaddeeds T.dreaddeeds ["text"] (spreaddeeds T) := by
  refine T.freaddeeds.okX screaddeeds (fun vs H Q E h => ?_) (fun cdv A outer s H vs Q E hr h => ?_)
  · obtain ⟨z, rfl, _⟩ := h
    rfl
  · obtain ⟨z, rfl, hz, h0, h1⟩ := h
    refine ⟨_, (pss_cons (ps_if (pt_cmpR op_eq (pv 0) (pe_glob (v := .str "none") rfl T.cNODEEDS ⟨_, rfl⟩) (nomark _)) (pss_one (ps_ret (pe_lst pa_nil))) pss_nil)
      (pss_one (ps_ret (pe_lcE (own := [("place", 1), ("part", 2)]) (g := gTup K 2 (gCons (gName 1) (gCons (gName 2) gNil))) rfl rfl (takes_of rfl rfl rfl rfl) rfl screaddeeds.nd (pi_enum rfl T.nenumerate (pa_cons (pe_split (pv 0) pe_str) pa_nil)) (blkOk_by (own := [("place", 1), ("part", 2)]) (N := ["text", "place", "part"]) (sc := defScope sreaddeeds) (by decide +kernel)) (fun _ _ _ _ _ _ => (pg_tup rfl (pgs_cons (pg_name (i := 1) screaddeeds.nd rfl (by first | exact Or.inl rfl | exact Or.inr rfl)) (pgs_cons (pg_name (i := 2) screaddeeds.nd rfl (by first | exact Or.inl rfl | exact Or.inr rfl)) pgs_nil)))) (fun _ _ _ _ _ _ => pts_nil) (fun _ _ _ _ _ _ hx => (pe_call (okreaddeed T) (hr.mono (by decide)) rfl T.greaddeed T.freaddeed.kp T.breaddeed .nil hx (pa_cons (pv 1) (pa_cons (pv 2) pa_nil)))))))), ?_⟩
    by_cases c : z = none_
    · refine ⟨_, rfl, rfl, _, rfl, ifT (decide_eq_true (by rw [c]; rfl)) ⟨(by show 0 ≤ sizeLine; decide), fun p hp => ?_⟩⟩
      exact h0 c _ p hp upd_same (same_new hp)
    · obtain ⟨hx, hq⟩ := h1 c
      refine ⟨_, rfl, rfl, _, rfl, ifF (decide_eq_false fun e => c (by injection e)) ?_⟩
      obtain ⟨len, small⟩ := split_cma z
      refine ⟨_, rfl, ⟨_, rfl⟩, _, _, rfl, rfl, by decide +kernel, Nat.le_trans (by omega : _ ≤ 1000002) (by decide), fun p hp => ?_⟩
      show _
      generalize hG : upd H p _ = H1
      have s1 : Same H H1 := by rw [← hG]; exact same_new hp
      have g1 : H1 p = some (.lst ((Txt.split z cma).map V.str)) := by rw [← hG]; exact upd_same
      clear hG
      generalize Txt.split z cma = ps at len small g1 hx hq
      refine ⟨p, _, rfl, SqL.of g1, fun D1 hD1 => ?_⟩
      refine lc_enumL (K := K) (a := p) (xs := ps.map V.str) (fun i H' => ∃ us, H' D1 = some (.lst us) ∧ A2 (DeedAt T H') us (deedsOf (ps.take i)) ∧ us.length ≤ i ∧ (∀ q ∈ ps.take i, (rdP q).isSome = true) ∧ Same H1 H') ⟨[], upd_same, by simp [A2, deedsOf], Nat.le_refl _, (fun q hq => by simp at hq), same_new hD1⟩ (fun i H' _ ⟨_, _, _, _, _, e⟩ => SqL.of (e _ _ g1)) ?_ ?_
      · rintro i x T1 H2 hi ⟨us, k1, k2, ul, kd, sm⟩ hT1
        rw [List.getElem?_map] at hi
        obtain ⟨y, hy, rfl⟩ := Option.map_eq_some_iff.mp hi
        have il : i < ps.length := (List.getElem?_eq_some_iff.mp hy).1
        have x2 := same_new (o := .tup [V.int (i : Nat), V.str y]) hT1
        have yl := small y (List.mem_of_getElem? hy)
        refine ⟨T1, _, rfl, SqT.of upd_same, rfl, _, _, rfl, _, _, rfl, rfl, rfl, ?_⟩
        refine ⟨_, rfl, _, rfl, _, y, rfl, by omega, fun e he H3 q q0 hq3 s3 => ?_, fun no => ?_⟩
        · have s23 := x2.trans s3
          refine ⟨us, s23 _ _ k1, Nat.lt_of_lt_of_le (by omega : us.length < 1000001) (by decide), us ++ [V.ref q], upd_same, ?_, by simp; omega, fun q hq => ?_, same_mut (sm.trans s23) hD1⟩
          · have f3 : Fr D1 H3 (upd H3 D1 (.lst (us ++ [V.ref q]))) := fr_mut (Fr.refl _ _)
            rw [deeds_snoc hy he]
            exact A2.mono (fun _ _ k => k.fr f3 (s23 _ _ k1) bl_l) (A2.app (A2.mono (fun _ _ k => k.same s23) k2) ⟨hq3, trivial⟩)
          · rw [List.take_add_one, hy] at hq
            rcases List.mem_append.mp hq with hq | hq
            · exact kd q hq
            · obtain rfl : q = y := by simpa using hq
              rw [he]
              rfl
        · exact (hx i (bad_at hy no kd)).same ((s1.trans sm).trans x2)
      · rintro H2 ⟨us, k1, k2, ul, kd, sm⟩
        rw [List.length_map, List.take_length] at k2 kd
        exact hq (bad_none kd) H2 D1 us (s1.free hD1) k1 k2 (s1.trans sm)
end
end Kp

namespace Kp
open PySem PySem.Spec PyProof.Rows L2 KpR TL
/-- how a row is refused, if it is -/
def rowBad (caps : List Int) (ds : List E1) : Option Rf := if ds.length > 20 then some (.count "deeds" ds.length) else firstBad caps ds
theorem firstBad_none {caps : List Int} : ∀ {l : List E1}, (l.filter fun d => (d.bad caps).isSome) = [] → firstBad caps l = none
  | [], _ => rfl
  | d :: l, h => by
    cases c : d.bad caps with
    | some x => rw [List.filter_cons_of_pos (by rw [c]; rfl)] at h; cases h
    | none =>
      rw [List.filter_cons_of_neg (by rw [c]; exact Bool.false_ne_true)] at h
      simp only [firstBad, c]
      exact firstBad_none h
theorem firstBad_some {caps : List Int} {d0 : E1} {r : List E1} : ∀ {l : List E1}, (l.filter fun d => (d.bad caps).isSome) = d0 :: r → firstBad caps l = d0.bad caps ∧ ∃ x, d0.bad caps = some x
  | [], h => by cases h
  | d :: l, h => by
    cases c : d.bad caps with
    | some x =>
      rw [List.filter_cons_of_pos (by rw [c]; rfl)] at h
      injection h with h _
      subst h
      exact ⟨by simp only [firstBad, c], x, c⟩
    | none =>
      rw [List.filter_cons_of_neg (by rw [c]; exact Bool.false_ne_true)] at h
      simp only [firstBad, c]
      exact firstBad_some h
/-- what comes of a text -/
inductive Res where
  | txt (i : Nat) | bad (r : Rf) | ok (ds : List E1)
def rowRes (caps : List Int) (ds : List E1) : Res := match rowBad caps ds with
  | some r => .bad r
  | none => .ok ds
def txtRes (caps : List Int) (z : Str) : Res := if z = none_ then .ok [] else match badAt (Txt.split z cma) with
  | some i => .txt i
  | none => rowRes caps (deedsOf (Txt.split z cma))
theorem none_res {caps : List Int} : txtRes caps none_ = rowRes caps [] := by
  unfold txtRes
  rw [if_pos rfl]
  rfl
section
variable {K : PySem.W.Frag} {mg : Str → Option Value}
def spreadrow (T : Tx K mg) : Sp := fun vs H Q E => ∃ (j : Addr) (caps : List Int) (z : Str), vs = [.ref j, .str z] ∧ JarsAt T H j caps ∧ z.length ≤ 1000000 ∧ (∀ i, txtRes caps z = .txt i → tE T H E i) ∧ (∀ r, txtRes caps z = .bad r → rE T H E r) ∧
  ∀ ds, txtRes caps z = .ok ds → ∀ (H' : Hp) (r : Addr), H r = none → RowAt T H' r caps ds → Same H H' → Q (.ref r) H'
end
section
variable {P : Program} {w : World} {K : PySem.W.Frag} {mg : Str → Option Value} {base : Heap}
theorem okreadrow (T : Tx K mg) : FnOk P w K mg base (L2.CX P w) 7 T.areadrow T.dreadrow ["jars", "text"] (spreadrow T) := by
  refine T.freadrow.okX screadrow (fun vs H Q E h => ?_) (fun cdv A outer s H vs Q E hr h => ?_)
  · obtain ⟨j, caps, z, rfl, _⟩ := h
    rfl
  · obtain ⟨j, caps, z, rfl, hJ, hz, ht, hb, hq⟩ := h
    refine ⟨_, (pss_one (ps_ret (pe_make T.kRow (okRowInit T) (hr.mono (by decide)) rfl T.mRow T.bRowInit .nil (passes_call (W := fun c d _ H => E c d H) (takes_of rfl rfl rfl rfl) (fun _ _ _ _ h => h)) (pa_cons (pv 0) (pa_cons (pe_call (okreaddeeds T) (hr.mono (by decide)) rfl T.greaddeeds T.freaddeeds.kp T.breaddeeds .nil (passes_call (W := fun c d _ H => E c d H) (takes_of rfl rfl rfl rfl) (fun _ _ _ _ h => h)) (pa_cons (pv 1) pa_nil)) pa_nil))))), ?_⟩
    have len := (split_cma z).1
    have go : ∀ (ds : List E1), ds.length ≤ 1000001 → txtRes caps z = rowRes caps ds → ∀ (H1 : Hp) (p : Addr) (us : List V), H1 p = some (.lst us) → A2 (DeedAt T H1) us ds → Same H H1 →
        ∀ x dx, H1 x = none → H1 dx = none → dx ≠ x → spRowInit T [.ref x, .ref j, .ref p] (upd (upd H1 dx (.own x)) x (.ins T.cRow dx [])) (fun v H2 => v = .non ∧ Q (.ref x) H2) E := fun ds d1 e H1 p us hp hA s1 x dx hx hdx ne => by
      have s2 : Same H1 (upd (upd H1 dx (.own x)) x (.ins T.cRow dx [])) := (same_new hdx).trans (same_new (by rw [upd_ne ne.symm]; exact hx))
      have s12 := s1.trans s2
      refine ⟨x, dx, j, p, caps, us, ds, rfl, upd_same, hJ.same s12, .inl (s2 _ _ hp), A2.mono (fun _ _ k => k.same s2) hA, by omega, fun g => ?_, fun g r hr => ?_, fun g hn H5 hR fr5 => ⟨rfl, ?_⟩⟩
      · exact fun H' d hd s => hb _ (by rw [e]; unfold rowRes rowBad; rw [if_pos g]) H' d hd (s12.trans s)
      · exact fun H' d hd s => hb r (by rw [e]; unfold rowRes rowBad; rw [if_neg (by omega), hr]) H' d hd (s12.trans s)
      · exact hq ds (by rw [e]; unfold rowRes rowBad; rw [if_neg (by omega), hn]) H5 x (s1.free hx) hR (s1.trans (made_same hx hdx fr5))
    refine ⟨_, rfl, _, rfl, z, rfl, hz, fun e H1 p p0 hp s1 => ?_, fun ne => ⟨fun i hi => ?_, fun no H1 p us p0 hp hA s1 => ?_⟩⟩
    · exact go [] (by simp) (by rw [e]; exact none_res) H1 p [] hp trivial s1
    · exact ht i (by unfold txtRes; rw [if_neg ne, hi])
    · have dl : (deedsOf (Txt.split z cma)).length ≤ 1000001 := Nat.le_trans (List.length_filterMap_le _ _) (by omega)
      exact go _ dl (by unfold txtRes; rw [if_neg ne, no]) H1 p us hp hA s1
end
end Kp

namespace Kp
open PySem PySem.Spec PyProof.Rows L2 KpR TL
section
variable {K : PySem.W.Frag} {mg : Str → Option Value}
def spLrow (T : Tx K mg) : Sp := fun vs H Q _ => ∃ (c f : Addr) (caps : List Int) (ts : List V) (ds : List E1), vs = [.ref c, .ref f] ∧ H c = some (.lst (vi caps)) ∧ Caps caps ∧ H f = some (.lst ts) ∧ A2 (FactAt H) ts ds ∧ ds.length ≤ 20 ∧ firstBad caps ds = none ∧
  ∀ (H' : Hp) (r : Addr), H r = none → RowAt T H' r caps ds → Same H H' → Q (.ref r) H'
def spLtext (T : Tx K mg) : Sp := fun vs H Q _ => ∃ (f : Addr) (ts : List V) (ds : List D), vs = [.ref f] ∧ H f = some (.lst ts) ∧ A2 (FactD H) ts ds ∧ (∀ d ∈ ds, d.can) ∧ ds.length ≤ 20 ∧ ∀ H' : Hp, Same H H' → Q (.str (rT ds)) H'
end
section
variable {P : Program} {w : World} {K : PySem.W.Frag} {mg : Str → Option Value} {base : Heap}
theorem okLrow (T : Tx K mg) : FnOk P w K mg base CX0 7 T.aLrow T.dLrow ["_law_caps_here", "_law_facts_here"] (spLrow T) := by
  refine T.fLrow.ok scLrow (fun vs H Q E h => ?_) (fun cdv A outer s H vs Q E hr h => ?_)
  · obtain ⟨c, f, caps, ts, ds, rfl, _⟩ := h
    rfl
  · obtain ⟨c, f, caps, ts, ds, rfl, hc, hC, hf, hA, d20, ok, hq⟩ := h
    refine ⟨_, (pss_one (ps_ret (pe_make T.kRow (okRowInit T) (hr.mono (by decide)) rfl T.mRow T.bRowInit .nil passF (pa_cons (pe_make T.kJars (okJarsInit T) (hr.mono (by decide)) rfl T.mJars T.bJarsInit .nil pass0 (pa_cons (pe_callTy call_list_of rfl T.nlist (by decide +kernel) (pa_cons (pv 0) pa_nil)) pa_nil)) (pa_cons (pe_lc (own := [("_law_fact_here", 2)]) rfl scLrow.nd (pi_list (pv 1)) (blkOk_by (own := [("_law_fact_here", 2)]) (N := ["_law_caps_here", "_law_facts_here", "_law_fact_here"]) (sc := defScope sLrow) (by decide +kernel)) (fun _ _ _ _ _ => (pg_name (i := 2) scLrow.nd rfl (by first | exact Or.inl rfl | exact Or.inr rfl))) (fun _ _ _ _ _ => pts_nil) (fun _ _ _ _ _ => (pe_call (okLdeed T) (hr.mono (by decide)) rfl T.gLdeed T.fLdeed.kp T.bLdeed .nil pass0 (pa_cons (pv 2) pa_nil)))) pa_nil))))), ?_⟩
    refine ⟨_, rfl, c, _, rfl, .inl (SqL.of hc), fun l hl => ?_⟩
    have s1 := same_new (o := .lst (vi caps)) hl
    have g1 : (upd H l (.lst (vi caps))) l = some (.lst (vi caps)) := upd_same
    generalize upd H l (.lst (vi caps)) = H1 at s1 g1 ⊢
    refine fun x dx hx hdx ne => ?_
    have s2 : Same H1 (upd (upd H1 dx (.own x)) x (.ins T.cJars dx [])) := (same_new hdx).trans (same_new (by rw [upd_ne ne.symm]; exact hx))
    refine ⟨x, dx, l, caps, rfl, upd_same, .inl (SqL.of (s2 _ _ g1)), hC, fun H2 hJ fr => ⟨rfl, ?_⟩⟩
    have s12 := s1.trans (made_same hx hdx fr)
    refine ⟨_, rfl, f, rfl, ⟨_, SqL.of (s12 _ _ hf)⟩, fun D1 hD1 => ?_⟩
    refine lc_list (K := K) (a := f) (xs := ts) (fun i H' => ∃ us, H' D1 = some (.lst us) ∧ A2 (DeedAt T H') us (ds.take i) ∧ Same H2 H') ⟨[], upd_same, trivial, same_new hD1⟩ (fun i H' _ ⟨_, _, _, e⟩ => SqL.of (e _ _ (s12 _ _ hf))) ?_ ?_
    · rintro i y H' hi ⟨us, k1, k2, sm⟩
      obtain ⟨d, hd, hy⟩ := hA.get hi
      have ul : us.length ≤ 20 := by rw [k2.len, List.length_take]; omega
      refine ⟨rfl, ?_⟩
      refine ⟨_, rfl, y, d, rfl, hy.same (s12.trans sm), fun H3 q q0 hq3 s3 => ?_⟩
      refine ⟨us, s3 _ _ k1, small1000 (by omega), us ++ [V.ref q], upd_same, ?_, same_mut (sm.trans s3) hD1⟩
      have f3 : Fr D1 H3 (upd H3 D1 (.lst (us ++ [V.ref q]))) := fr_mut (Fr.refl _ _)
      rw [List.take_add_one, hd]
      exact A2.mono (fun _ _ k => k.fr f3 (s3 _ _ k1) bl_l) (A2.app (A2.mono (fun _ _ k => k.same s3) k2) ⟨hq3, trivial⟩)
    · rintro H3 ⟨us, k1, k2, sm⟩
      rw [hA.len, List.take_length] at k2
      refine fun x2 dx2 hx2 hdx2 ne2 => ?_
      have s3 : Same H3 (upd (upd H3 dx2 (.own x2)) x2 (.ins T.cRow dx2 [])) := (same_new hdx2).trans (same_new (by rw [upd_ne ne2.symm]; exact hx2))
      have le : ds.length ≤ 20 := d20
      refine ⟨x2, dx2, x, D1, caps, us, ds, rfl, upd_same, (hJ.same sm).same s3, .inl (s3 _ _ k1), A2.mono (fun _ _ k => k.same s3) k2, by omega, fun z => absurd z (by omega), fun _ r hr => ?_, fun _ _ H5 hR fr5 => ⟨rfl, ?_⟩⟩
      · rw [ok] at hr
        cases hr
      · exact hq H5 x2 ((s12.trans sm).free hx2) hR ((s12.trans sm).trans (made_same hx2 hdx2 fr5))
theorem okLtext (T : Tx K mg) : FnOk P w K mg base CX0 1 T.aLtext T.dLtext ["_law_facts_here"] (spLtext T) := by
  refine T.fLtext.ok scLtext (fun vs H Q E h => ?_) (fun cdv A outer s H vs Q E hr h => ?_)
  · obtain ⟨f, ts, ds, rfl, _⟩ := h
    rfl
  · obtain ⟨f, ts, ds, rfl, hf, hA, hc, d20, hq⟩ := h
    refine ⟨_, (pss_cons (ps_set (i := 1) scLtext.nd rfl (by first | exact Or.inl rfl | exact Or.inr rfl) (pe_lst pa_nil))
      (pss_cons (ps_for PassesOwn.never rfl (pi_list (pv 0)) (pg_tup rfl (pgs_cons (pg_name (i := 2) scLtext.nd rfl (by first | exact Or.inl rfl | exact Or.inr rfl)) (pgs_cons (pg_name (i := 3) scLtext.nd rfl (by first | exact Or.inl rfl | exact Or.inr rfl)) (pgs_cons (pg_name (i := 4) scLtext.nd rfl (by first | exact Or.inl rfl | exact Or.inr rfl)) pgs_nil)))) (pss_one (ps_expr (pe_bm PySem.F.plainAttrs_list PySem.F.slot_list_append PySem.F.type_list_append mt_append (pv 1) (pa_cons (pe_op op_add_str (pe_op op_add_str (pe_op op_add_str (pe_op op_add_str (pv 2) pe_str) (pe_callTy call_str_int rfl T.nstr (by decide +kernel) (pa_cons (pv 3) pa_nil))) pe_str) (pe_callTy call_str_int rfl T.nstr (by decide +kernel) (pa_cons (pv 4) pa_nil))) pa_nil)))))
      (pss_one (ps_ret (pe_orT (pe_join pe_str (pv 1)) (pe_one pe_str)))))), ?_⟩
    refine ⟨(by show 0 ≤ sizeLine; decide), fun l hl => ?_⟩
    have s1 := same_new (o := .lst []) hl
    refine ⟨_, rfl, f, rfl, ⟨_, SqL.of (s1 _ _ hf)⟩, ?_⟩
    refine for_list (K := K) (a := f) (xs := ts) (fun i σ H' => ∃ v2 v3 v4 : Option V, σ = [some (V.ref f), some (V.ref l), v2, v3, v4] ∧ H' l = some (.lst (((ds.take i).map dT).map V.str)) ∧ Same H H') ⟨none, none, none, rfl, upd_same, s1⟩ (fun i σ H' _ ⟨_, _, _, _, _, e⟩ => SqL.of (e _ _ hf)) ?_ ?_
    · rintro i y σ H' hi ⟨v2, v3, v4, rfl, g1, sm⟩
      obtain ⟨d, hd, hy⟩ := hA.get hi
      obtain ⟨t, rfl, ht⟩ := hy.same sm
      have hcd := hc d (List.mem_of_getElem? hd)
      obtain ⟨hk, h1, h2⟩ := id hcd
      have l1 := nS_len h1
      have l2 := nS_len h2
      have l3 := wd_len d
      have e1 : (" " : Str).length = 1 := by decide +kernel
      refine ⟨t, _, rfl, SqT.of ht, rfl, _, _, rfl, _, _, rfl, _, _, rfl, rfl, ?_⟩
      have ew : d.word = d.wd := by cases d <;> rfl
      have ef : (d.fst : Int) = ((d.one : Nat) : Int) := by cases d <;> rfl
      have el : d.last = ((d.two : Nat) : Int) := by
        cases d with
        | pour a b => rfl
        | put a k => have := (hk a k (.inl rfl)).1; simp only [D.last, D.two]; omega
        | draw a k => have := (hk a k (.inr rfl)).1; simp only [D.last, D.two]; omega
        | change a b => rfl
      rw [ew, ef, el]
      refine ⟨_, rfl, .inl ⟨rfl, _, SqL.of g1⟩, _, rfl, _, _, rfl, rfl, ?_, _, rfl, _, rfl, lg13 h1, _, _, rfl, rfl, ?_, _, _, rfl, rfl, ?_, _, rfl, _, rfl, lg13 h2, _, _, rfl, rfl, ?_, l, _, _, rfl, rfl, g1, small1000 (by rw [List.length_map, List.length_map, List.length_take]; omega), ?_⟩
      · exact Nat.le_trans (by omega : _ ≤ 100) (by decide)
      · exact Nat.le_trans (by simp only [app_len]; have := l1; unfold nS at this; omega : _ ≤ 100) (by decide)
      · exact Nat.le_trans (by simp only [app_len]; have := l1; unfold nS at this; omega : _ ≤ 100) (by decide)
      · exact Nat.le_trans (by simp only [app_len]; have := l1; have := l2; unfold nS at *; omega : _ ≤ 100) (by decide)
      · refine ⟨_, _, _, rfl, ?_, same_mut sm hl⟩
        have ed := dT_app d
        unfold nS at ed
        rw [upd_same, ed, List.take_add_one, hd]
        simp
    · rintro σ H' ⟨v2, v3, v4, rfl, g1, sm⟩
      rw [hA.len, List.take_length] at g1
      have h1 := sumlen hc
      have h2 : ((ds.map dT).map (·.length)).sum + (ds.map dT).length * cma.length ≤ 16777216 := by
        have : cma.length = 2 := by unfold cma; decide +kernel
        rw [List.length_map, this]
        omega
      refine ⟨⟨_, rfl⟩, _, rfl, cma, l, ds.map dT, rfl, rfl, .inl (SqL.of g1), h2, ?_⟩
      by_cases c : ds = []
      · subst c
        have e0 : Txt.join cma ([] : List Str) = Str.empty := by unfold cma; decide +kernel
        refine ⟨false, ⟨by show (Txt.join cma ([] : List Str)).length ≤ sizeLine; rw [e0]; decide, ?_⟩, ifF rfl ?_⟩
        · show false = (((Txt.join cma ([] : List Str)).length : Int) != 0)
          rw [e0]
          rfl
        · exact hq H' sm
      · have e2 : Txt.join cma (ds.map dT) = rT ds := by unfold rT; rw [if_neg c]
        have l8 := rT_len hc d20
        have l0 : (rT ds).length ≠ 0 := fun z => by
          have s0 := rT_split c
          have e3 : rT ds = Str.empty := by
            rw [len_tl] at z
            exact ext_tl (List.eq_nil_of_length_eq_zero z)
          rw [e3] at s0
          have e4 : Txt.split Str.empty cma = [Str.empty] := by unfold cma; decide +kernel
          rw [e4] at s0
          cases ds with
          | nil => exact c rfl
          | cons d r =>
            have e5 : Str.empty = dT d := by
              have := congrArg List.head? s0
              simpa using this
            have e6 := congrArg tl e5
            rw [dT_tl] at e6
            have m : 32 ∈ tl Str.empty := by rw [e6]; simp
            exact absurd m (by decide)
        rw [e2]
        refine ⟨true, ⟨Nat.le_trans l8 (by decide), ?_⟩, ifT rfl (hq H' sm)⟩
        have : (((rT ds).length : Int) != 0) = true := by simp; omega
        exact this.symm
end
end Kp

namespace Kp
open PySem PySem.Spec PyProof.Rows L2 KpR TL
section
variable {K : PySem.W.Frag} {mg : Str → Option Value}
def spLiscount (T : Tx K mg) : Sp := fun vs H Q _ => ∃ z : Str, vs = [.str z] ∧ z.length ≤ 1000000 ∧ ∀ H', Same H H' → Q (.bl (isNum (tl z))) H'
end
section
variable {P : Program} {w : World} {K : PySem.W.Frag} {mg : Str → Option Value} {base : Heap}
theorem okLiscount (T : Tx K mg) : FnOk P w K mg base CX0 1 T.aLiscount T.dLiscount ["_law_text_so"] (spLiscount T) := by
  refine T.fLiscount.ok scLiscount (fun vs H Q E h => ?_) (fun cdv A outer s H vs Q E hr h => ?_)
  · obtain ⟨z, rfl, _⟩ := h
    rfl
  · obtain ⟨z, rfl, hz, hq⟩ := h
    refine ⟨_, (pss_cons (ps_if (PW.pt (pw_or (pt_not (pt_chain op_le op_le pe_int (pe_callB call_len_str rfl T.nlen PySem.boot_len (pa_cons (pv 0) pa_nil)) pe_int)) (pw_or1 (pt_cmpR (op_neNil (Nat.lt_of_le_of_lt (Nat.le_add_right _ _) hr.units)) (pe_lc (own := [("_law_sign", 1)]) rfl scLiscount.nd (pi_str (pv 0)) (blkOk_by (own := [("_law_sign", 1)]) (N := ["_law_text_so", "_law_sign"]) (sc := defScope sLiscount) (by decide +kernel)) (fun _ _ _ _ _ => (pg_name (i := 1) scLiscount.nd rfl (by first | exact Or.inl rfl | exact Or.inr rfl))) (fun _ _ _ _ _ => (pts_one (pt_cmpR op_notIn_str (pv 1) pe_str (by rfl)))) (fun _ _ _ _ _ => (pv 1))) (pe_lst pa_nil) (nomark _))))) (pss_one (ps_ret pe_bl)) pss_nil)
      (pss_one (ps_ret (pe_or (pe_cmpR op_eq (pv 0) pe_str (nomark _)) (pe_one (pe_cmpR op_ne (pe_ix (r := rIxS) ix_str (pv 0) pe_int (fun _ _ => rfl)) pe_str (nomark _))))))), ?_⟩
    have zl : z.length ≤ sizeLine := Nat.le_trans hz (by decide)
    have el : z.length = (tl z).length := len_tl z
    have no : ∀ H', Same H H' → isNum (tl z) = false → Q (.bl false) H' := fun H' sm h => by
      have := hq H' sm
      rw [h] at this
      exact this
    refine ⟨_, rfl, z, rfl, zl, 1, _, rfl, rfl, _, rfl, ?_⟩
    by_cases g1 : 1 ≤ (tl z).length
    · refine ifT (decide_eq_true (by omega)) ?_
      refine ⟨_, _, rfl, rfl, _, rfl, ?_⟩
      by_cases g2 : (tl z).length ≤ 13
      · refine iteNS (by omega) ?_
        refine ⟨_, rfl, _, rfl, fun D1 hD1 => ?_⟩
        refine lc_it (walk_str (z := z)) (fun i H' => H' D1 = some (.lst (((tl z).take i |>.filter fun c => !isDg c).map fun c => V.str ⟨#[c]⟩)) ∧ Same H H') ⟨upd_same, same_new hD1⟩ (fun _ _ _ _ => True.intro) ?_ ?_
        · rintro i x H' H1 hi ⟨k1, sm⟩ ⟨rfl, c, hc, rfl⟩
          have hci : (tl z)[i]? = some c := by
            have := hc
            rw [← Array.getElem?_toList] at this
            exact this
          refine ⟨rfl, ?_⟩
          refine ⟨_, rfl, _, _, rfl, rfl, _, rfl, ?_⟩
          have e1 := PySem.StrLaws.found_one ("0123456789" : Str) c
          have e2 : decide (c ∈ ("0123456789" : Str).cps.toList) = isDg c := by
            rw [show ("0123456789" : Str).cps.toList = [48, 49, 50, 51, 52, 53, 54, 55, 56, 57] by decide +kernel]
            unfold isDg
            rw [← Bool.decide_and]
            exact decide_eq_decide.mpr ⟨fun h => by simp at h; omega, fun h => by simp; omega⟩
          rw [show (!!(Builtin.Str.occurrences ("0123456789" : Str) ⟨#[c]⟩ 0 ("0123456789" : Str).length 1).isEmpty) = !(isDg c) by rw [e1, e2]]
          have tk : (tl z).take (i + 1) = (tl z).take i ++ [c] := by rw [List.take_add_one, hci]; rfl
          cases dg : isDg c with
          | true =>
            refine ifF rfl ⟨?_, sm⟩
            rw [k1, tk, List.filter_append]
            simp [dg]
          | false =>
            refine ifT rfl ⟨_, rfl, _, k1, Nat.lt_of_le_of_lt (by rw [List.length_map]; exact Nat.le_trans (List.length_filter_le _ _) (by rw [List.length_take]; omega) : _ ≤ 13) (by decide), ?_, same_mut sm hD1⟩
            rw [upd_same, tk, List.filter_append]
            simp [dg]
        · rintro H' ⟨k1, sm⟩
          rw [show z.cps.size = (tl z).length from el, List.take_length] at k1
          refine ⟨(by show 0 ≤ sizeLine; decide), fun e he => ?_⟩
          refine ⟨D1, e, _, rfl, rfl, (same_new he) _ _ k1, upd_same, _, rfl, ?_⟩
          have s2 := sm.trans (same_new (o := .lst []) he)
          generalize upd H' e (.lst []) = H2 at s2 ⊢
          have ad : (tl z).all isDg = decide (((tl z).filter fun c => !isDg c) = []) := by
            rw [Bool.eq_iff_iff, List.all_eq_true, decide_eq_true_iff, List.filter_eq_nil_iff]
            simp
          by_cases ga : ((tl z).filter fun c => !isDg c) = []
          · rw [decide_eq_true ga] at ad
            rw [ga]
            refine ifF rfl ?_
            have e0 : tl ("0" : Str) = [48] := by decide +kernel
            have n0 : isNum (tl z) = (decide (tl z = [48]) || !decide ((tl z).head? = some 48)) := by unfold isNum; rw [decide_eq_true g1, decide_eq_true g2, ad]; rfl
            have b0 : decide (V.str z = V.str ("0" : Str)) = decide (tl z = [48]) := decide_eq_decide.mpr ⟨fun h => by
              injection h with h
              rw [h, e0], fun h => congrArg V.str (ext_tl (h.trans e0.symm))⟩
            have hq := hq H2 s2
            rw [n0] at hq
            refine ⟨_, rfl, rfl, _, rfl, ?_⟩
            by_cases g0 : tl z = [48]
            · refine ifT (b0.trans (decide_eq_true g0)) ?_
              rw [decide_eq_true g0] at hq
              exact hq
            · refine ifF (b0.trans (decide_eq_false g0)) ?_
              rw [decide_eq_false g0] at hq
              obtain ⟨c, r, ec⟩ : ∃ c r, tl z = c :: r := by
                cases h : tl z with
                | nil => rw [h] at g1; simp at g1
                | cons c r => exact ⟨c, r, rfl⟩
              refine ⟨_, rfl, z, 0, c, rfl, rfl, zl, ?_, rfl, ?_⟩
              · rw [show z.cps.toList = c :: r from ec]
                exact (show atI _ ((0 : Nat) : Int) = _ from atI_nat rfl)
              · have b1 : (!decide (V.str (⟨#[c]⟩ : Str) = V.str ("0" : Str))) = (!decide ((tl z).head? = some 48)) := by
                  rw [ec, List.head?_cons]
                  refine congrArg Bool.not (decide_eq_decide.mpr ⟨fun h => ?_, fun h => ?_⟩)
                  · injection h with h
                    have := congrArg tl h
                    rw [e0] at this
                    have z2 : [c] = [48] := this
                    injection z2 with z2
                    rw [z2]
                  · have z2 : c = 48 := Option.some.inj h
                    exact congrArg V.str (ext_tl (by rw [e0, z2]))
                rw [show (!decide (V.str (⟨#[c]⟩ : Str) = V.str ("0" : Str))) = _ from b1]
                exact hq
          · rw [decide_eq_false ga] at ad
            refine ifT ?_ (no H2 s2 (by unfold isNum; rw [ad]; simp))
            cases h : (tl z).filter fun c => !isDg c with
            | nil => exact absurd h ga
            | cons a r => rfl
      · refine (congrArg (fun c : Bool => if (!c) = true then _ else _) (decide_eq_false (by omega))).mpr ?_
        exact ifT rfl (no H (Same.refl _) (by unfold isNum; rw [decide_eq_false g2]; simp))
    · refine ifF (decide_eq_false (by omega)) ?_
      exact ⟨_, rfl, ifT rfl (no H (Same.refl _) (by unfold isNum; rw [decide_eq_false g1]; simp))⟩
end
end Kp

namespace Kp
open PySem PySem.Spec PyProof.Rows L2 KpR TL
def OptAt (H : Hp) (x : V) : Option E1 → Prop
  | none => x = .non
  | some e => FactAt H x e
theorem OptAt.same {H H' : Hp} {x : V} {o : Option E1} (e : Same H H') (h : OptAt H x o) : OptAt H' x o := by
  cases o with
  | none => exact h
  | some d => exact FactAt.same e h
section
variable {K : PySem.W.Frag} {mg : Str → Option Value}
def spLfact (T : Tx K mg) : Sp := fun vs H Q _ => ∃ z : Str, vs = [.str z] ∧ z.length ≤ 1000000 ∧ ∀ (H' : Hp) (x : V), OptAt H' x (rdP z) → Same H H' → Q x H'
end
theorem eqV_str (x y : Str) : eqV (.str x) (.str y) = decide (x = y) := by
  by_cases h : x = y
  · subst h; simp [eqV]
  · simp [eqV, h]
theorem word_in (w : Str) (a b : Int) : (!inV (.str w) [.str "pour", .str "put", .str "draw", .str "change"]) = (mkE w a b).isNone := by
  unfold inV mkE
  simp only [List.any_cons, List.any_nil, Bool.or_false, eqV_str]
  by_cases c1 : w = "pour"
  · rw [if_pos c1, decide_eq_true c1.symm]
    rfl
  rw [if_neg c1, decide_eq_false fun z => c1 z.symm]
  by_cases c2 : w = "put"
  · rw [if_pos c2, decide_eq_true c2.symm]
    rfl
  rw [if_neg c2, decide_eq_false fun z => c2 z.symm]
  by_cases c3 : w = "draw"
  · rw [if_pos c3, decide_eq_true c3.symm]
    rfl
  rw [if_neg c3, decide_eq_false fun z => c3 z.symm]
  by_cases c4 : w = "change"
  · rw [if_pos c4, decide_eq_true c4.symm]
    rfl
  rw [if_neg c4, decide_eq_false fun z => c4 z.symm]
  rfl
theorem mkE_row {w : Str} {a b : Int} {e : E1} (h : mkE w a b = some e) : e.word = w ∧ e.fst = a ∧ e.last = b := by
  unfold mkE at h
  split at h
  · rename_i c
    cases h
    exact ⟨c.symm, rfl, rfl⟩
  split at h
  · rename_i c
    cases h
    exact ⟨c.symm, rfl, rfl⟩
  split at h
  · rename_i c
    cases h
    exact ⟨c.symm, rfl, rfl⟩
  split at h
  · rename_i c
    cases h
    exact ⟨c.symm, rfl, rfl⟩
  cases h
section
variable {P : Program} {w : World} {K : PySem.W.Frag} {mg : Str → Option Value} {base : Heap}
theorem okLfact (T : Tx K mg) : FnOk P w K mg base CX0 2 T.aLfact T.dLfact ["_law_text_so"] (spLfact T) := by
  refine T.fLfact.ok scLfact (fun vs H Q E h => ?_) (fun cdv A outer s H vs Q E hr h => ?_)
  · obtain ⟨z, rfl, _⟩ := h
    rfl
  · obtain ⟨z, rfl, hz, hq⟩ := h
    refine ⟨_, (pss_cons (ps_set (i := 1) scLfact.nd rfl (by first | exact Or.inl rfl | exact Or.inr rfl) (pe_split (pv 0) pe_str))
      (pss_cons (ps_if (PW.pt (pw_or (pt_cmpR op_ne (pe_callB call_len_seq rfl T.nlen PySem.boot_len (pa_cons (pv 1) pa_nil)) pe_int (nomark _)) (pw_or1 (pt_cmpR (r := rIn K true) op_notIn_seq (pe_ix (r := rIxL K) ix_list (pv 1) pe_int (fun _ _ => rfl)) (pe_lst (pa_cons pe_str (pa_cons pe_str (pa_cons pe_str (pa_cons pe_str pa_nil))))) (by rfl))))) (pss_one (ps_ret pe_non)) pss_nil)
      (pss_cons (ps_if (PW.pt (pw_or (pt_not (pt_val (pe_call (okLiscount T) (hr.mono (by decide)) rfl T.gLiscount T.fLiscount.kp T.bLiscount .nil pass0 (pa_cons (pe_ix (r := rIxL K) ix_list (pv 1) pe_int (fun _ _ => rfl)) pa_nil)))) (pw_or1 (pt_not (pt_val (pe_call (okLiscount T) (hr.mono (by decide)) rfl T.gLiscount T.fLiscount.kp T.bLiscount .nil pass0 (pa_cons (pe_ix (r := rIxL K) ix_list (pv 1) pe_int (fun _ _ => rfl)) pa_nil))))))) (pss_one (ps_ret pe_non)) pss_nil)
      (pss_one (ps_ret (pe_tup (pa_cons (pe_ix (r := rIxL K) ix_list (pv 1) pe_int (fun _ _ => rfl)) (pa_cons (pe_callTy call_int_str rfl T.nint (by decide +kernel) (pa_cons (pe_ix (r := rIxL K) ix_list (pv 1) pe_int (fun _ _ => rfl)) pa_nil)) (pa_cons (pe_callTy call_int_str rfl T.nint (by decide +kernel) (pa_cons (pe_ix (r := rIxL K) ix_list (pv 1) pe_int (fun _ _ => rfl)) pa_nil)) pa_nil))))))))), ?_⟩
    obtain ⟨len, small⟩ := split_spc z
    refine ⟨_, rfl, ⟨_, rfl⟩, _, _, rfl, rfl, by decide +kernel, Nat.le_trans (by omega : _ ≤ 1000002) (by decide), fun p hp => ?_⟩
    show _
    generalize hG : upd H p _ = H1
    have s1 : Same H H1 := by rw [← hG]; exact same_new hp
    have g1 : H1 p = some (.lst ((Txt.split z spc).map V.str)) := by rw [← hG]; exact upd_same
    clear hG
    have e0 : rdP z = rdL (Txt.split z spc) := rfl
    generalize Txt.split z spc = ps at len small g1 e0
    have pl : (ps.map V.str).length = ps.length := List.length_map ..
    have no : rdP z = none → ∀ H2, Same H H2 → Q .non H2 := fun h H2 s2 => hq H2 _ (by rw [h]; rfl) s2
    refine ⟨_, rfl, p, _, rfl, .inl (SqL.of g1), rfl, _, rfl, ?_⟩
    match ps, pl, len, small, g1, e0 with
    | [w, x, y], _, _, small, g1, e0 =>
      refine iteNS rfl ?_
      have xl := small x (by simp)
      have yl := small y (by simp)
      refine ⟨_, rfl, p, _, _, _, rfl, rfl, SqL.of g1, (show atI _ ((0 : Nat) : Int) = _ from atI_nat rfl), (by show 4 ≤ sizeLine; decide), fun l hl => ?_⟩
      have s2 := same_new (o := .lst [V.str "pour", V.str "put", V.str "draw", V.str "change"]) hl
      refine ⟨l, _, rfl, .inl (SqL.of upd_same), rfl, rfl, _, rfl, ?_⟩
      have g2 := s2 _ _ g1
      have s12 := s1.trans s2
      generalize upd H1 l (.lst [V.str "pour", V.str "put", V.str "draw", V.str "change"]) = H2 at s2 g2 s12 ⊢
      have wi := word_in w (nv x) (nv y)
      have em : isNum (tl x) = true → isNum (tl y) = true → rdP z = mkE w (nv x) (nv y) := fun ix iy => by rw [e0]; simp [rdL, ix, iy]
      rw [show (if true = true then !inV (V.str w) [V.str "pour", V.str "put", V.str "draw", V.str "change"] else inV (V.str w) [V.str "pour", V.str "put", V.str "draw", V.str "change"]) = (mkE w (nv x) (nv y)).isNone from wi]
      have nm : (mkE w (nv x) (nv y)) = none → rdP z = none := fun h => by
        rw [e0]
        simp only [rdL]
        split
        · exact h
        · rfl
      cases me : mkE w (nv x) (nv y) with
      | none => exact ifT rfl (no (nm me) _ s12)
      | some e =>
        refine ifF rfl ?_
        refine ⟨_, rfl, p, _, _, _, rfl, rfl, SqL.of g2, (show atI _ ((1 : Nat) : Int) = _ from atI_nat rfl), x, rfl, by omega, fun H3 s3 => ⟨_, rfl, ?_⟩⟩
        have g3 := s3 _ _ g2
        cases ix : isNum (tl x) with
        | false => exact ifT rfl (no (by rw [e0]; simp [rdL, ix]) _ (s12.trans s3))
        | true =>
          refine ifF rfl ?_
          refine ⟨_, rfl, p, _, _, _, rfl, rfl, SqL.of g3, (show atI _ ((2 : Nat) : Int) = _ from atI_nat rfl), y, rfl, by omega, fun H4 s4 => ⟨_, rfl, ?_⟩⟩
          have g4 := s4 _ _ g3
          have s14 := (s12.trans s3).trans s4
          cases iy : isNum (tl y) with
          | false => exact ifT rfl (no (by rw [e0]; simp [rdL, iy]) _ s14)
          | true =>
            refine ifF rfl ?_
            obtain ⟨ex, bx⟩ := nv_ok ix
            obtain ⟨ey, by_⟩ := nv_ok iy
            have em := (em ix iy).trans me
            obtain ⟨r1, r2, r3⟩ := mkE_row me
            have lx := nS_len bx
            have ly := nS_len by_
            rw [← ex] at lx
            rw [← ey] at ly
            have i1 : intText? x = some ((nv x : Nat) : Int) := by
              have := int_num (n := nv x) (by have := nS_len bx; rw [len_tl, nS_tl] at this; omega)
              rw [show Str.ofString (toString ((nv x : Nat) : Int)) = x from ex.symm] at this
              exact this
            have i2 : intText? y = some ((nv y : Nat) : Int) := by
              have := int_num (n := nv y) (by have := nS_len by_; rw [len_tl, nS_tl] at this; omega)
              rw [show Str.ofString (toString ((nv y : Nat) : Int)) = y from ey.symm] at this
              exact this
            refine ⟨_, rfl, p, _, _, _, rfl, rfl, SqL.of g4, (show atI _ ((0 : Nat) : Int) = _ from atI_nat rfl), ?_⟩
            refine ⟨_, rfl, p, _, _, _, rfl, rfl, SqL.of g4, (show atI _ ((1 : Nat) : Int) = _ from atI_nat rfl), _, _, rfl, i1, by omega, ?_⟩
            refine ⟨_, rfl, p, _, _, _, rfl, rfl, SqL.of g4, (show atI _ ((2 : Nat) : Int) = _ from atI_nat rfl), _, _, rfl, i2, by omega, (by show 3 ≤ sizeLine; decide), fun t ht => ?_⟩
            refine hq _ _ ?_ (s14.trans (same_new ht))
            rw [em]
            refine ⟨t, rfl, ?_⟩
            rw [upd_same, r1, r2, r3]
    | [], _, _, _, g1, e0 => exact iteNF (by show ¬ V.int 0 = V.int 3; intro z; cases z) (no e0 H1 s1)
    | [_], _, _, _, g1, e0 => exact iteNF (by show ¬ V.int 1 = V.int 3; intro z; cases z) (no e0 H1 s1)
    | [_, _], _, _, _, g1, e0 => exact iteNF (by show ¬ V.int 2 = V.int 3; intro z; cases z) (no e0 H1 s1)
    | _ :: _ :: _ :: _ :: r, pl, _, _, g1, e0 => exact iteNF (fun z => by injection z with z; rw [pl] at z; simp at z; omega) (no e0 H1 s1)
end
end Kp

namespace Kp
open PySem PySem.Spec PyProof.Rows L2 KpR TL
def rLenK (K : PySem.W.Frag) : List V → Hp → VK → Prop := fun xs H Q => ∃ p ys, xs = [V.ref p] ∧ (SqL K H p ys ∨ SqT K H p ys) ∧ Q (V.int (ys.length : Nat)) H
theorem cut_takeL {xs : List V} {n : Nat} : cutV xs none (some (n : Int)) = xs.take n := by
  unfold cutV
  rw [HT.sIx_nat, HT.sIx_none, List.drop_zero, Nat.sub_zero]
  by_cases h : n ≤ xs.length
  · rw [Nat.min_eq_left h]
  · rw [Nat.min_eq_right (by omega), List.take_length, List.take_of_length_le (by omega)]
def E1.two : E1 → Bool
  | .pour _ _ => true
  | .change _ _ => true
  | _ => false
def E1.nums (e : E1) : List Int := if e.two then [e.fst, e.last] else [e.fst]
theorem two_in (e : E1) : inV (.str e.word) [.str "pour", .str "change"] = e.two := by
  cases e with
  | pour _ _ => exact (by decide +kernel : inV (.str "pour") [.str "pour", .str "change"] = true)
  | put _ _ => exact (by decide +kernel : inV (.str "put") [.str "pour", .str "change"] = false)
  | draw _ _ => exact (by decide +kernel : inV (.str "draw") [.str "pour", .str "change"] = false)
  | change _ _ => exact (by decide +kernel : inV (.str "change") [.str "pour", .str "change"] = true)
theorem nums_cut (e : E1) : cutV [V.int e.fst, V.int e.last] none (some (1 + (if (if false = true then !inV (.str e.word) [.str "pour", .str "change"] else inV (.str e.word) [.str "pour", .str "change"]) = true then 1 else 0))) = vi e.nums := by
  rw [if_neg Bool.false_ne_true, two_in]
  unfold E1.nums
  cases e.two with
  | true => exact cut_takeL (n := 2)
  | false => exact cut_takeL (n := 1)
theorem bad_head {caps : List Int} {e : E1} {z : Int} {r : List Int} (h : (e.nums.filter fun z => !inJ caps.length z) = z :: r) : e.bad caps = some (.nojar z) := by
  have one : ∀ {a : Int}, ([a].filter fun z => !inJ caps.length z) = z :: r → inJ caps.length a = false ∧ a = z := fun {a} h => by
    cases ha : inJ caps.length a with
    | true => rw [List.filter_cons_of_neg (by rw [ha]; decide)] at h; cases h
    | false => rw [List.filter_cons_of_pos (by rw [ha]; rfl)] at h; injection h with h _; exact ⟨rfl, h⟩
  have two : ∀ {a b : Int}, ([a, b].filter fun z => !inJ caps.length z) = z :: r → (inJ caps.length a = false ∧ a = z) ∨ (inJ caps.length a = true ∧ inJ caps.length b = false ∧ b = z) := fun {a b} h => by
    cases ha : inJ caps.length a with
    | true =>
      rw [List.filter_cons_of_neg (by rw [ha]; decide)] at h
      exact .inr ⟨rfl, one h⟩
    | false => rw [List.filter_cons_of_pos (by rw [ha]; rfl)] at h; injection h with h _; exact .inl ⟨rfl, h⟩
  cases e with
  | put a k =>
    obtain ⟨e1, rfl⟩ := one (a := a) h
    simp only [E1.bad, e1]
    rfl
  | draw a k =>
    obtain ⟨e1, rfl⟩ := one (a := a) h
    simp only [E1.bad, e1]
    rfl
  | pour a b =>
    rcases two (a := a) (b := b) h with ⟨e1, rfl⟩ | ⟨e0, e1, rfl⟩
    · simp only [E1.bad, e1]
      rfl
    · simp only [E1.bad, e0, e1]
      rfl
  | change a b =>
    rcases two (a := a) (b := b) h with ⟨e1, rfl⟩ | ⟨e0, e1, rfl⟩
    · simp only [E1.bad, e1]
      rfl
    · simp only [E1.bad, e0, e1]
      rfl
theorem nil_in {caps : List Int} {l : List Int} (h : (l.filter fun z => !inJ caps.length z) = []) : ∀ z ∈ l, inJ caps.length z = true := fun z hz => by
  cases k : inJ caps.length z with
  | true => rfl
  | false =>
    have : z ∈ l.filter fun z => !inJ caps.length z := List.mem_filter.mpr ⟨hz, by rw [k]; rfl⟩
    rw [h] at this
    cases this
def AmK (H : Hp) (x : V) : Option Rf → Prop
  | none => x = .non
  | some (.count s n) => ∃ p, x = .ref p ∧ H p = some (.tup [.str "badcount", .int n])
  | some (.nojar j) => ∃ p, x = .ref p ∧ H p = some (.tup [.str "nojar", .int j])
  | some (.same j) => ∃ p, x = .ref p ∧ H p = some (.tup [.str "samejar", .int j])
  | some (.sizes a b) => ∃ p, x = .ref p ∧ H p = some (.tup [.str "sizes", .int a])
theorem AmK.same {H H' : Hp} {x : V} {r : Option Rf} (e : Same H H') (h : AmK H x r) : AmK H' x r := by
  cases r with
  | none => exact h
  | some r =>
    cases r <;> obtain ⟨p, rfl, k⟩ := h <;> exact ⟨p, rfl, e _ _ k⟩
section
variable {K : PySem.W.Frag} {mg : Str → Option Value}
def spLdeedamiss (T : Tx K mg) : Sp := fun vs H Q _ => ∃ (c : Addr) (v : V) (caps : List Int) (e : E1), vs = [.ref c, v] ∧ SqL K H c (vi caps) ∧ FactAt H v e ∧ 0 ≤ e.fst ∧ 0 ≤ e.last ∧ caps.length ≤ 6 ∧ ∀ (H' : Hp) (x : V), AmK H' x (e.bad caps) → Same H H' → Q x H'
end
section
variable {P : Program} {w : World} {K : PySem.W.Frag} {mg : Str → Option Value} {base : Heap}
theorem okLdeedamiss (T : Tx K mg) : FnOk P w K mg base CX0 1 T.aLdeedamiss T.dLdeedamiss ["_law_caps_here", "_law_fact_here"] (spLdeedamiss T) := by
  refine T.fLdeedamiss.ok scLdeedamiss (fun vs H Q E h => ?_) (fun cdv A outer s H vs Q E hr h => ?_)
  · obtain ⟨c, v, caps, e, rfl, _⟩ := h
    rfl
  · obtain ⟨c, v, caps, e, rfl, hS, ⟨t, rfl, ht⟩, f0, l0, l6, hq⟩ := h
    refine ⟨_, (pss_cons (ps_asg (pv 1) (pg_tup rfl (pgs_cons (pg_name (i := 2) scLdeedamiss.nd rfl (by first | exact Or.inl rfl | exact Or.inr rfl)) (pgs_cons (pg_name (i := 3) scLdeedamiss.nd rfl (by first | exact Or.inl rfl | exact Or.inr rfl)) (pgs_cons (pg_name (i := 4) scLdeedamiss.nd rfl (by first | exact Or.inl rfl | exact Or.inr rfl)) pgs_nil)))))
      (pss_cons (ps_set (i := 5) scLdeedamiss.nd rfl (by first | exact Or.inl rfl | exact Or.inr rfl) (pe_slice sl_list (pe_lst (pa_cons (pv 3) (pa_cons (pv 4) pa_nil))) po_none (po_some (pe_op op_add pe_int (pe_callTy call_int1 rfl T.nint (by decide +kernel) (pa_cons (pe_cmpR (r := rIn K false) op_in_seq (pv 2) (pe_tup (pa_cons pe_str (pa_cons pe_str pa_nil))) (by rfl)) pa_nil))))))
      (pss_cons (ps_setLc (i := 6) (own := [("_law_number", 7)]) rfl scLdeedamiss.nd rfl rfl (sw_true rfl rfl rfl (by decide +kernel)) (pi_list (pv 5)) (blkOk_by (own := [("_law_number", 7)]) (N := ["_law_caps_here", "_law_fact_here", "_law_word", "_law_here", "_law_last", "_law_numbers", "_law_bad", "_law_number"]) (sc := defScope sLdeedamiss) (by decide +kernel)) (fun _ _ _ _ _ => (pg_name (i := 7) scLdeedamiss.nd rfl (by first | exact Or.inl rfl | exact Or.inr rfl))) (fun _ _ _ _ _ => (pts_one (pt_cmpR op_ge (pv 7) (pe_callB (show CallR _ _ (rLenK K) from call_len_seq) rfl T.nlen PySem.boot_len (pa_cons (pv 0) pa_nil)) (nomark _)))) (fun _ _ _ _ _ => (pv 7)))
      (pss_cons (ps_if (pt_cmpR (op_neNil (Nat.lt_of_le_of_lt (Nat.le_add_right _ _) hr.units)) (pv 6) (pe_lst pa_nil) (nomark _)) (pss_one (ps_ret (pe_tup (pa_cons pe_str (pa_cons (pe_ix (r := rIxL K) ix_list (pv 6) pe_int (fun _ _ => rfl)) pa_nil))))) pss_nil)
      (pss_cons (ps_if (pt_cmpR op_eq (pe_callB call_len_seq rfl T.nlen PySem.boot_len (pa_cons (pv 5) pa_nil)) pe_int (nomark _)) (pss_one (ps_ret (pe_ix (r := rIxL K) ix_list (pe_lst (pa_cons (pe_tup (pa_cons pe_str (pa_cons (pv 4) pa_nil))) (pa_cons pe_non pa_nil))) (pe_callTy call_int1 rfl T.nint (by decide +kernel) (pa_cons (pe_chain op_le op_le pe_int (pv 4) (pe_op op_pow pe_int pe_int)) pa_nil)) (fun _ _ => rfl)))) pss_nil)
      (pss_cons (ps_if (pt_cmpR op_eq (pv 3) (pv 4) (nomark _)) (pss_one (ps_ret (pe_tup (pa_cons pe_str (pa_cons (pv 3) pa_nil))))) pss_nil)
      (pss_one (ps_ret (pe_ix (r := rIxL K) ix_list (pe_lst (pa_cons (pe_tup (pa_cons pe_str (pa_cons (pv 3) pa_nil))) (pa_cons pe_non pa_nil))) (pe_callTy call_int1 rfl T.nint (by decide +kernel) (pa_cons (pe_or (pe_cmpR op_eq (pv 2) pe_str (nomark _)) (pe_one (pe_cmpR op_eq (pe_ix (r := rIxL K) ix_list (pv 0) (pv 3) (fun _ _ => rfl)) (pe_ix (r := rIxL K) ix_list (pv 0) (pv 4) (fun _ _ => rfl)) (nomark _)))) pa_nil)) (fun _ _ => rfl)))))))))), ?_⟩
    have el : (vi caps).length = caps.length := List.length_map ..
    refine ⟨_, rfl, t, _, rfl, SqT.of ht, rfl, _, _, rfl, _, _, rfl, _, _, rfl, rfl, ?_⟩
    refine ⟨_, rfl, _, rfl, (by show 2 ≤ sizeLine; decide), fun l hl => ?_⟩
    have s1 := same_new (o := HO.lst [V.int e.fst, V.int e.last]) hl
    refine ⟨_, rfl, (by show 2 ≤ sizeLine; decide), fun s hs => ?_⟩
    have s2 := same_new (o := HO.tup [V.str "pour", V.str "change"]) hs
    refine ⟨s, _, rfl, .inr (SqT.of upd_same), rfl, rfl, .inr ⟨_, rfl, _, _, rfl, rfl, _, rfl, l, _, rfl, SqL.of (s2 _ _ upd_same), fun n hn => ?_⟩⟩
    rw [nums_cut]
    have s3 := (s1.trans s2).trans (same_new (o := HO.lst (vi e.nums)) hn)
    have gn : (upd (upd (upd H l (HO.lst [V.int e.fst, V.int e.last])) s (HO.tup [V.str "pour", V.str "change"])) n (HO.lst (vi e.nums))) n = some (.lst (vi e.nums)) := upd_same
    generalize (upd (upd (upd H l (HO.lst [V.int e.fst, V.int e.last])) s (HO.tup [V.str "pour", V.str "change"])) n (HO.lst (vi e.nums))) = G at s3 gn ⊢
    clear s2 s1 hs hl hn
    have pos : ∀ z ∈ e.nums, 0 ≤ z := fun z hz => by
      unfold E1.nums at hz
      split at hz
      · rcases List.mem_cons.mp hz with h | h
        · omega
        · have := List.mem_singleton.mp h
          omega
      · have := List.mem_singleton.mp hz
        omega
    refine ⟨_, rfl, n, rfl, ⟨_, SqL.of gn⟩, fun D1 hD1 => ?_⟩
    refine lc_list (K := K) (a := n) (xs := vi e.nums) (fun i H' => H' D1 = some (.lst (vi ((e.nums.take i).filter fun z => !inJ caps.length z))) ∧ Same G H') ⟨upd_same, same_new hD1⟩ (fun i H' _ h => h.2.seq (SqL.of gn)) ?_ ?_
    · rintro i y H' hi ⟨g, sm⟩
      obtain ⟨z, hz, rfl⟩ := vi_get hi
      have z0 := pos z (List.mem_of_getElem? hz)
      have e1 : (e.nums.take (i + 1)).filter (fun z => !inJ caps.length z) = (e.nums.take i).filter (fun z => !inJ caps.length z) ++ (if inJ caps.length z = true then [] else [z]) := by
        rw [List.take_add_one, hz, List.filter_append]
        cases k : inJ caps.length z <;> simp [k]
      have bl : ((e.nums.take i).filter (fun z => !inJ caps.length z)).length ≤ 8 := by
        have q1 := List.length_filter_le (fun z => !inJ caps.length z) (e.nums.take i)
        rw [List.length_take] at q1
        have q2 : e.nums.length ≤ 2 := by
          unfold E1.nums
          split <;> simp
        omega
      refine ⟨rfl, ?_⟩
      refine ⟨_, rfl, _, rfl, c, _, rfl, .inl ((s3.trans sm).seq hS), _, _, rfl, rfl, _, rfl, ifD (fun g2 => ?_) (fun g2 => ?_)⟩
      · rw [el] at g2
        have k : inJ caps.length z = false := by unfold inJ; rw [decide_eq_false (by omega : ¬ z < (caps.length : Int)), Bool.and_false]
        refine ⟨_, rfl, _, g, Nat.lt_of_lt_of_le (by rw [List.length_map]; omega : _ < 100) (by decide), ?_, same_mut sm hD1⟩
        rw [upd_same, e1, k]
        simp [vi]
      · rw [el] at g2
        have k : inJ caps.length z = true := by unfold inJ; rw [decide_eq_true z0, decide_eq_true (by omega : z < (caps.length : Int))]; rfl
        refine ⟨?_, sm⟩
        rw [g, e1, k]
        simp
    · rintro H' ⟨g, sm⟩
      have nl : (vi e.nums).length = e.nums.length := List.length_map ..
      rw [nl, List.take_length] at g
      have s4 := s3.trans sm
      refine ⟨_, rfl, (by show 0 ≤ sizeLine; decide), fun e0 he0 => ?_⟩
      have s5 : Same H' (upd H' e0 (.lst [])) := same_new he0
      have g5 := s5 _ _ g
      have n5 := s5 _ _ (sm _ _ gn)
      have s45 := s4.trans s5
      refine ⟨D1, e0, _, rfl, rfl, g5, upd_same, _, rfl, ?_⟩
      generalize upd H' e0 (.lst []) = H5 at s5 g5 n5 s45 ⊢
      cases hb : e.nums.filter (fun z => !inJ caps.length z) with
      | cons z r =>
        rw [hb] at g5
        refine ifT rfl ⟨_, rfl, D1, _, _, _, rfl, rfl, SqL.of g5, vi_at (i := 0) (by simp), (by show 2 ≤ sizeLine; decide), fun p hp => ?_⟩
        refine hq _ _ ?_ (s45.trans (same_new hp))
        rw [bad_head hb]
        exact ⟨p, rfl, upd_same⟩
      | nil =>
        have allIn := nil_in hb
        refine ifF rfl ?_
        refine ⟨_, rfl, n, _, rfl, .inl (SqL.of n5), rfl, _, rfl, ?_⟩
        have e12 : (10 : Int) ^ (12 : Int).toNat = 1000000000000 := by decide
        cases tw : e.two with
        | false =>
          have n1 : e.nums.length = 1 := by unfold E1.nums; rw [tw]; rfl
          have iF : inJ caps.length e.fst = true := allIn _ (by unfold E1.nums; rw [tw]; simp)
          have eb : e.bad caps = if okN e.last = true then none else some (.count "much" e.last) := by
            cases e with
            | put a k => simp only [E1.bad, E1.fst, E1.last] at iF ⊢; rw [iF]; rfl
            | draw a k => simp only [E1.bad, E1.fst, E1.last] at iF ⊢; rw [iF]; rfl
            | pour a b => cases tw
            | change a b => cases tw
          refine ifT (by rw [nl, n1]; rfl) ?_
          generalize e.last = k at eb ⊢
          refine ⟨_, rfl, (by show 2 ≤ sizeLine; decide), fun t1 ht1 => ⟨(by show 2 ≤ sizeLine; decide), fun l2 hl2 => ?_⟩⟩
          have s6 := same_new (o := .tup [V.str "badcount", V.int k]) ht1
          have s7 := same_new (o := .lst [V.ref t1, V.non]) hl2
          have s67 := s45.trans (s6.trans s7)
          refine ⟨_, rfl, _, _, rfl, rfl, _, rfl, ?_⟩
          have bad : okN k = false → Q (.ref t1) (upd (upd H5 t1 (.tup [V.str "badcount", V.int k])) l2 (.lst [V.ref t1, V.non])) := fun ok => hq _ _ (by rw [eb, ok]; exact ⟨t1, rfl, s7 _ _ upd_same⟩) s67
          have good : okN k = true → Q .non (upd (upd H5 t1 (.tup [V.str "badcount", V.int k])) l2 (.lst [V.ref t1, V.non])) := fun ok => hq _ _ (by rw [eb, ok]; rfl) s67
          by_cases k1 : 1 ≤ k
          · refine ifT (decide_eq_true k1) ?_
            refine ⟨_, _, rfl, rfl, ⟨by decide, by decide, by decide⟩, _, _, rfl, rfl, .inr ⟨_, rfl, ?_⟩⟩
            by_cases k2 : k ≤ (10 : Int) ^ (12 : Int).toNat
            · rw [decide_eq_true k2]
              refine ⟨l2, _, _, _, rfl, rfl, SqL.of upd_same, (show atI _ ((1 : Nat) : Int) = _ from atI_nat rfl), good ?_⟩
              unfold okN
              rw [decide_eq_true k1, decide_eq_true (by rw [e12] at k2; exact k2)]
              rfl
            · rw [decide_eq_false k2]
              refine ⟨l2, _, _, _, rfl, rfl, SqL.of upd_same, (show atI _ ((0 : Nat) : Int) = _ from atI_nat rfl), bad ?_⟩
              unfold okN
              rw [decide_eq_true k1, decide_eq_false (show ¬ k ≤ 1000000000000 by rw [e12] at k2; exact k2)]
              rfl
          · refine ifF (decide_eq_false k1) ?_
            refine .inr ⟨_, rfl, l2, _, _, _, rfl, rfl, SqL.of upd_same, (show atI _ ((0 : Nat) : Int) = _ from atI_nat rfl), bad ?_⟩
            unfold okN
            rw [decide_eq_false k1]
            rfl
        | true =>
          have n2 : e.nums.length = 2 := by unfold E1.nums; rw [tw]; rfl
          have iF : inJ caps.length e.fst = true := allIn _ (by unfold E1.nums; rw [tw]; simp)
          have iL : inJ caps.length e.last = true := allIn _ (by unfold E1.nums; rw [tw]; simp)
          refine ifF (by rw [nl, n2]; rfl) ?_
          refine ⟨_, rfl, _, rfl, rfl, _, rfl, ifD (fun same => ?_) (fun same => ?_)⟩
          · have same : e.fst = e.last := by injection same
            refine ⟨_, rfl, (by show 2 ≤ sizeLine; decide), fun p hp => hq _ _ ?_ (s45.trans (same_new hp))⟩
            have eb : e.bad caps = some (.same e.fst) := by
              cases e with
              | put a k => cases tw
              | draw a k => cases tw
              | pour a b => simp only [E1.bad, E1.fst, E1.last] at iF iL same ⊢; rw [iF, iL, if_pos rfl, if_pos rfl, if_pos same]
              | change a b => simp only [E1.bad, E1.fst, E1.last] at iF iL same ⊢; rw [iF, iL, if_pos rfl, if_pos rfl, if_pos same]
            rw [eb]
            exact ⟨p, rfl, upd_same⟩
          · have ns : ¬ e.fst = e.last := fun z => same (congrArg V.int z)
            refine ⟨_, rfl, (by show 2 ≤ sizeLine; decide), fun t1 ht1 => ⟨(by show 2 ≤ sizeLine; decide), fun l2 hl2 => ?_⟩⟩
            have s6 := same_new (o := .tup [V.str "sizes", V.int e.fst]) ht1
            have s7 := same_new (o := .lst [V.ref t1, V.non]) hl2
            have s67 := s45.trans (s6.trans s7)
            have g7 : (upd (upd H5 t1 (.tup [V.str "sizes", V.int e.fst])) l2 (.lst [V.ref t1, V.non])) t1 = some (.tup [V.str "sizes", V.int e.fst]) := s7 _ _ upd_same
            have gl : (upd (upd H5 t1 (.tup [V.str "sizes", V.int e.fst])) l2 (.lst [V.ref t1, V.non])) l2 = some (.lst [V.ref t1, V.non]) := upd_same
            generalize upd (upd H5 t1 (.tup [V.str "sizes", V.int e.fst])) l2 (.lst [V.ref t1, V.non]) = H7 at s67 g7 gl ⊢
            refine ⟨_, rfl, rfl, _, rfl, ?_⟩
            cases e with
            | put a k => cases tw
            | draw a k => cases tw
            | pour a b =>
              refine ifT (show decide (V.str "pour" = V.str "pour") = true by decide +kernel) ?_
              refine .inr ⟨_, rfl, l2, _, _, _, rfl, rfl, SqL.of gl, (show atI _ ((1 : Nat) : Int) = _ from atI_nat rfl), hq _ _ ?_ s67⟩
              simp only [E1.bad, E1.fst, E1.last] at iF iL ns ⊢
              rw [iF, iL, if_pos rfl, if_pos rfl, if_neg ns]
              rfl
            | change a b =>
              refine ifF (show decide (V.str "change" = V.str "pour") = false by decide +kernel) ?_
              simp only [E1.fst, E1.last] at iF iL ns g7
              obtain ⟨na, rfl, la⟩ := inJ_nat iF
              obtain ⟨nb, rfl, lb⟩ := inJ_nat iL
              refine ⟨_, rfl, _, rfl, c, _, _, _, rfl, rfl, s67.seq hS, vi_at la, _, rfl, _, rfl, c, _, _, _, rfl, rfl, s67.seq hS, vi_at lb, rfl, .inr ⟨_, rfl, ?_⟩⟩
              by_cases s : caps.getD na 0 = caps.getD nb 0
              · rw [decide_eq_true (congrArg V.int s)]
                refine ⟨l2, _, _, _, rfl, rfl, SqL.of gl, (show atI _ ((1 : Nat) : Int) = _ from atI_nat rfl), hq _ _ ?_ s67⟩
                simp only [E1.bad, iF, iL, if_pos, if_neg ns, Int.toNat_natCast, if_pos s]
                rfl
              · rw [decide_eq_false fun z => s (by injection z)]
                refine ⟨l2, _, _, _, rfl, rfl, SqL.of gl, (show atI _ ((0 : Nat) : Int) = _ from atI_nat rfl), hq _ _ ?_ s67⟩
                simp only [E1.bad, iF, iL, if_pos, if_neg ns, Int.toNat_natCast, if_neg s]
                exact ⟨t1, rfl, g7⟩
end
end Kp

namespace Kp
open PySem PySem.Spec PyProof.Rows L2 KpR TL
theorem hu65 {A : Around} {k : Nat} (hr : Room k A) : A.units + 65 < cLine := by have := hr.un; omega
def factP (e : E1) : PyData := .tuple [.str e.word, .int e.fst, .int e.last]
theorem factP_flat (e : E1) : Flat 1 (factP e) := by
  refine Flat.tup (f := id) (l := [.str e.word, .int e.fst, .int e.last]) fun x hx => ?_
  rcases List.mem_cons.mp hx with rfl | hx
  · cases e with
    | pour _ _ => exact Flat.str (by decide +kernel : (PyData.str "pour").canLay0 = true)
    | put _ _ => exact Flat.str (by decide +kernel : (PyData.str "put").canLay0 = true)
    | draw _ _ => exact Flat.str (by decide +kernel : (PyData.str "draw").canLay0 = true)
    | change _ _ => exact Flat.str (by decide +kernel : (PyData.str "change").canLay0 = true)
  · rcases List.mem_cons.mp hx with rfl | hx
    · exact Flat.int
    · rcases List.mem_cons.mp hx with rfl | hx
      · exact Flat.int
      · cases hx
def optP : Option E1 → PyData
  | none => .none
  | some e => factP e
theorem optP_flat (o : Option E1) : Flat 1 (optP o) := by
  cases o with
  | none => exact Flat.non
  | some e => exact factP_flat e
theorem optP_none (o : Option E1) : PyData.eqv (optP o) .none = o.isNone := by
  cases o with
  | none => simp [optP, PyData.eqv]
  | some e => simp [optP, factP, PyData.eqv]
theorem rdP_pos {z : Str} {e : E1} (h : rdP z = some e) : 0 ≤ e.fst ∧ 0 ≤ e.last := by
  unfold rdP at h
  unfold rdL at h
  split at h
  · split at h
    · obtain ⟨_, r2, r3⟩ := mkE_row h
      exact ⟨by rw [r2]; omega, by rw [r3]; omega⟩
    · cases h
  · cases h
theorem any_bad (ps : List Str) : ((ps.map rdP).map optP).any (fun z => PyData.eqv z .none) = (badAt ps).isSome := by
  unfold badAt
  rw [List.findIdx?_isSome, List.any_map, List.any_map]
  congr 1
  funext p
  exact optP_none _
theorem bad_first {ps : List Str} {i : Nat} (h : badAt ps = some i) : ∃ z, ((ps.map rdP).map optP)[i]? = some z ∧ PyData.eqv z .none = true ∧ ∀ (m : Nat) (z' : PyData), m < i → ((ps.map rdP).map optP)[m]? = some z' → PyData.eqv z' .none = false := by
  unfold badAt at h
  rw [List.findIdx?_eq_some_iff_getElem] at h
  obtain ⟨lt, h1, h2⟩ := h
  refine ⟨optP (rdP ps[i]), ?_, by rw [optP_none]; exact h1, fun m z' hm hz => ?_⟩
  · rw [List.getElem?_map, List.getElem?_map, List.getElem?_eq_getElem lt]
    rfl
  · rw [List.getElem?_map, List.getElem?_map, List.getElem?_eq_getElem (by omega)] at hz
    have e : optP (rdP ps[m]) = z' := Option.some.inj hz
    rw [← e, optP_none]
    have := h2 m hm
    cases q : rdP ps[m] with
    | none => rw [q] at this; exact absurd rfl this
    | some e => rfl
theorem opt_facts {H : Hp} : ∀ {ts : List V} {ps : List Str}, A2 (OptAt H) ts (ps.map rdP) → (∀ p ∈ ps, (rdP p).isSome = true) → A2 (FactAt H) ts (deedsOf ps)
  | [], [], _, _ => trivial
  | [], _ :: _, h, _ => h.elim
  | _ :: _, [], h, _ => h.elim
  | t :: ts, p :: ps, h, k => by
    obtain ⟨h1, h2⟩ := h
    have kp := k p (List.mem_cons_self ..)
    have r := opt_facts h2 fun q hq => k q (List.mem_cons_of_mem _ hq)
    cases e : rdP p with
    | none => rw [e] at kp; cases kp
    | some d =>
      rw [e] at h1
      have ed : deedsOf (p :: ps) = d :: deedsOf ps := by unfold deedsOf; rw [List.filterMap_cons, e]
      rw [ed]
      exact ⟨h1, r⟩
/-- how a text is answered, or its deeds as tuples -/
def DueAt (H : Hp) (x : V) : Res → Prop
  | .txt i => ∃ p, x = .ref p ∧ H p = some (.tup [.str "badtext", .int i])
  | .bad r => AmK H x (some r)
  | .ok ds => ∃ p f ts, x = .ref p ∧ H p = some (.tup [.str "told", .ref f]) ∧ H f = some (.lst ts) ∧ A2 (FactAt H) ts ds
section
variable {K : PySem.W.Frag} {mg : Str → Option Value}
theorem dp_fact {H : Hp} {t : V} {e : E1} (h : FactAt H t e) : Dp K H t (factP e) := by
  obtain ⟨t, rfl, h⟩ := h
  exact .tup (SqT.of h) (.cons (.str _) (.cons (.int _) (.cons (.int _) .nil)))
theorem dp_opt {H : Hp} {t : V} {o : Option E1} (h : OptAt H t o) : Dp K H t (optP o) := by
  cases o with
  | none =>
    have h : t = .non := h
    subst h
    exact .non
  | some e => exact dp_fact h
def spLdue (T : Tx K mg) : Sp := fun vs H Q _ => ∃ (c : Addr) (caps : List Int) (z : Str), vs = [.ref c, .str z] ∧ SqL K H c (vi caps) ∧ caps.length ≤ 6 ∧ z.length ≤ 1000000 ∧ ∀ (H' : Hp) (x : V), DueAt H' x (txtRes caps z) → Same H H' → Q x H'
end
section
variable {P : Program} {w : World} {K : PySem.W.Frag} {mg : Str → Option Value} {base : Heap}
theorem okLdue (T : Tx K mg) : FnOk P w K mg base CX0 3 T.aLdue T.dLdue ["_law_caps_here", "_law_text_so"] (spLdue T) := by
  refine T.fLdue.ok scLdue (fun vs H Q E h => ?_) (fun cdv A outer s H vs Q E hr h => ?_)
  · obtain ⟨c, caps, z, rfl, _⟩ := h
    rfl
  · obtain ⟨c, caps, z, rfl, hc, l6, hz, hq⟩ := h
    refine ⟨_, (pss_cons (ps_if (pt_cmpR op_eq (pv 1) pe_str (nomark _)) (pss_one (ps_ret (pe_tup (pa_cons pe_str (pa_cons (pe_lst pa_nil) pa_nil))))) pss_nil)
      (pss_cons (ps_setLc (i := 2) (own := [("_law_one", 3)]) rfl scLdue.nd rfl rfl (sw_true rfl rfl rfl (by decide +kernel)) (pi_list (pe_split (pv 1) pe_str)) (blkOk_by (own := [("_law_one", 3)]) (N := ["_law_caps_here", "_law_text_so", "_law_facts_here", "_law_one", "_law_bad", "_law_fact_here"]) (sc := defScope sLdue) (by decide +kernel)) (fun _ _ _ _ _ => (pg_name (i := 3) scLdue.nd rfl (by first | exact Or.inl rfl | exact Or.inr rfl))) (fun _ _ _ _ _ => pts_nil) (fun _ _ _ _ _ => (pe_call (okLfact T) (hr.mono (by decide)) rfl T.gLfact T.fLfact.kp T.bLfact .nil pass0 (pa_cons (pv 3) pa_nil))))
      (pss_cons (ps_if (pt_cmpR (op_inD (hu65 hr)) pe_non (pv 2) (by rfl)) (pss_one (ps_ret (pe_tup (pa_cons pe_str (pa_cons (pe_bm PySem.F.plainAttrs_list PySem.F.slot_list_index PySem.F.type_list_index (mt_indexD (hu65 hr)) (pv 2) (pa_cons pe_non pa_nil)) pa_nil))))) pss_nil)
      (pss_cons (ps_if (pt_cmpR op_gt (pe_callB call_len_seq rfl T.nlen PySem.boot_len (pa_cons (pv 2) pa_nil)) pe_int (nomark _)) (pss_one (ps_ret (pe_tup (pa_cons pe_str (pa_cons (pe_callB call_len_seq rfl T.nlen PySem.boot_len (pa_cons (pv 2) pa_nil)) pa_nil))))) pss_nil)
      (pss_cons (ps_setLc (i := 4) (own := [("_law_fact_here", 5)]) rfl scLdue.nd rfl rfl (sw_true rfl rfl rfl (by decide +kernel)) (pi_list (pv 2)) (blkOk_by (own := [("_law_fact_here", 5)]) (N := ["_law_caps_here", "_law_text_so", "_law_facts_here", "_law_one", "_law_bad", "_law_fact_here"]) (sc := defScope sLdue) (by decide +kernel)) (fun _ _ _ _ _ => (pg_name (i := 5) scLdue.nd rfl (by first | exact Or.inl rfl | exact Or.inr rfl))) (fun _ _ _ _ _ => (pts_one (pt_cmpR op_notN (pe_call (okLdeedamiss T) (hr.mono (by decide)) rfl T.gLdeedamiss T.fLdeedamiss.kp T.bLdeedamiss .nil pass0 (pa_cons (pv 0) (pa_cons (pv 5) pa_nil))) pe_non (nomark _)))) (fun _ _ _ _ _ => (pv 5)))
      (pss_cons (ps_if (pt_cmpR (op_neNil (Nat.lt_of_le_of_lt (Nat.le_add_right _ _) hr.units)) (pv 4) (pe_lst pa_nil) (nomark _)) (pss_one (ps_ret (pe_call (okLdeedamiss T) (hr.mono (by decide)) rfl T.gLdeedamiss T.fLdeedamiss.kp T.bLdeedamiss .nil pass0 (pa_cons (pv 0) (pa_cons (pe_ix (r := rIxL K) ix_list (pv 4) pe_int (fun _ _ => rfl)) pa_nil))))) pss_nil)
      (pss_one (ps_ret (pe_tup (pa_cons pe_str (pa_cons (pv 2) pa_nil))))))))))), ?_⟩
    by_cases z0 : z = none_
    · refine ⟨_, rfl, rfl, _, rfl, ifT (decide_eq_true (by rw [z0]; rfl)) ⟨(by show 0 ≤ sizeLine; decide), fun f hf => ⟨(by show 2 ≤ sizeLine; decide), fun p hp => ?_⟩⟩⟩
      have s2 := same_new (o := .tup [V.str "told", V.ref f]) hp
      refine hq _ _ ?_ ((same_new hf).trans s2)
      unfold txtRes
      rw [if_pos z0]
      exact ⟨p, f, [], rfl, upd_same, s2 _ _ upd_same, trivial⟩
    refine ⟨_, rfl, rfl, _, rfl, ifF (decide_eq_false fun e => z0 (by injection e)) ?_⟩
    obtain ⟨len, small⟩ := split_cma z
    have er : txtRes caps z = match badAt (Txt.split z cma) with
        | some i => .txt i
        | none => rowRes caps (deedsOf (Txt.split z cma)) := by unfold txtRes; rw [if_neg z0] <;> rfl
    refine ⟨_, rfl, ⟨_, rfl⟩, _, _, rfl, rfl, by decide +kernel, Nat.le_trans (by omega : _ ≤ 1000002) (by decide), fun p hp => ?_⟩
    show _
    generalize hG : upd H p _ = H1
    have s1 : Same H H1 := by rw [← hG]; exact same_new hp
    have g1 : H1 p = some (.lst ((Txt.split z cma).map V.str)) := by rw [← hG]; exact upd_same
    clear hG
    generalize Txt.split z cma = ps at len small g1 er
    have pl : (ps.map V.str).length = ps.length := List.length_map ..
    refine ⟨p, rfl, ⟨_, SqL.of g1⟩, fun f hf => ?_⟩
    refine lc_list (K := K) (a := p) (xs := ps.map V.str) (fun i H' => ∃ ts, H' f = some (.lst ts) ∧ A2 (OptAt H') ts ((ps.take i).map rdP) ∧ Same H1 H') ⟨[], upd_same, by simp [A2], same_new hf⟩ (fun i H' _ ⟨_, _, _, e⟩ => SqL.of (e _ _ g1)) ?_ ?_
    · rintro i y H' hi ⟨ts, k1, k2, sm⟩
      rw [List.getElem?_map] at hi
      obtain ⟨x, hx, rfl⟩ := Option.map_eq_some_iff.mp hi
      have xl := small x (List.mem_of_getElem? hx)
      have tl := k2.len
      rw [List.length_map, List.length_take] at tl
      refine ⟨rfl, _, rfl, x, rfl, by omega, fun H2 v hv s2 => ⟨ts, s2 _ _ k1, Nat.lt_of_lt_of_le (by omega : ts.length < 1000002) (by decide), ts ++ [v], upd_same, ?_, same_mut (sm.trans s2) hf⟩⟩
      have mu : Fr f H2 (upd H2 f (.lst (ts ++ [v]))) := fr_mut (Fr.refl _ _)
      have up : ∀ {u : V} {o : Option E1}, OptAt H2 u o → OptAt (upd H2 f (.lst (ts ++ [v]))) u o := fun {u o} h => by
        cases o with
        | none => exact h
        | some e => exact FactAt.fr mu (s2 _ _ k1) bl_l h
      rw [List.take_add_one, hx, List.map_append]
      exact A2.app (A2.mono (fun _ _ k => up (k.same s2)) k2) ⟨up hv, trivial⟩
    rintro H2 ⟨ts, k1, k2, sm⟩
    rw [pl, List.take_length] at k2
    have tl := k2.len
    rw [List.length_map] at tl
    have s2 := s1.trans sm
    have shp : SeqAt.shaped (.list ((ps.map rdP).map optP)) = true := Flat.sh (n := 2) (Flat.list fun _ _ => optP_flat _) (by decide)
    have dpl : Dp K H2 (.ref f) (.list ((ps.map rdP).map optP)) := .lst (SqL.of k1) (dp_map (fun _ _ h => dp_opt h) k2)
    refine ⟨_, rfl, .none, _, .non, dpl, Flat.sh (n := 0) Flat.non (by decide), shp, _, rfl, ?_⟩
    rw [any_bad]
    cases hb : badAt ps with
    | some i =>
      obtain ⟨z1, q1, q2, q3⟩ := bad_first hb
      refine ifT rfl ⟨_, rfl, .inl ⟨rfl, _, SqL.of k1⟩, f, .non, .none, _, i, z1, rfl, rfl, dpl, .non, shp, Flat.sh (n := 0) Flat.non (by decide), q1, q2, q3, (by show 2 ≤ sizeLine; decide), fun t ht => ?_⟩
      refine hq _ _ ?_ (s2.trans (same_new ht))
      rw [er, hb]
      exact ⟨t, rfl, upd_same⟩
    | none =>
      rw [hb] at er
      have er : txtRes caps z = rowRes caps (deedsOf ps) := er
      have good := bad_good hb
      have hA := opt_facts k2 good
      have pos : ∀ d ∈ deedsOf ps, 0 ≤ d.fst ∧ 0 ≤ d.last := fun d hd => by
        obtain ⟨x, _, hx⟩ := List.mem_filterMap.mp hd
        exact rdP_pos hx
      generalize deedsOf ps = ds at er hA pos
      have el := hA.len
      refine ifF rfl ?_
      refine ⟨_, rfl, f, _, rfl, .inl (SqL.of k1), _, _, rfl, rfl, _, rfl, ifD (fun g => ?_) fun g => ?_⟩
      · refine ⟨_, rfl, f, _, rfl, .inl (SqL.of k1), (by show 2 ≤ sizeLine; decide), fun t ht => ?_⟩
        refine hq _ _ ?_ (s2.trans (same_new ht))
        rw [er]
        unfold rowRes rowBad
        rw [if_pos (by rw [← el]; omega)]
        refine ⟨t, rfl, ?_⟩
        rw [upd_same, el]
      have er : txtRes caps z = match firstBad caps ds with
          | some r => .bad r
          | none => .ok ds := by
        rw [er]
        unfold rowRes rowBad
        rw [if_neg (by rw [← el]; omega)] <;> rfl
      have l20 : ds.length ≤ 20 := by omega
      refine ⟨_, rfl, f, rfl, ⟨_, SqL.of k1⟩, fun D1 hD1 => ?_⟩
      refine lc_list (K := K) (a := f) (xs := ts) (fun i H' => (∃ ws, H' D1 = some (.lst ws) ∧ A2 (FactAt H') ws ((ds.take i).filter fun d => (d.bad caps).isSome)) ∧ Same H2 H') ⟨⟨[], upd_same, by simp [A2]⟩, same_new hD1⟩ (fun i H' _ h => SqL.of (h.2 _ _ k1)) ?_ ?_
      · rintro i y H' hi ⟨⟨ws, g1, g2⟩, sm⟩
        obtain ⟨d, hd, hy⟩ := hA.get hi
        obtain ⟨p1, p2⟩ := pos d (List.mem_of_getElem? hd)
        have e1 : (ds.take (i + 1)).filter (fun d => (d.bad caps).isSome) = (ds.take i).filter (fun d => (d.bad caps).isSome) ++ (if (d.bad caps).isSome = true then [d] else []) := by
          rw [List.take_add_one, hd, List.filter_append]
          cases k : (d.bad caps).isSome <;> simp [k]
        have bl : ws.length < 100 := by
          have q1 := List.length_filter_le (fun d : E1 => (d.bad caps).isSome) (ds.take i)
          rw [List.length_take] at q1
          rw [g2.len]
          omega
        refine ⟨rfl, _, rfl, _, rfl, c, y, caps, d, rfl, (s2.trans sm).seq hc, hy.same sm, p1, p2, l6, fun H3 x hx s3 => ?_⟩
        have hy2 := (hy.same sm).same s3
        have g3 := A2.mono (fun _ _ q => FactAt.same s3 q) g2
        cases hb2 : d.bad caps with
        | none =>
          rw [hb2] at hx
          cases hx
          refine ⟨rfl, _, rfl, ifF rfl ⟨⟨ws, s3 _ _ g1, ?_⟩, sm.trans s3⟩⟩
          rw [e1, hb2]
          simpa using g3
        | some r =>
          rw [hb2] at hx
          obtain ⟨q, rfl⟩ : ∃ q, x = .ref q := by cases r <;> obtain ⟨p, rfl, _⟩ := hx <;> exact ⟨p, rfl⟩
          refine ⟨rfl, _, rfl, ifT rfl ⟨_, rfl, ws, s3 _ _ g1, Nat.lt_of_lt_of_le bl (by decide), ⟨⟨_, upd_same, ?_⟩, ?_⟩⟩⟩
          · rw [e1, hb2]
            have mu : Fr D1 H3 (upd H3 D1 (.lst (ws ++ [y]))) := fr_mut (Fr.refl _ _)
            exact A2.app (A2.mono (fun _ _ q => FactAt.fr mu (s3 _ _ g1) bl_l q) g3) ⟨FactAt.fr mu (s3 _ _ g1) bl_l hy2, trivial⟩
          · exact same_mut (sm.trans s3) hD1
      · rintro H' ⟨⟨ws, g1, g2⟩, sm⟩
        rw [el, List.take_length] at g2
        refine ⟨_, rfl, (by show 0 ≤ sizeLine; decide), fun e0 he0 => ?_⟩
        have s5 : Same H' (upd H' e0 (.lst [])) := same_new he0
        have g5 := A2.mono (fun _ _ q => FactAt.same s5 q) g2
        refine ⟨D1, e0, _, rfl, rfl, s5 _ _ g1, upd_same, _, rfl, ?_⟩
        have s6 := (s2.trans sm).trans s5
        have g6 := s5 _ _ g1
        have k6 := s5 _ _ (sm _ _ k1)
        have A6 := A2.mono (fun _ _ q => FactAt.same s5 (FactAt.same sm q)) hA
        generalize upd H' e0 (.lst []) = G1 at g5 g6 k6 A6 s6 ⊢
        cases hb2 : ds.filter (fun d => (d.bad caps).isSome) with
        | nil =>
          rw [hb2] at g5
          have wn : ws = [] := List.eq_nil_of_length_eq_zero g5.len
          subst wn
          refine ifF rfl ⟨_, rfl, (by show 2 ≤ sizeLine; decide), fun t ht => ?_⟩
          have s7 := same_new (o := .tup [V.str "told", V.ref f]) ht
          refine hq _ _ ?_ (s6.trans s7)
          rw [er, firstBad_none hb2]
          exact ⟨t, f, ts, rfl, upd_same, s7 _ _ k6, A2.mono (fun _ _ q => FactAt.same s7 q) A6⟩
        | cons d0 r =>
          rw [hb2] at g5
          obtain ⟨e1, x0, e2⟩ := firstBad_some hb2
          have d0m : d0 ∈ ds := (List.mem_filter.mp (by rw [hb2]; exact List.mem_cons_self .. : d0 ∈ ds.filter fun d => (d.bad caps).isSome)).1
          obtain ⟨p1, p2⟩ := pos d0 d0m
          match ws, g5, g6 with
          | [], g5, _ => exact g5.elim
          | y :: ws', g5, g6 =>
            refine ifT rfl ⟨_, rfl, _, rfl, D1, _, _, _, rfl, rfl, SqL.of g6, atI_nat (j := 0) (show (y :: ws')[0]? = some y from rfl), c, y, caps, d0, rfl, s6.seq hc, g5.1, p1, p2, l6, fun H3 x hx s3 => hq _ _ ?_ (s6.trans s3)⟩
            rw [er, e1, e2]
            rw [e2] at hx
            exact hx
end
end Kp

namespace Kp
open PySem PySem.Spec PyProof.Rows L2 KpR TL
def OutR {K : PySem.W.Frag} {mg : Str → Option Value} (T : Tx K mg) (caps : List Int) (H : Hp) (x : V) : Res → Prop
  | .txt i => ∃ p, x = .ref p ∧ H p = some (.tup [.str "badtext", .int i])
  | .bad r => AmK H x (some r)
  | .ok ds => ∃ p r, x = .ref p ∧ H p = some (.tup [.str "told", .ref r]) ∧ RowAt T H r caps ds
section
variable {K : PySem.W.Frag} {mg : Str → Option Value}
theorem OutR.same {T : Tx K mg} {caps : List Int} {H H' : Hp} {x : V} {r : Res} (h : OutR T caps H x r) (e : Same H H') : OutR T caps H' x r := by
  cases r with
  | txt i =>
    obtain ⟨p, rfl, h⟩ := h
    exact ⟨p, rfl, e _ _ h⟩
  | bad r => exact AmK.same (r := some r) e h
  | ok ds =>
    obtain ⟨p, r, rfl, h1, h2⟩ := h
    exact ⟨p, r, rfl, e _ _ h1, h2.same e⟩
def spLsaid (T : Tx K mg) : Sp := fun vs H Q _ => ∃ (c : Addr) (caps : List Int) (z : Str), vs = [.ref c, .str z] ∧ H c = some (.lst (vi caps)) ∧ Caps caps ∧ z.length ≤ 1000000 ∧ ∀ (H' : Hp) (x : V), OutR T caps H' x (txtRes caps z) → Same H H' → Q x H'
def saidL (K : PySem.W.Frag) {mg : Str → Option Value} (T : Tx K mg) : List (Value × Nat × (Addr → Value → Option Addr → TS)) :=
  [(.ref T.cBadText, 2, fun a cls d => tRet (tTup (tCons (tC (.str "badtext")) (tCons (tXf a cls d T.cBadText "place" (tVar 2)) tNil)))),
   (.ref T.cBadCount, 2, fun a cls d => tRet (tTup (tCons (tC (.str "badcount")) (tCons (tXf a cls d T.cBadCount "count" (tVar 2)) tNil)))),
   (.ref T.cNoJar, 2, fun a cls d => tRet (tTup (tCons (tC (.str "nojar")) (tCons (tXf a cls d T.cNoJar "jar" (tVar 2)) tNil)))),
   (.ref T.cSameJar, 2, fun a cls d => tRet (tTup (tCons (tC (.str "samejar")) (tCons (tXf a cls d T.cSameJar "jar" (tVar 2)) tNil)))),
   (.ref T.cSizes, 2, fun a cls d => tRet (tTup (tCons (tC (.str "sizes")) (tCons (tXf a cls d T.cSizes "a" (tVar 2)) tNil))))]
theorem said_txt {T : Tx K mg} {G : Hp} {Q : VK} {caps : List Int} (D : Ends) (i : Nat) (hD : D.rt = Q) (hq : ∀ (H' : Hp) (x : V), OutR T caps H' x (.txt i) → Same G H' → Q x H') : tE T G (anyL 3 (wNam K (fun _ _ _ _ => False) D (saidL K T))) i := by
  subst hD
  intro H' d hd sm σ hl
  obtain ⟨v0, v1, v2, rfl⟩ : ∃ v0 v1 v2, σ = [v0, v1, v2] := match σ, hl with
    | [v0, v1, v2], _ => ⟨v0, v1, v2, rfl⟩
  refine ⟨true, T.emBadText_BadText, fun _ a ha => ?_, fun z => by cases z⟩
  refine ⟨_, rfl, rfl, rfl, d, _, _, rfl, hd, lk1, (by show 2 ≤ sizeLine; decide), fun p hp => ?_⟩
  exact hq _ _ ⟨p, rfl, upd_same⟩ (sm.trans (same_new hp))
theorem said_bad {T : Tx K mg} {G : Hp} {Q : VK} {caps : List Int} (D : Ends) (r : Rf) (hD : D.rt = Q) (hq : ∀ (H' : Hp) (x : V), OutR T caps H' x (.bad r) → Same G H' → Q x H') : rE T G (anyL 3 (wNam K (fun _ _ _ _ => False) D (saidL K T))) r := by
  subst hD
  intro H' d hd sm σ hl
  obtain ⟨v0, v1, v2, rfl⟩ : ∃ v0 v1 v2, σ = [v0, v1, v2] := match σ, hl with
    | [v0, v1, v2], _ => ⟨v0, v1, v2, rfl⟩
  have no : ∀ {A : Prop}, false = true → A := fun z => by cases z
  have no' : ∀ {A : Prop}, true = false → A := fun z => by cases z
  cases r with
  | count x n =>
    refine ⟨false, T.emBadCount_BadText, no, fun _ => ⟨true, T.emBadCount_BadCount, fun _ a ha => ?_, no'⟩⟩
    refine ⟨_, rfl, rfl, rfl, d, _, _, rfl, hd, lk1, (by show 2 ≤ sizeLine; decide), fun p hp => ?_⟩
    exact hq _ _ ⟨p, rfl, upd_same⟩ (sm.trans (same_new hp))
  | nojar j =>
    refine ⟨false, T.emNoJar_BadText, no, fun _ => ⟨false, T.emNoJar_BadCount, no, fun _ => ⟨true, T.emNoJar_NoJar, fun _ a ha => ?_, no'⟩⟩⟩
    refine ⟨_, rfl, rfl, rfl, d, _, _, rfl, hd, lk1, (by show 2 ≤ sizeLine; decide), fun p hp => ?_⟩
    exact hq _ _ ⟨p, rfl, upd_same⟩ (sm.trans (same_new hp))
  | same j =>
    refine ⟨false, T.emSameJar_BadText, no, fun _ => ⟨false, T.emSameJar_BadCount, no, fun _ => ⟨false, T.emSameJar_NoJar, no, fun _ => ⟨true, T.emSameJar_SameJar, fun _ a ha => ?_, no'⟩⟩⟩⟩
    refine ⟨_, rfl, rfl, rfl, d, _, _, rfl, hd, lk1, (by show 2 ≤ sizeLine; decide), fun p hp => ?_⟩
    exact hq _ _ ⟨p, rfl, upd_same⟩ (sm.trans (same_new hp))
  | sizes a b =>
    refine ⟨false, T.emSizes_BadText, no, fun _ => ⟨false, T.emSizes_BadCount, no, fun _ => ⟨false, T.emSizes_NoJar, no, fun _ => ⟨false, T.emSizes_SameJar, no, fun _ => ⟨true, T.emSizes_Sizes, fun _ a ha => ?_, no'⟩⟩⟩⟩⟩
    refine ⟨_, rfl, rfl, rfl, d, _, _, rfl, hd, lk2 (by decide +kernel), (by show 2 ≤ sizeLine; decide), fun p hp => ?_⟩
    exact hq _ _ ⟨p, rfl, upd_same⟩ (sm.trans (same_new hp))
end
section
variable {P : Program} {w : World} {K : PySem.W.Frag} {mg : Str → Option Value} {base : Heap}
theorem okLsaid (T : Tx K mg) : FnOk P w K mg base CX0 8 T.aLsaid T.dLsaid ["_law_caps_here", "_law_text_so"] (spLsaid T) := by
  refine T.fLsaid.ok scLsaid (fun vs H Q E h => ?_) (fun cdv A outer s H vs Q E hr h => ?_)
  · obtain ⟨c, caps, z, rfl, _⟩ := h
    rfl
  · obtain ⟨c, caps, z, rfl, hc, hC, hz, hq⟩ := h
    refine ⟨_, (pss_one (ps_try_nam rfl rfl scLsaid.nd (fun W qn xe tk po => (pss_one (ps_ret (pe_tup (pa_cons pe_str (pa_cons (pe_call (okreadrow T) (hr.mono (by decide)) rfl T.greadrow T.freadrow.kp T.breadrow .nil (passL (n := 3) tk rfl) (pa_cons (pe_make T.kJars (okJarsInit T) (hr.mono (by decide)) rfl T.mJars T.bJarsInit .nil pass0 (pa_cons (pv 0) pa_nil)) (pa_cons (pv 1) pa_nil))) pa_nil))))))
      (NamOk.cons (i := 2) rfl rfl ⟨rfl, by decide, .inl T.mBadText⟩ (fun xa xo xc xd xq hz hf => (pss_one (ps_ret (pe_tup (pa_cons pe_str (pa_cons (pe_xf T.xfBadText T.nBadText_place hz hf (pv 2)) pa_nil))))))
      (NamOk.cons (i := 2) rfl rfl ⟨rfl, by decide, .inl T.mBadCount⟩ (fun xa xo xc xd xq hz hf => (pss_one (ps_ret (pe_tup (pa_cons pe_str (pa_cons (pe_xf T.xfBadCount T.nBadCount_count hz hf (pv 2)) pa_nil))))))
      (NamOk.cons (i := 2) rfl rfl ⟨rfl, by decide, .inl T.mNoJar⟩ (fun xa xo xc xd xq hz hf => (pss_one (ps_ret (pe_tup (pa_cons pe_str (pa_cons (pe_xf T.xfNoJar T.nNoJar_jar hz hf (pv 2)) pa_nil))))))
      (NamOk.cons (i := 2) rfl rfl ⟨rfl, by decide, .inl T.mSameJar⟩ (fun xa xo xc xd xq hz hf => (pss_one (ps_ret (pe_tup (pa_cons pe_str (pa_cons (pe_xf T.xfSameJar T.nSameJar_jar hz hf (pv 2)) pa_nil))))))
      (NamOk.cons (i := 2) rfl rfl ⟨rfl, by decide, .inl T.mSizes⟩ (fun xa xo xc xd xq hz hf => (pss_one (ps_ret (pe_tup (pa_cons pe_str (pa_cons (pe_xf T.xfSizes T.nSizes_a hz hf (pv 2)) pa_nil))))))
      NamOk.nil))))))), ?_⟩
    refine ⟨_, rfl, fun x dx hx hdx ne => ?_⟩
    have s1 : Same H (upd (upd H dx (.own x)) x (.ins T.cJars dx [])) := (same_new hdx).trans (same_new (by rw [upd_ne ne.symm]; exact hx))
    refine ⟨x, dx, c, caps, rfl, upd_same, .inl (SqL.of (s1 _ _ hc)), hC, fun H1 hJ fr => ⟨rfl, ?_⟩⟩
    have s2 : Same H H1 := made_same hx hdx fr
    refine ⟨_, rfl, x, caps, z, rfl, hJ, hz, fun i hi => said_txt (caps := caps) _ i rfl fun H5 v h5 s5 => hq H5 v (by rw [hi]; exact h5) (s2.trans s5), fun r hr => said_bad (caps := caps) _ r rfl fun H5 v h5 s5 => hq H5 v (by rw [hr]; exact h5) (s2.trans s5), fun ds hd H5 r r0 hR s5 => ⟨(by show 2 ≤ sizeLine; decide), fun p hp => ?_⟩⟩
    have s6 := same_new (o := .tup [V.str "told", V.ref r]) hp
    refine hq _ _ ?_ ((s2.trans s5).trans s6)
    rw [hd]
    exact ⟨p, r, rfl, upd_same, hR.same s6⟩
end
end Kp

namespace Kp
open PySem PySem.Spec PyProof.Rows L2 KpR TL
theorem gset {i : Nat} {v : V} {σ σ' : L2.St} {H : Hp} {Q : L2.St → Hp → Prop} (h : σ.set i (some v) = σ') (q : Q σ' H) : gName i v σ H Q := by
  subst h
  exact q
def odd1 : List Str := ["", "none", "pour 0", "pour 0 1 2", "put 0 01", "put 00 1", "draw 0 0", "pour 0 0", "change 0 0", "put 6 1"]
def odd2 : List Str := ["put 0 1000000000001", "put 0 10000000000000", "draw 9999999999999 1", "put 0 -1", "Pour 0 1"]
def odd3 (a b : Str) : List Str := ["pour 0,1", a, b, "put 0 1 "]
def odd4 : List Str := [" put 0 1", "put  0 1"]
theorem odd1_len : ∀ x ∈ odd1, x.length ≤ 30 := by unfold odd1; decide +kernel
theorem odd2_len : ∀ x ∈ odd2, x.length ≤ 30 := by unfold odd2; decide +kernel
theorem odd4_len : ∀ x ∈ odd4, x.length ≤ 30 := by unfold odd4; decide +kernel
theorem odd3_len {a b : Str} (ha : a.length ≤ 30) (hb : b.length ≤ 30) : ∀ x ∈ odd3 a b, x.length ≤ 30 := fun x hx => by
  unfold odd3 at hx
  rcases List.mem_cons.mp hx with rfl | hx
  · decide +kernel
  rcases List.mem_cons.mp hx with rfl | hx
  · exact ha
  rcases List.mem_cons.mp hx with rfl | hx
  · exact hb
  obtain rfl := List.mem_singleton.mp hx
  decide +kernel
theorem map_flat (n : Nat) (l : List Str) : (List.replicate n (l.map V.str)).flatten = ((List.replicate n l).flatten).map V.str := by
  induction n with
  | zero => rfl
  | succ n ih => rw [List.replicate_succ, List.replicate_succ, List.flatten_cons, List.flatten_cons, List.map_append, ih]
theorem cut_strs (ps : List Str) (lo hi : Option Int) : ∃ qs : List Str, cutV (ps.map V.str) lo hi = qs.map V.str ∧ qs.length ≤ ps.length ∧ total qs ≤ total ps := by
  unfold cutV
  refine ⟨(ps.drop (HT.sIx (ps.map V.str).length 0 lo)).take (HT.sIx (ps.map V.str).length (ps.map V.str).length hi - HT.sIx (ps.map V.str).length 0 lo), ?_, ?_, Nat.le_trans (total_take _ _) (total_drop _ _)⟩
  · rw [List.map_take, List.map_drop]
  · rw [List.length_take, List.length_drop]
    omega
theorem slice_len (z : Str) (lo hi : Option Int) : (Txt.slice z lo hi).length ≤ z.length := by
  rw [← C8.cutS_slice]
  rw [len_tl, len_tl z]
  show (((z.cps.toList.drop (HT.sIx z.length 0 lo)).take (HT.sIx z.length z.length hi - HT.sIx z.length 0 lo)).toArray).toList.length ≤ z.cps.toList.length
  rw [List.toList_toArray, List.length_take, List.length_drop]
  omega
theorem pickS {K : PySem.W.Frag} {l : Addr} {xs : List Str} {n : Nat} {H : Hp} {Q : VK} (h : SqL K H l (xs.map V.str)) (hn : n < xs.length) (q : ∀ x ∈ xs, Q (.str x) H) : rIxL K (.ref l) (.int n) H Q :=
  ⟨l, _, _, V.str xs[n], rfl, rfl, h, atI_nat (by rw [List.getElem?_map, List.getElem?_eq_getElem hn]; rfl), q _ (List.getElem_mem ..)⟩
theorem total_one (x : Str) : total [x] = x.length := by simp [total]
section
variable {K : PySem.W.Frag} {mg : Str → Option Value}
def spLspoilt (T : Tx K mg) : Sp := fun vs H Q _ => ∃ (u c : Addr) (caps : List Int) (z : Str), vs = [.ref u, .ref c, .str z] ∧ WellAt H u ∧ H c = some (.lst (vi caps)) ∧ c ≠ u ∧ Caps caps ∧ z.length ≤ 53000 ∧
  ∀ (H' : Hp) (z' : Str), z'.length ≤ 18 * z.length + 100 → WellAt H' u → Fr u H H' → Q (.str z') H'
end
section
variable {P : Program} {w : World} {K : PySem.W.Frag} {mg : Str → Option Value} {base : Heap}
theorem okLspoilt (T : Tx K mg) : FnOk P w K mg base CX0 2 T.aLspoilt T.dLspoilt ["_law_well_here", "_law_caps_here", "_law_text_so"] (spLspoilt T) := by
  refine T.fLspoilt.ok scLspoilt (fun vs H Q E h => ?_) (fun cdv A outer s H vs Q E hr h => ?_)
  · obtain ⟨u, c, caps, z, rfl, _⟩ := h
    rfl
  · obtain ⟨u, c, caps, z, rfl, hw, hc, cu, hC, hz, hq⟩ := h
    refine ⟨_, (pss_cons (ps_set (i := 3) scLspoilt.nd rfl (by first | exact Or.inl rfl | exact Or.inr rfl) (pe_call (okLdraw T) (hr.mono (by decide)) rfl T.gLdraw T.fLdraw.kp T.bLdraw .nil pass0 (pa_cons (pv 0) (pa_cons (pe_op op_add (pe_callB call_len_str rfl T.nlen PySem.boot_len (pa_cons (pv 2) pa_nil)) pe_int) pa_nil))))
      (pss_cons (ps_set (i := 4) scLspoilt.nd rfl (by first | exact Or.inl rfl | exact Or.inr rfl) (pe_call (okLdraw T) (hr.mono (by decide)) rfl T.gLdraw T.fLdraw.kp T.bLdraw .nil pass0 (pa_cons (pv 0) (pa_cons pe_int pa_nil))))
      (pss_cons (ps_set (i := 5) scLspoilt.nd rfl (by first | exact Or.inl rfl | exact Or.inr rfl) (pe_ix (r := rIxL K) ix_list (pe_lst (pa_cons pe_str (pa_cons pe_str (pa_cons pe_str (pa_cons pe_str (pa_cons pe_str (pa_cons pe_str (pa_cons pe_str (pa_cons pe_str (pa_cons pe_str (pa_cons pe_str (pa_cons pe_str pa_nil)))))))))))) (pe_call (okLdraw T) (hr.mono (by decide)) rfl T.gLdraw T.fLdraw.kp T.bLdraw .nil pass0 (pa_cons (pv 0) (pa_cons pe_int pa_nil))) (fun _ _ => rfl)))
      (pss_cons (ps_set (i := 6) scLspoilt.nd rfl (by first | exact Or.inl rfl | exact Or.inr rfl) (pe_split (pv 2) pe_str))
      (pss_cons (ps_set (i := 7) scLspoilt.nd rfl (by first | exact Or.inl rfl | exact Or.inr rfl) (pe_call (okLdraw T) (hr.mono (by decide)) rfl T.gLdraw T.fLdraw.kp T.bLdraw .nil pass0 (pa_cons (pv 0) (pa_cons (pe_callB call_len_seq rfl T.nlen PySem.boot_len (pa_cons (pv 6) pa_nil)) pa_nil))))
      (pss_cons (ps_set (i := 8) scLspoilt.nd rfl (by first | exact Or.inl rfl | exact Or.inr rfl) (pe_lst (pa_cons pe_str (pa_cons pe_str (pa_cons pe_str (pa_cons pe_str (pa_cons pe_str (pa_cons pe_str (pa_cons pe_str (pa_cons pe_str (pa_cons pe_str (pa_cons pe_str pa_nil))))))))))))
      (pss_cons (ps_set (i := 8) scLspoilt.nd rfl (by first | exact Or.inl rfl | exact Or.inr rfl) (pe_op op_catR (pv 8) (pe_lst (pa_cons pe_str (pa_cons pe_str (pa_cons pe_str (pa_cons pe_str (pa_cons pe_str pa_nil))))))))
      (pss_cons (ps_set (i := 8) scLspoilt.nd rfl (by first | exact Or.inl rfl | exact Or.inr rfl) (pe_op op_catR (pv 8) (pe_lst (pa_cons pe_str (pa_cons (pe_op op_add_str pe_str (pe_callTy call_str_int rfl T.nstr (by decide +kernel) (pa_cons (pe_op op_sub (pe_callB call_len_seq rfl T.nlen PySem.boot_len (pa_cons (pv 1) pa_nil)) pe_int) pa_nil))) (pa_cons (pe_op op_add_str (pe_op op_add_str pe_str (pe_callTy call_str_int rfl T.nstr (by decide +kernel) (pa_cons (pe_callB call_len_seq rfl T.nlen PySem.boot_len (pa_cons (pv 1) pa_nil)) pa_nil))) pe_str) (pa_cons pe_str pa_nil)))))))
      (pss_cons (ps_set (i := 8) scLspoilt.nd rfl (by first | exact Or.inl rfl | exact Or.inr rfl) (pe_op op_catR (pv 8) (pe_lst (pa_cons pe_str (pa_cons pe_str pa_nil)))))
      (pss_cons (ps_if (pt_cmpR op_lt (pv 4) pe_int (nomark _)) (pss_one (ps_ret (pe_op op_add_str (pe_op op_add_str (pe_slice C8.sl_txt (pv 2) po_none (po_some (pv 3))) (pv 5)) (pe_slice C8.sl_txt (pv 2) (po_some (pe_op op_add (pv 3) (pv 4))) po_none)))) pss_nil)
      (pss_cons (ps_if (pt_cmpR op_eq (pv 4) pe_int (nomark _)) (pss_one (ps_ret (pe_join pe_str (pe_op op_catR (pe_op op_catR (pe_slice sl_list (pv 6) po_none (po_some (pv 7))) (pe_op op_rep (pe_slice sl_list (pv 6) (po_some (pv 7)) (po_some (pe_op op_add (pv 7) pe_int))) (pe_op op_mul pe_int (pe_call (okLdraw T) (hr.mono (by decide)) rfl T.gLdraw T.fLdraw.kp T.bLdraw .nil pass0 (pa_cons (pv 0) (pa_cons pe_int pa_nil)))))) (pe_slice sl_list (pv 6) (po_some (pe_op op_add (pv 7) pe_int)) po_none))))) pss_nil)
      (pss_cons (ps_if (pt_cmpR op_eq (pv 4) pe_int (nomark _)) (pss_one (ps_ret (pe_join pe_str (pe_op op_rep (pv 6) pe_int)))) pss_nil)
      (pss_one (ps_ret (pe_join pe_str (pe_op op_catR (pe_op op_catR (pe_slice sl_list (pv 6) po_none (po_some (pv 7))) (pe_lst (pa_cons (pe_ix (r := rIxL K) ix_list (pv 8) (pe_call (okLdraw T) (hr.mono (by decide)) rfl T.gLdraw T.fLdraw.kp T.bLdraw .nil pass0 (pa_cons (pv 0) (pa_cons pe_int pa_nil))) (fun _ _ => rfl)) pa_nil))) (pe_slice sl_list (pv 6) (po_some (pe_op op_sub (pe_op op_add (pv 7) (pv 4)) pe_int)) po_none))))))))))))))))), ?_⟩
    have c1 := hC.l1
    have c6 := hC.l6
    have zl : z.length ≤ sizeLine := Nat.le_trans hz (by decide)
    refine ⟨_, rfl, _, rfl, z, rfl, zl, _, _, rfl, rfl, u, _, rfl, hw, by omega, by omega, fun H1 at_ la w1 f1 => ?_⟩
    refine gset (σ' := [some (V.ref u), some (V.ref c), some (V.str z), some (V.int at_), none, none, none, none, none]) rfl ?_
    refine ⟨_, rfl, u, 6, rfl, w1, by decide, by decide, fun H2 way lw w2 f2 => ?_⟩
    refine gset (σ' := [some (V.ref u), some (V.ref c), some (V.str z), some (V.int at_), some (V.int way), none, none, none, none]) rfl ?_
    -- the sign
    refine ⟨(by show 11 ≤ sizeLine; decide), fun l hl => ?_⟩
    have lu := w2.ne hl
    have s2 := same_new (o := .lst (([" ", ",", "0", "7", "-", "p", "P", "", ", ", "_", "."] : List Str).map V.str)) hl
    refine ⟨_, rfl, u, 11, rfl, w2.same s2, by decide, by decide, fun H3 k lk w3 f3 => ?_⟩
    refine pickS (xs := [" ", ",", "0", "7", "-", "p", "P", "", ", ", "_", "."]) (SqL.of (f3 _ _ lu upd_same)) (by simp; omega) fun sg hsg => ?_
    have sg2 : sg.length ≤ 2 := (by decide +kernel : ∀ x ∈ ([" ", ",", "0", "7", "-", "p", "P", "", ", ", "_", "."] : List Str), x.length ≤ 2) sg hsg
    refine gset (σ' := [some (V.ref u), some (V.ref c), some (V.str z), some (V.int at_), some (V.int way), some (V.str sg), none, none, none]) rfl ?_
    have fr3 : Fr u H H3 := ((f1.trans f2).trans (Fr.of s2)).trans f3
    clear f1 f2 f3 s2 w1 w2 hsg
    -- the pieces
    obtain ⟨len, small⟩ := split_cma z
    obtain ⟨sum, one⟩ := split_cma_sum z
    have sum : total (Txt.split z cma) ≤ z.length := sum
    refine ⟨_, rfl, ⟨_, rfl⟩, _, _, rfl, rfl, by decide +kernel, Nat.le_trans (by omega : _ ≤ 53002) (by decide), fun p hp => ?_⟩
    show _
    generalize hG : upd H3 p _ = H4
    have s4 : Same H3 H4 := by rw [← hG]; exact same_new hp
    have g4 : H4 p = some (.lst ((Txt.split z cma).map V.str)) := by rw [← hG]; exact upd_same
    clear hG
    have pu := w3.ne hp
    have w4 := w3.same s4
    have fr4 := fr3.trans (Fr.of s4)
    generalize Txt.split z cma = ps at len small sum one g4
    have pl : (ps.map V.str).length = ps.length := List.length_map ..
    refine gset (σ' := [some (V.ref u), some (V.ref c), some (V.str z), some (V.int at_), some (V.int way), some (V.str sg), some (V.ref p), none, none]) rfl ?_
    refine ⟨_, rfl, _, rfl, p, _, rfl, .inl (SqL.of g4), u, _, rfl, w4, by omega, by omega, fun H5 m lm w5 f5 => ?_⟩
    refine gset (σ' := [some (V.ref u), some (V.ref c), some (V.str z), some (V.int at_), some (V.int way), some (V.str sg), some (V.ref p), some (V.int m), none]) rfl ?_
    have g5 := f5 _ _ pu g4
    have fr5 := fr4.trans f5
    have hc5 := fr5 _ _ cu hc
    -- the odd ones
    have big : ∀ n : Nat, n ≤ 100 → n ≤ sizeLine := fun n h => Nat.le_trans h (by decide)
    refine ⟨(by show 10 ≤ sizeLine; decide), fun o1 ho1 => ?_⟩
    show _
    generalize hG : upd H5 o1 _ = H6
    have s6 : Same H5 H6 := by rw [← hG]; exact same_new ho1
    have e6 : H6 o1 = some (.lst (odd1.map V.str)) := by rw [← hG]; exact upd_same
    clear hG
    refine gset (σ' := [some (V.ref u), some (V.ref c), some (V.str z), some (V.int at_), some (V.int way), some (V.str sg), some (V.ref p), some (V.int m), some (V.ref o1)]) rfl ?_
    refine ⟨_, rfl, (by show 5 ≤ sizeLine; decide), fun l2 hl2 => ?_⟩
    show _
    generalize hG : upd H6 l2 _ = H7
    have s7 : Same H6 H7 := by rw [← hG]; exact same_new hl2
    have e7 : H7 l2 = some (.lst (odd2.map V.str)) := by rw [← hG]; exact upd_same
    clear hG
    refine ⟨o1, l2, _, _, rfl, rfl, SqL.of (s7 _ _ e6), SqL.of e7, big _ (by decide), fun o2 ho2 => ?_⟩
    show _
    generalize hG : upd H7 o2 _ = H8
    have s8 : Same H7 H8 := by rw [← hG]; exact same_new ho2
    have e8 : H8 o2 = some (.lst ((odd1 ++ odd2).map V.str)) := by rw [← hG]; exact upd_same
    clear hG
    have s58 := (s6.trans s7).trans s8
    clear s6 s7 s8 e6 e7
    refine gset (σ' := [some (V.ref u), some (V.ref c), some (V.str z), some (V.int at_), some (V.int way), some (V.str sg), some (V.ref p), some (V.int m), some (V.ref o2)]) rfl ?_
    have vl : (vi caps).length = caps.length := List.length_map ..
    obtain ⟨a, ea, a6⟩ : ∃ a : Nat, ((vi caps).length : Int) - 1 = (a : Int) ∧ a ≤ 6 := ⟨caps.length - 1, by omega, by omega⟩
    have la := nS_len (n := a) (Nat.lt_of_le_of_lt a6 (by decide))
    have lb := nS_len (n := (vi caps).length) (Nat.lt_of_le_of_lt (by omega : _ ≤ 6) (by decide))
    have hc8 := s58 _ _ hc5
    have k1 : ("change 0 " : Str).length = 9 := by decide +kernel
    have k2 : ("pour " : Str).length = 5 := by decide +kernel
    have k3 : (" 0" : Str).length = 2 := by decide +kernel
    have ta : Str.ofString (toString (((vi caps).length : Int) - 1)) = nS a := by rw [ea]; rfl
    refine ⟨_, rfl, _, rfl, c, _, rfl, .inl (SqL.of hc8), _, _, rfl, rfl, _, rfl, (by rw [ea]; exact lg13 (Nat.lt_of_le_of_lt a6 (by decide))), _, _, rfl, rfl, ?_, ?_⟩
    · rw [ta, k1]
      exact big _ (by omega)
    refine ⟨_, rfl, c, _, rfl, .inl (SqL.of hc8), _, rfl, lg13 (Nat.lt_of_le_of_lt (by omega : _ ≤ 6) (by decide)), _, _, rfl, rfl, ?_, _, _, rfl, rfl, ?_, (by show 4 ≤ sizeLine; decide), fun l3 hl3 => ?_⟩
    · exact big _ (by rw [k2]; have := lb; unfold nS at this; omega)
    · exact big _ (by rw [app_len, k2, k3]; have := lb; unfold nS at this; omega)
    rw [ta]
    obtain ⟨x1, hx1, l1⟩ : ∃ x : Str, "change 0 " ++ nS a = x ∧ x.length ≤ 30 := ⟨_, rfl, by rw [app_len, k1]; omega⟩
    obtain ⟨x2, hx2, l2'⟩ : ∃ x : Str, "pour " ++ Str.ofString (toString ((vi caps).length : Int)) ++ " 0" = x ∧ x.length ≤ 30 := ⟨_, rfl, by rw [app_len, app_len, k2, k3]; have := lb; unfold nS at this; omega⟩
    rw [hx1, hx2]
    clear hx1 hx2
    generalize hG : upd H8 l3 _ = H9
    have s9 : Same H8 H9 := by rw [← hG]; exact same_new hl3
    have e9 : H9 l3 = some (.lst ((odd3 x1 x2).map V.str)) := by rw [← hG]; exact upd_same
    clear hG
    refine ⟨o2, l3, _, _, rfl, rfl, SqL.of (s9 _ _ e8), SqL.of e9, (by show 19 ≤ sizeLine; decide), fun o3 ho3 => ?_⟩
    show _
    generalize hG : upd H9 o3 _ = H10
    have s10 : Same H9 H10 := by rw [← hG]; exact same_new ho3
    have e10 : H10 o3 = some (.lst ((odd1 ++ odd2 ++ odd3 x1 x2).map V.str)) := by rw [← hG]; exact upd_same
    clear hG
    have s510 := (s58.trans s9).trans s10
    clear s58 s9 s10 e9
    refine gset (σ' := [some (V.ref u), some (V.ref c), some (V.str z), some (V.int at_), some (V.int way), some (V.str sg), some (V.ref p), some (V.int m), some (V.ref o3)]) rfl ?_
    refine ⟨_, rfl, (by show 2 ≤ sizeLine; decide), fun l4 hl4 => ?_⟩
    show _
    generalize hG : upd H10 l4 _ = H11
    have s11 : Same H10 H11 := by rw [← hG]; exact same_new hl4
    have e11 : H11 l4 = some (.lst (odd4.map V.str)) := by rw [← hG]; exact upd_same
    clear hG
    refine ⟨o3, l4, _, _, rfl, rfl, SqL.of (s11 _ _ e10), SqL.of e11, (by show 21 ≤ sizeLine; decide), fun o4 ho4 => ?_⟩
    show _
    generalize hG : upd H11 o4 _ = H12
    have s12 : Same H11 H12 := by rw [← hG]; exact same_new ho4
    have e12 : H12 o4 = some (.lst ((odd1 ++ odd2 ++ odd3 x1 x2 ++ odd4).map V.str)) := by rw [← hG]; exact upd_same
    clear hG
    have ols : ∀ x ∈ odd1 ++ odd2 ++ odd3 x1 x2 ++ odd4, x.length ≤ 30 := fun x hx => by
      rcases List.mem_append.mp hx with hx | hx
      · rcases List.mem_append.mp hx with hx | hx
        · rcases List.mem_append.mp hx with hx | hx
          · exact odd1_len x hx
          · exact odd2_len x hx
        · exact odd3_len l1 l2' x hx
      · exact odd4_len x hx
    have oll : (odd1 ++ odd2 ++ odd3 x1 x2 ++ odd4).length = 21 := rfl
    generalize odd1 ++ odd2 ++ odd3 x1 x2 ++ odd4 = od at e12 ols oll
    have s512 := (s510.trans s11).trans s12
    refine gset (σ' := [some (V.ref u), some (V.ref c), some (V.str z), some (V.int at_), some (V.int way), some (V.str sg), some (V.ref p), some (V.int m), some (V.ref o4)]) rfl ?_
    have w12 := w5.same s512
    have fr12 := fr5.trans (Fr.of s512)
    have g12 := s512 _ _ g5
    have ou : o4 ≠ u := fun e => by
      obtain ⟨_, _, _, q⟩ := w12
      rw [e, q] at e12
      have e12 := Option.some.inj e12
      injection e12 with e12
      have := congrArg List.length e12
      rw [List.length_map, oll] at this
      cases this
    clear s510 s11 s12 s512 e10 e11 ho1 ho2 ho3 ho4 hl2 hl3 hl4 e8 hc8 hc5 g5 w5 fr5 fr4 fr3 w4 w3 s4 g4
    refine ⟨_, rfl, _, _, rfl, rfl, _, rfl, ifD (fun g => ?_) (fun g => ?_)⟩
    · have q1 := slice_len z none (some (at_ : Int))
      have q2 := slice_len z (some ((at_ : Int) + (way : Int))) none
      have fit : ∀ n : Nat, n ≤ 200000 → n ≤ sizeLine := fun n h => Nat.le_trans h (by decide)
      refine ⟨_, rfl, _, rfl, _, rfl, z, rfl, zl, _, rfl, _, _, rfl, rfl, fit _ (by omega), ?_⟩
      refine ⟨_, rfl, _, rfl, _, rfl, _, _, rfl, rfl, _, rfl, z, rfl, zl, _, _, rfl, rfl, fit _ (by rw [app_len]; omega), ?_⟩
      exact hq _ _ (by rw [app_len, app_len]; omega) w12 fr12
    have fits : ∀ ys : List Str, total ys ≤ 400000 → ys.length ≤ 400000 → (ys.map (·.length)).sum + ys.length * cma.length ≤ 16777216 := fun ys h1 h2 => by
      have : cma.length = 2 := by unfold cma; decide +kernel
      rw [this]
      have : (ys.map (·.length)).sum = total ys := rfl
      omega
    have fit : ∀ n : Nat, n ≤ 1000000 → n ≤ sizeLine := fun n h => Nat.le_trans h (by decide)
    refine ⟨_, rfl, rfl, _, rfl, ifD (fun g2 => ?_) (fun g2 => ?_)⟩
    · refine ⟨⟨_, rfl⟩, _, rfl, _, rfl, _, rfl, p, _, rfl, SqL.of g12, fun a1 ha1 => ?_⟩
      obtain ⟨q1, e1, n1, t1⟩ := cut_strs ps none (some (m : Int))
      show _
      generalize hG : upd H12 a1 _ = H13
      have s13 : Same H12 H13 := by rw [← hG]; exact same_new ha1
      have e13 : H13 a1 = some (.lst (q1.map V.str)) := by rw [← hG, ← e1]; exact upd_same
      clear hG
      refine ⟨_, rfl, _, rfl, _, rfl, _, rfl, _, _, rfl, rfl, _, rfl, p, _, rfl, SqL.of (s13 _ _ g12), fun a2 ha2 => ?_⟩
      obtain ⟨q2, e2, n2, t2⟩ := cut_strs ps (some (m : Int)) (some ((m : Int) + 1))
      show _
      generalize hG : upd H13 a2 _ = H14
      have s14 : Same H13 H14 := by rw [← hG]; exact same_new ha2
      have e14 : H14 a2 = some (.lst (q2.map V.str)) := by rw [← hG, ← e2]; exact upd_same
      clear hG
      have s1214 := s13.trans s14
      have w14 := w12.same s1214
      have a1u : a1 ≠ u := fun z => by
        obtain ⟨_, _, _, q⟩ := w12
        rw [z, q] at ha1
        cases ha1
      have a2u : a2 ≠ u := fun z => by
        obtain ⟨_, _, _, q⟩ := w12.same s13
        rw [z, q] at ha2
        cases ha2
      refine ⟨_, rfl, u, 2, rfl, w14, by decide, by decide, fun H15 d ld w15 f15 => ?_⟩
      refine ⟨_, _, rfl, rfl, .inr ⟨by omega, by omega⟩, ?_⟩
      have e15 := f15 _ _ a2u e14
      have e15' := f15 _ _ a1u (s14 _ _ e13)
      have p15 := f15 _ _ pu (s1214 _ _ g12)
      have fr15 := (fr12.trans (Fr.of s1214)).trans f15
      obtain ⟨kk, hk, k2'⟩ : ∃ kk : Nat, 2 * (d : Int) = (kk : Int) ∧ kk ≤ 2 := ⟨2 * d, by omega, by omega⟩
      refine ⟨a2, 2 * (d : Int), q2.map V.str, rfl, rfl, e15, by omega, by omega, ?_, fun r hr => ?_⟩
      · rw [hk, Int.toNat_natCast, List.length_map]
        refine fit _ (Nat.le_trans (Nat.mul_le_mul (Nat.le_refl _) k2') (by omega))
      rw [hk, Int.toNat_natCast, map_flat]
      generalize hG : upd H15 r _ = H16
      have s16 : Same H15 H16 := by rw [← hG]; exact same_new hr
      have e16 : H16 r = some (.lst (((List.replicate kk q2).flatten).map V.str)) := by rw [← hG]; exact upd_same
      clear hG
      have rl : (List.replicate kk q2).flatten.length = kk * q2.length := by simp
      have rt := total_rep q2 kk
      have b1 : kk * q2.length ≤ 2 * ps.length := Nat.mul_le_mul k2' n2
      have b2 : kk * total q2 ≤ 2 * total ps := Nat.mul_le_mul k2' t2
      rw [← rl] at b1
      rw [← rt] at b2
      generalize (List.replicate kk q2).flatten = qr at e16 b1 b2
      refine ⟨a1, r, _, _, rfl, rfl, SqL.of (s16 _ _ e15'), SqL.of e16, fit _ (by rw [List.length_map, List.length_map]; omega), fun q hq0 => ?_⟩
      rw [← List.map_append]
      generalize hG : upd H16 q _ = H17
      have s17 : Same H16 H17 := by rw [← hG]; exact same_new hq0
      have e17 : H17 q = some (.lst ((q1 ++ qr).map V.str)) := by rw [← hG]; exact upd_same
      clear hG
      have p17 := s17 _ _ (s16 _ _ p15)
      refine ⟨_, rfl, _, rfl, _, _, rfl, rfl, _, rfl, p, _, rfl, SqL.of p17, fun a3 ha3 => ?_⟩
      obtain ⟨q3, e3, n3, t3⟩ := cut_strs ps (some ((m : Int) + 1)) none
      show _
      generalize hG : upd H17 a3 _ = H18
      have s18 : Same H17 H18 := by rw [← hG]; exact same_new ha3
      have e18 : H18 a3 = some (.lst (q3.map V.str)) := by rw [← hG, ← e3]; exact upd_same
      clear hG
      refine ⟨q, a3, _, _, rfl, rfl, SqL.of (s18 _ _ e17), SqL.of e18, fit _ (by rw [List.length_map, List.length_map, List.length_append]; omega), fun q' hq' => ?_⟩
      rw [← List.map_append]
      have s19 := same_new (o := .lst ((q1 ++ qr ++ q3).map V.str)) hq'
      have tt : total (q1 ++ qr ++ q3) ≤ 4 * total ps := by rw [total_app, total_app]; omega
      have nn : (q1 ++ qr ++ q3).length ≤ 4 * ps.length := by simp only [List.length_append]; omega
      refine ⟨cma, q', q1 ++ qr ++ q3, rfl, rfl, .inl (SqL.of upd_same), fits _ (by omega) (by omega), ?_⟩
      have jl := join_total (q1 ++ qr ++ q3)
      have s1519 := ((s16.trans s17).trans s18).trans s19
      exact hq _ _ (by omega) (w15.same s1519) (fr15.trans (Fr.of s1519))
    refine ⟨_, rfl, rfl, _, rfl, ifD (fun g3 => ?_) (fun g3 => ?_)⟩
    · refine ⟨⟨_, rfl⟩, _, rfl, p, 6, ps.map V.str, rfl, rfl, g12, by decide, by decide, ?_, fun r hr => ?_⟩
      · rw [List.length_map]
        exact fit _ (by show ps.length * 6 ≤ _; omega)
      rw [show ((6 : Int)).toNat = 6 from rfl, map_flat]
      have s13 := same_new (o := .lst (((List.replicate 6 ps).flatten).map V.str)) hr
      have rl : (List.replicate 6 ps).flatten.length = 6 * ps.length := by simp; omega
      have rt := total_rep ps 6
      have jl := join_total (List.replicate 6 ps).flatten
      refine ⟨cma, r, (List.replicate 6 ps).flatten, rfl, rfl, .inl (SqL.of upd_same), fits _ (by omega) (by omega), ?_⟩
      exact hq _ _ (by omega) (w12.same s13) (fr12.trans (Fr.of s13))
    · refine ⟨⟨_, rfl⟩, _, rfl, _, rfl, _, rfl, p, _, rfl, SqL.of g12, fun a1 ha1 => ?_⟩
      obtain ⟨q1, e1, n1, t1⟩ := cut_strs ps none (some (m : Int))
      show _
      generalize hG : upd H12 a1 _ = H13
      have s13 : Same H12 H13 := by rw [← hG]; exact same_new ha1
      have e13 : H13 a1 = some (.lst (q1.map V.str)) := by rw [← hG, ← e1]; exact upd_same
      clear hG
      have a1u : a1 ≠ u := fun z => by
        obtain ⟨_, _, _, q⟩ := w12
        rw [z, q] at ha1
        cases ha1
      have w13 := w12.same s13
      refine ⟨_, rfl, _, rfl, u, 21, rfl, w13, by decide, by decide, fun H14 d ld w14 f14 => ?_⟩
      have o14 := f14 _ _ ou (s13 _ _ e12)
      have e14 := f14 _ _ a1u e13
      have p14 := f14 _ _ pu (s13 _ _ g12)
      have fr14 := (fr12.trans (Fr.of s13)).trans f14
      refine pickS (xs := od) (SqL.of o14) (by omega) fun x hx => ?_
      have xl := ols x hx
      refine ⟨(by show 1 ≤ sizeLine; decide), fun b hb => ?_⟩
      show _
      generalize hG : upd H14 b _ = H15
      have s15 : Same H14 H15 := by rw [← hG]; exact same_new hb
      have e15 : H15 b = some (.lst (([x] : List Str).map V.str)) := by rw [← hG]; exact upd_same
      clear hG
      refine ⟨a1, b, _, _, rfl, rfl, SqL.of (s15 _ _ e14), SqL.of e15, fit _ (by rw [List.length_map, List.length_map]; simp; omega), fun q hq0 => ?_⟩
      rw [← List.map_append]
      generalize hG : upd H15 q _ = H16
      have s16 : Same H15 H16 := by rw [← hG]; exact same_new hq0
      have e16 : H16 q = some (.lst ((q1 ++ [x]).map V.str)) := by rw [← hG]; exact upd_same
      clear hG
      have p16 := s16 _ _ (s15 _ _ p14)
      refine ⟨_, rfl, _, rfl, _, rfl, _, _, rfl, rfl, _, _, rfl, rfl, _, rfl, p, _, rfl, SqL.of p16, fun a3 ha3 => ?_⟩
      obtain ⟨q3, e3, n3, t3⟩ := cut_strs ps (some ((m : Int) + (way : Int) - 4)) none
      show _
      generalize hG : upd H16 a3 _ = H17
      have s17 : Same H16 H17 := by rw [← hG]; exact same_new ha3
      have e17 : H17 a3 = some (.lst (q3.map V.str)) := by rw [← hG, ← e3]; exact upd_same
      clear hG
      refine ⟨q, a3, _, _, rfl, rfl, SqL.of (s17 _ _ e16), SqL.of e17, fit _ (by rw [List.length_map, List.length_map, List.length_append]; simp; omega), fun q' hq' => ?_⟩
      rw [← List.map_append]
      have s18 := same_new (o := .lst ((q1 ++ [x] ++ q3).map V.str)) hq'
      have tt : total (q1 ++ [x] ++ q3) ≤ 2 * total ps + 30 := by rw [total_app, total_app, total_one]; omega
      have nn : (q1 ++ [x] ++ q3).length ≤ 2 * ps.length + 1 := by simp only [List.length_append, List.length_cons, List.length_nil]; omega
      refine ⟨cma, q', q1 ++ [x] ++ q3, rfl, rfl, .inl (SqL.of upd_same), fits _ (by omega) (by omega), ?_⟩
      have jl := join_total (q1 ++ [x] ++ q3)
      have s1418 := ((s15.trans s16).trans s17).trans s18
      exact hq _ _ (by omega) (w14.same s1418) (fr14.trans (Fr.of s1418))
end
end Kp

namespace Kp
open PySem PySem.Spec PyProof.Rows L2 KpR TL
theorem ext_of {H H' : Hp} (e : Ext H H') : Same H H' := fun b o q => e b o q
/-! two answers side by side -/
theorem DueAt.same {H H' : Hp} {x : V} {r : Res} (e : Same H H') (h : DueAt H x r) : DueAt H' x r := by
  cases r with
  | txt i =>
    obtain ⟨p, rfl, h⟩ := h
    exact ⟨p, rfl, e _ _ h⟩
  | bad r => exact AmK.same (r := some r) e h
  | ok ds =>
    obtain ⟨p, f, ts, rfl, h1, h2, h3⟩ := h
    exact ⟨p, f, ts, rfl, e _ _ h1, e _ _ h2, A2.mono (fun _ _ q => FactAt.same e q) h3⟩
def DFlat : EqvB := fun x y b _ => flatV x = true ∧ flatV y = true ∧ b = eqV x y
theorem eqB_flat {X : Cx} {n : Nat} : EqB X n DFlat := by
  intro B pins s σ H x y b u v sb I rx ry d
  obtain ⟨fx, fy, rfl⟩ := d
  exact eqAt_V (A := B) (s := s) rx ry fx fy X.prog X.w X.xe _ ⟨rfl, H, I, Ext.rfl'⟩
section
variable {X : Cx} {K : PySem.W.Frag} {mg : Str → Option Value}
def DRowT (T : Tx K mg) : EqvB := fun x y b H => DInsB K T.cRow (RRow T) x y b H ∧ b = true
def DTold (T : Tx K mg) : EqvB := fun x y b H => DFlat x y b H ∨ DRowT T x y b H
theorem eqB_told {X : Cx} (T : Tx X.K X.mg) : EqB X 3 (DTold T) := by
  have h : RcB X 3 (DRowT T) := fun B pins s σ H x y b u v sb I rx ry d => rcB_ins (E := E0) ⟨T.eRowEq, T.eiRowEq⟩ (okRowEq T) T.bRowEq pass0 B pins s σ H x y b u v sb I rx ry d.1
  refine EqB.or eqB_flat (h.eqB fun x y b H d => ?_)
  obtain ⟨⟨a, c, _, _, _, _, _, rfl, rfl, _⟩, e⟩ := d
  exact .inl ⟨a, rfl, c, rfl, fun _ => e⟩
theorem opNeTold (T : Tx K mg) (hr : Room 4 X.A) (hK : X.K = K := by rfl) (hm : X.mg = mg := by rfl) : OpR X (compareOp .NotEq) (rNeTup K (DTold T)) := by
  subst hK
  subst hm
  exact op_neTup (n := 3) (eqB_told T) hr
theorem told_flat {T : Tx K mg} {H : Hp} {x : V} (h : flatV x = true) (e : eqV x x = true) : DTold T x x true H := .inl ⟨h, h, e.symm⟩
theorem neTold2 {T : Tx K mg} {H : Hp} {p q : Addr} {a b c d : V} {Q : VK} (hp : H p = some (.tup [a, b])) (hq : H q = some (.tup [c, d])) (h1 : ∀ H', Ext H H' → DTold T a c true H') (h2 : ∀ H', Ext H H' → DTold T b d true H') (k : ∀ H', Ext H H' → Q (.bl false) H') :
    rNeTup K (DTold T) (.ref p) (.ref q) H Q := by
  refine ⟨p, q, _, _, rfl, rfl, SqT.of hp, SqT.of hq, rfl, fun i u v hu hv H' e => ?_, k⟩
  match i, hu, hv with
  | 0, hu, hv =>
    cases hu
    cases hv
    exact h1 H' e
  | 1, hu, hv =>
    cases hu
    cases hv
    exact h2 H' e
  | _ + 2, hu, _ => cases hu
theorem eqV_int (n : Int) : eqV (.int n) (.int n) = true := by simp [eqV]
theorem neTold {T : Tx K mg} {caps : List Int} {H : Hp} {x y : V} {r : Res} {Q : VK} (h1 : OutR T caps H x r) (h2 : OutR T caps H y r) (k : ∀ H', Ext H H' → Q (.bl false) H') : rNeTup K (DTold T) x y H Q := by
  have fl : ∀ {p q : Addr} {s : Str} {n : Int}, H p = some (.tup [.str s, .int n]) → H q = some (.tup [.str s, .int n]) → rNeTup K (DTold T) (.ref p) (.ref q) H Q := fun hp hq =>
    neTold2 hp hq (fun _ _ => told_flat rfl (by simp [eqV])) (fun _ _ => told_flat rfl (eqV_int _)) k
  cases r with
  | txt i =>
    obtain ⟨p, rfl, hp⟩ := h1
    obtain ⟨q, rfl, hq⟩ := h2
    exact fl hp hq
  | bad r =>
    cases r <;> obtain ⟨p, rfl, hp⟩ := h1 <;> obtain ⟨q, rfl, hq⟩ := h2 <;> exact fl hp hq
  | ok ds =>
    obtain ⟨p, r, rfl, hp, hr⟩ := h1
    obtain ⟨q, s, rfl, hq, hs⟩ := h2
    refine neTold2 hp hq (fun _ _ => told_flat rfl (by simp [eqV])) (fun H' e => .inr ⟨?_, rfl⟩) k
    have r1 := hr.same (ext_of e)
    have r2 := hs.same (ext_of e)
    obtain ⟨dx, j, t, vs, e1, _⟩ := id r1
    obtain ⟨dy, i, u, ws, g1, _⟩ := id r2
    exact ⟨r, s, T.cRow, dx, dy, _, _, rfl, rfl, e1, g1, nf_self, caps, ds, r1, .inl ⟨s, caps, ds, rfl, r2, (decide_eq_true ⟨rfl, rfl⟩).symm⟩⟩
end
theorem ok_res {caps : List Int} {z : Str} {ds : List E1} (h : txtRes caps z = .ok ds) : ds.length ≤ 20 ∧ firstBad caps ds = none := by
  unfold txtRes at h
  split at h
  · injection h with h
    subst h
    exact ⟨by decide, rfl⟩
  · split at h
    · cases h
    · unfold rowRes at h
      split at h
      · cases h
      · rename_i e
        injection h with h
        subst h
        unfold rowBad at e
        split at e
        · cases e
        · exact ⟨by omega, e⟩
theorem empty_res : txtRes [3, 3] "" = .txt 0 := by
  have e : ¬ (("" : Str) = none_) := by unfold none_; decide +kernel
  have b : badAt (Txt.split "" cma) = some 0 := by unfold cma; decide +kernel
  unfold txtRes
  rw [if_neg e, b]
theorem rT_len4 {ds : List D} (h : ∀ d ∈ ds, d.can) (l4 : ds.length ≤ 4) : (rT ds).length ≤ 150 := by
  unfold rT
  split
  · exact Nat.le_trans (by unfold none_; decide +kernel : none_.length ≤ 4) (by decide)
  · rw [len_tl, join_eq, tl_join, cma_tl]
    have h1 := joinLen (S := [44, 32]) ((ds.map dT).map tl)
    have h2 := sumlen h
    have e : ((ds.map dT).map tl).map List.length = (ds.map dT).map (·.length) := by
      rw [List.map_map]
      exact List.map_congr_left fun x _ => (len_tl x).symm
    rw [e] at h1
    simp only [List.length_map, List.length_cons, List.length_nil] at h1
    omega
/-- how long a text spoilt so often may be -/
def capL : Nat → Nat
  | 0 => 150
  | i + 1 => 18 * capL i + 100
theorem capL3 {i : Nat} (h : i < 3) : capL i ≤ 50500 := by
  have : i = 0 ∨ i = 1 ∨ i = 2 := by omega
  rcases this with rfl | rfl | rfl <;> decide
theorem capL4 {i : Nat} (h : i ≤ 3) : capL i ≤ 1000000 := by
  have : i = 0 ∨ i = 1 ∨ i = 2 ∨ i = 3 := by omega
  rcases this with rfl | rfl | rfl | rfl <;> decide
def spLaw (K : PySem.W.Frag) : Sp := fun vs H Q _ => ∃ (a : Addr) (ns : List Int), vs = [.ref a] ∧ SqL K H a (ns.map V.int) ∧ ns.length ≤ 63 ∧ ∀ H', Q (.bl true) H'
abbrev splaw {K : PySem.W.Frag} {mg : Str → Option Value} (T : Tx K mg) : Sp := spLaw K
section
variable {P : Program} {w : World} {K : PySem.W.Frag} {mg : Str → Option Value} {base : Heap}
theorem oklaw (T : Tx K mg) : FnOk P w K mg base CX0 9 T.alaw T.dlaw ["_law_script"] (splaw T) := by
  refine T.flaw.ok sclaw (fun vs H Q E h => ?_) (fun cdv A outer s H vs Q E hr h => ?_)
  · obtain ⟨a, ns, rfl, _⟩ := h
    rfl
  · obtain ⟨a, ns, rfl, hS, hlen, hq⟩ := h
    refine ⟨_, (pss_cons (ps_for PassesOwn.never rfl (pi_list (pe_slice sl_list (pe_op op_catR (pv 0) (pe_lst (pa_cons pe_int pa_nil))) po_none (po_some pe_int))) (pg_name (i := 1) sclaw.nd rfl (by first | exact Or.inl rfl | exact Or.inr rfl)) (pss_cons (ps_set (i := 2) sclaw.nd rfl (by first | exact Or.inl rfl | exact Or.inr rfl) (pe_call (okLwell T) (hr.mono (by decide)) rfl T.gLwell T.fLwell.kp T.bLwell .nil pass0 (pa_cons (pv 1) pa_nil)))
      (pss_cons (ps_set (i := 3) sclaw.nd rfl (by first | exact Or.inl rfl | exact Or.inr rfl) (pe_call (okLcaps T) (hr.mono (by decide)) rfl T.gLcaps T.fLcaps.kp T.bLcaps .nil pass0 (pa_cons (pv 2) (pa_cons pe_int pa_nil))))
      (pss_cons (ps_set (i := 4) sclaw.nd rfl (by first | exact Or.inl rfl | exact Or.inr rfl) (pe_call (okLtext T) (hr.mono (by decide)) rfl T.gLtext T.fLtext.kp T.bLtext .nil pass0 (pa_cons (pe_call (okLfacts T) (hr.mono (by decide)) rfl T.gLfacts T.fLfacts.kp T.bLfacts .nil pass0 (pa_cons (pv 2) (pa_cons (pv 3) (pa_cons (pe_op op_add pe_int (pe_call (okLdraw T) (hr.mono (by decide)) rfl T.gLdraw T.fLdraw.kp T.bLdraw .nil pass0 (pa_cons (pv 2) (pa_cons pe_int pa_nil)))) pa_nil)))) pa_nil)))
      (pss_one (ps_for PassesOwn.never rfl (pi_range1 rfl T.nrange (pa_cons pe_int pa_nil)) (pg_name (i := 5) sclaw.nd rfl (by first | exact Or.inl rfl | exact Or.inr rfl)) (pss_cons (ps_set (i := 6) sclaw.nd rfl (by first | exact Or.inl rfl | exact Or.inr rfl) (pv 4))
      (pss_cons (ps_for PassesOwn.never rfl (pi_range1 rfl T.nrange (pa_cons (pe_op op_add pe_int (pe_call (okLdraw T) (hr.mono (by decide)) rfl T.gLdraw T.fLdraw.kp T.bLdraw .nil pass0 (pa_cons (pv 2) (pa_cons pe_int pa_nil)))) pa_nil)) (pg_name (i := 7) sclaw.nd rfl (by first | exact Or.inl rfl | exact Or.inr rfl)) (pss_one (ps_set (i := 6) sclaw.nd rfl (by first | exact Or.inl rfl | exact Or.inr rfl) (pe_call (okLspoilt T) (hr.mono (by decide)) rfl T.gLspoilt T.fLspoilt.kp T.bLspoilt .nil pass0 (pa_cons (pv 2) (pa_cons (pv 3) (pa_cons (pv 6) pa_nil)))))))
      (pss_cons (ps_set (i := 8) sclaw.nd rfl (by first | exact Or.inl rfl | exact Or.inr rfl) (pe_call (okLdue T) (hr.mono (by decide)) rfl T.gLdue T.fLdue.kp T.bLdue .nil pass0 (pa_cons (pv 3) (pa_cons (pv 6) pa_nil))))
      (pss_cons (ps_set (i := 9) sclaw.nd rfl (by first | exact Or.inl rfl | exact Or.inr rfl) (pe_call (okLsaid T) (hr.mono (by decide)) rfl T.gLsaid T.fLsaid.kp T.bLsaid .nil pass0 (pa_cons (pv 3) (pa_cons (pv 6) pa_nil))))
      (C8.pss_cut (ps_if (pt_cmpR op_eq (pe_ix (r := rIxT K) ix_tup (pv 8) pe_int (fun _ _ => rfl)) pe_str (nomark _)) (pss_one (ps_set (i := 8) sclaw.nd rfl (by first | exact Or.inl rfl | exact Or.inr rfl) (pe_tup (pa_cons pe_str (pa_cons (pe_call (okLrow T) (hr.mono (by decide)) rfl T.gLrow T.fLrow.kp T.bLrow .nil pass0 (pa_cons (pv 3) (pa_cons (pe_ix (r := rIxT K) ix_tup (pv 8) pe_int (fun _ _ => rfl)) pa_nil))) pa_nil))))) pss_nil)
      (pss_one (ps_if (pt_cmpR (opNeTold T (hr.mono (by decide))) (pv 9) (pv 8) (nomark _)) (pss_one (ps_ret pe_bl)) pss_nil)))))))))))))
      (pss_one (ps_ret (pe_cmpR (r := rEqD K) (op_eqD hr.units) (pe_call (okLsaid T) (hr.mono (by decide)) rfl T.gLsaid T.fLsaid.kp T.bLsaid .nil pass0 (pa_cons (pe_lst (pa_cons pe_int (pa_cons pe_int pa_nil))) (pa_cons pe_str pa_nil))) (pe_tup (pa_cons pe_str (pa_cons pe_int pa_nil))) (nomark _))))), ?_⟩
    refine ⟨_, rfl, (by show 1 ≤ sizeLine; decide), fun z hz => ?_⟩
    have s1 : Same H (upd H z (.lst [V.int 0])) := same_new hz
    refine ⟨a, z, _, _, rfl, rfl, s1.seq hS, SqL.of upd_same, ?_, fun q hq0 => ?_⟩
    · rw [List.length_map]
      exact Nat.le_trans (by simp; omega : ns.length + [V.int 0].length ≤ 100) (by decide)
    refine ⟨_, rfl, q, _, rfl, SqL.of upd_same, fun l hl => ?_⟩
    refine ⟨l, rfl, ⟨_, SqL.of upd_same⟩, ?_⟩
    have allI : ∀ y ∈ cutV (ns.map V.int ++ [V.int 0]) none (some 8), ∃ n, y = V.int n := fun y hy => by
      have hy : y ∈ ns.map V.int ++ [V.int 0] := List.mem_of_mem_drop (List.mem_of_mem_take hy)
      rcases List.mem_append.mp hy with k | k
      · obtain ⟨n, _, e⟩ := List.mem_map.mp k
        exact ⟨n, e.symm⟩
      · exact ⟨0, by simpa using k⟩
    generalize hxs : cutV (ns.map V.int ++ [V.int 0]) none (some 8) = xs at *
    generalize hHl : upd _ l (.lst xs) = Hl
    have gl : Hl l = some (.lst xs) := by rw [← hHl]; exact upd_same
    clear s1 hHl hz hq0 hl
    refine for_list (K := K) (a := l) (xs := xs) (fun i σ H' => ∃ v1 v2 v3 v4 v5 v6 v7 v8 v9 : Option V, σ = [some (.ref a), v1, v2, v3, v4, v5, v6, v7, v8, v9] ∧ Same Hl H') ⟨none, none, none, none, none, none, none, none, none, rfl, Same.refl _⟩ (fun i σ H' _ ⟨_, _, _, _, _, _, _, _, _, _, e⟩ => e.seq (SqL.of gl)) ?_ ?_
    · rintro i y σ H0 hi ⟨v1, v2, v3, v4, v5, v6, v7, v8, v9, rfl, sm0⟩
      obtain ⟨n, rfl⟩ := allI y (List.mem_of_getElem? hi)
      refine ⟨_, rfl, n, rfl, fun H1 u u0 w1 s1 => ?_⟩
      refine gset (σ' := [some (.ref a), some (.int n), some (.ref u), v3, v4, v5, v6, v7, v8, v9]) rfl ?_
      have sme : ∀ {G : Hp}, Fr u H0 G → Same H0 G := fun e b o q => e b o (ne_of_none q u0) q
      refine ⟨_, rfl, u, 6, rfl, w1, by decide, by decide, fun H2 c caps c0 hc hC _ w2 f2 => ?_⟩
      refine gset (σ' := [some (.ref a), some (.int n), some (.ref u), some (.ref c), v4, v5, v6, v7, v8, v9]) rfl ?_
      have cu : c ≠ u := w1.ne c0
      have c6 := hC.l6
      refine ⟨_, rfl, _, rfl, _, rfl, u, 4, rfl, w2, by decide, by decide, fun H3 m lm w3 f3 => ⟨_, _, rfl, rfl, ?_⟩⟩
      have hc3 := f3 _ _ cu hc
      refine ⟨u, c, 1 + m, caps, (by rw [Int.natCast_add]; rfl), w3, hc3, cu, hC, by omega, fun H4 f ts ds f0 hf hA dl ok w4 f4 => ?_⟩
      have can : ∀ d ∈ ds, d.can := fun d hd => ok_can c6 (ok d hd)
      refine ⟨f, ts, ds, rfl, hf, hA, can, by omega, fun H5 s5 => ?_⟩
      have gl4 := rT_len4 can (by omega)
      generalize rT ds = good at gl4 ⊢
      refine gset (σ' := [some (.ref a), some (.int n), some (.ref u), some (.ref c), some (.str good), v5, v6, v7, v8, v9]) rfl ?_
      have w5 := w4.same s5
      have hc5 := s5 _ _ (f4 _ _ cu hc3)
      have sm5 := sm0.trans (sme (((((Fr.of s1).trans f2).trans f3).trans f4).trans (Fr.of s5)))
      have fr5 : Fr u H0 H5 := ((((Fr.of s1).trans f2).trans f3).trans f4).trans (Fr.of s5)
      clear s5 f4 hf hA dl ok can f0 hc3 w3 w4 f3 hc w2 f2 c0 s1 w1
      refine ⟨_, rfl, by decide, by decide, ?_⟩
      refine for_range (lo := 0) (n := (8 : Int).toNat) (fun i σ H' => ∃ (v5 v6 v7 v8 v9 : Option V), σ = [some (.ref a), some (.int n), some (.ref u), some (.ref c), some (.str good), v5, v6, v7, v8, v9] ∧ WellAt H' u ∧ H' c = some (.lst (vi caps)) ∧ Fr u H0 H')
        ⟨v5, v6, v7, v8, v9, rfl, w5, hc5, fr5⟩ ?_ ?_
      · clear v5 v6 v7 v8 v9 w5 hc5 fr5 sm5
        rintro i8 σ H6 hi8 ⟨v5, v6, v7, v8, v9, rfl, w6, hc6, fr6⟩
        refine gset (σ' := [some (.ref a), some (.int n), some (.ref u), some (.ref c), some (.str good), some (.int (i8 : Nat)), v6, v7, v8, v9]) (by rw [Int.zero_add]; rfl) ?_
        refine ⟨_, rfl, ?_⟩
        refine gset (σ' := [some (.ref a), some (.int n), some (.ref u), some (.ref c), some (.str good), some (.int (i8 : Nat)), some (.str good), v7, v8, v9]) rfl ?_
        refine ⟨_, rfl, u, 3, rfl, w6, by decide, by decide, fun H7 k lk w7 f7 => ⟨_, _, rfl, rfl, 1 + (k : Int), rfl, by omega, by omega, ?_⟩⟩
        have hc7 := f7 _ _ cu hc6
        refine for_range (lo := 0) (n := (1 + (k : Int)).toNat) (fun i σ H' => ∃ (v7 : Option V) (z : Str), σ = [some (.ref a), some (.int n), some (.ref u), some (.ref c), some (.str good), some (.int (i8 : Nat)), some (.str z), v7, v8, v9] ∧ z.length ≤ capL i ∧ WellAt H' u ∧ H' c = some (.lst (vi caps)) ∧ Fr u H0 H')
          ⟨v7, good, rfl, gl4, w7, hc7, fr6.trans f7⟩ ?_ ?_
        · rintro i3 σ H8 hi3 ⟨v7, z, rfl, zl, w8, hc8, fr8⟩
          refine gset (σ' := [some (.ref a), some (.int n), some (.ref u), some (.ref c), some (.str good), some (.int (i8 : Nat)), some (.str z), some (.int (i3 : Nat)), v8, v9]) (by rw [Int.zero_add]; rfl) ?_
          have z5 := capL3 (i := i3) (by omega)
          refine ⟨_, rfl, _, rfl, _, rfl, u, c, caps, z, rfl, w8, hc8, cu, hC, by omega, fun H9 z' zl' w9 f9 => ?_⟩
          refine gset (σ' := [some (.ref a), some (.int n), some (.ref u), some (.ref c), some (.str good), some (.int (i8 : Nat)), some (.str z'), some (.int (i3 : Nat)), v8, v9]) rfl ?_
          refine ⟨_, z', rfl, ?_, w9, f9 _ _ cu hc8, fr8.trans f9⟩
          show z'.length ≤ 18 * capL i3 + 100
          omega
        rintro σ H8 ⟨v7, z, rfl, zl, w8, hc8, fr8⟩
        have zl : z.length ≤ 1000000 := Nat.le_trans zl (capL4 (by omega))
        refine ⟨_, rfl, _, rfl, c, caps, z, rfl, SqL.of hc8, c6, zl, fun H9 x hx s9 => ?_⟩
        refine gset (σ' := [some (.ref a), some (.int n), some (.ref u), some (.ref c), some (.str good), some (.int (i8 : Nat)), some (.str z), v7, some x, v9]) rfl ?_
        have hc9 := s9 _ _ hc8
        refine ⟨_, rfl, _, rfl, c, caps, z, rfl, hc9, hC, zl, fun H10 y hy s10 => ?_⟩
        refine gset (σ' := [some (.ref a), some (.int n), some (.ref u), some (.ref c), some (.str good), some (.int (i8 : Nat)), some (.str z), v7, some x, some y]) rfl ?_
        have hc10 := s10 _ _ hc9
        have w10 := (w8.same s9).same s10
        have fr10 := (fr8.trans (Fr.of s9)).trans (Fr.of s10)
        have hx := DueAt.same s10 hx
        have ok' : ∀ ds, txtRes caps z = .ok ds → ds.length ≤ 20 ∧ firstBad caps ds = none := fun ds h => ok_res h
        clear s9 s10 hc9 hc8 w8 fr8
        refine ⟨fun σ' H' => ∃ x' : V, σ' = [some (.ref a), some (.int n), some (.ref u), some (.ref c), some (.str good), some (.int (i8 : Nat)), some (.str z), v7, some x', some y] ∧ OutR T caps H' x' (txtRes caps z) ∧ Same H10 H', ?_, ?_⟩
        · generalize txtRes caps z = r at hx hy ok' ⊢
          cases r with
          | txt i =>
            obtain ⟨p, rfl, hp⟩ := hx
            exact ⟨_, rfl, p, _, _, _, rfl, rfl, SqT.of hp, rfl, rfl, _, rfl, ifF (show decide (V.str "badtext" = V.str "told") = false by decide +kernel) ⟨_, rfl, ⟨p, rfl, hp⟩, Same.refl _⟩⟩
          | bad r =>
            cases r with
            | count s n =>
              obtain ⟨p, rfl, hp⟩ := hx
              exact ⟨_, rfl, p, _, _, _, rfl, rfl, SqT.of hp, rfl, rfl, _, rfl, ifF (show decide (V.str "badcount" = V.str "told") = false by decide +kernel) ⟨_, rfl, ⟨p, rfl, hp⟩, Same.refl _⟩⟩
            | nojar j =>
              obtain ⟨p, rfl, hp⟩ := hx
              exact ⟨_, rfl, p, _, _, _, rfl, rfl, SqT.of hp, rfl, rfl, _, rfl, ifF (show decide (V.str "nojar" = V.str "told") = false by decide +kernel) ⟨_, rfl, ⟨p, rfl, hp⟩, Same.refl _⟩⟩
            | same j =>
              obtain ⟨p, rfl, hp⟩ := hx
              exact ⟨_, rfl, p, _, _, _, rfl, rfl, SqT.of hp, rfl, rfl, _, rfl, ifF (show decide (V.str "samejar" = V.str "told") = false by decide +kernel) ⟨_, rfl, ⟨p, rfl, hp⟩, Same.refl _⟩⟩
            | sizes a b =>
              obtain ⟨p, rfl, hp⟩ := hx
              exact ⟨_, rfl, p, _, _, _, rfl, rfl, SqT.of hp, rfl, rfl, _, rfl, ifF (show decide (V.str "sizes" = V.str "told") = false by decide +kernel) ⟨_, rfl, ⟨p, rfl, hp⟩, Same.refl _⟩⟩
          | ok ds =>
            obtain ⟨p, f, ts, rfl, hp, hf, hA⟩ := hx
            obtain ⟨d20, hok⟩ := ok' ds rfl
            refine ⟨_, rfl, p, _, _, _, rfl, rfl, SqT.of hp, rfl, rfl, _, rfl, ifT (show decide (V.str "told" = V.str "told") = true by decide +kernel) ?_⟩
            refine ⟨_, rfl, _, rfl, p, _, _, _, rfl, rfl, SqT.of hp, rfl, c, f, caps, ts, ds, rfl, hc10, hC, hf, hA, d20, hok, fun H11 r r0 hR s11 => ⟨(by show 2 ≤ sizeLine; decide), fun t ht => ?_⟩⟩
            have s12 := same_new (o := .tup [V.str "told", V.ref r]) ht
            refine gset (σ' := [some (.ref a), some (.int n), some (.ref u), some (.ref c), some (.str good), some (.int (i8 : Nat)), some (.str z), v7, some (.ref t), some y]) rfl ?_
            exact ⟨_, rfl, ⟨t, r, rfl, upd_same, hR.same s12⟩, s11.trans s12⟩
        rintro σ' H11 ⟨x', rfl, hx', s11⟩
        refine ⟨_, rfl, _, rfl, neTold (hy.same s11) hx' fun H12 e12 => ⟨_, rfl, ifF rfl ?_⟩⟩
        have s12 := s11.trans (ext_of e12)
        exact ⟨_, _, _, _, _, rfl, w10.same s12, s12 _ _ hc10, fr10.trans (Fr.of s12)⟩
      · rintro σ H6 ⟨v5, v6, v7, v8, v9, rfl, w6, hc6, fr6⟩
        exact ⟨_, _, _, _, _, _, _, _, _, rfl, sm0.trans (sme fr6)⟩
    · rintro σ H4 ⟨v1, v2, v3, v4, v5, v6, v7, v8, v9, rfl, sm0⟩
      have hC33 : Caps [3, 3] := ⟨by decide, by decide, fun i hi => by
        have : i = 0 ∨ i = 1 := by simp at hi; omega
        rcases this with rfl | rfl <;> decide, fun i hi => by
        have : i = 0 ∨ i = 1 := by simp at hi; omega
        rcases this with rfl | rfl <;> decide⟩
      refine ⟨(by show 2 ≤ sizeLine; decide), fun l3 hl3 => ?_⟩
      refine ⟨l3, [3, 3], "", rfl, upd_same, hC33, by decide +kernel, fun H5 x hx s5 => ?_⟩
      rw [empty_res] at hx
      obtain ⟨p, rfl, hp⟩ := hx
      refine ⟨(by show 2 ≤ sizeLine; decide), fun t ht => ?_⟩
      have x6 := same_new (o := .tup [V.str "badtext", V.int 0]) ht
      have g6 : (upd H5 t (.tup [V.str "badtext", V.int 0])) t = some (.tup [.str "badtext", .int 0]) := upd_same
      have fl : SeqAt.shaped (.tuple [.str "badtext", .int 0]) = true := by decide +kernel
      refine ⟨.tuple [.str "badtext", .int 0], .tuple [.str "badtext", .int 0], .tup (SqT.of (x6 _ _ hp)) (.cons (.str _) (.cons (.int _) .nil)), .tup (SqT.of g6) (.cons (.str _) (.cons (.int _) .nil)), fl, fl, ?_⟩
      rw [show PyData.eqv (.tuple [.str "badtext", .int 0]) (.tuple [.str "badtext", .int 0]) = true by decide +kernel]
      exact hq _
end
end Kp

namespace Kp
open PySem PySem.Spec PyProof.Rows L2 KpR
theorem all_mk {l : PySem.W.OpenLaw} {w : World} {K : PySem.W.Frag} {h : Heap} {mg : Str → Option Value} {fa CJars CPour CPut CDraw CChange CRow CDeed CBadCount CNoJar CSameJar CSizes CBadText fcheckmuch fcheckjar fcheckdeed fBadCountInit fNoJarInit fSameJarInit fSizesInit fBadTextInit fJarsInit fPourInit fPutInit fDrawInit fChangeInit fRowInit fJarsEq fPourEq fPutEq fDrawEq fChangeEq fRowEq freadrow freaddeeds freaddeed fisnumber fLwell fLdraw fLcaps fLfacts fLdeed fLrow fLtext fLiscount fLfact fLdeedamiss fLdue fLsaid fLspoilt flaw : Addr} (X : K.In h) (G : h.Ns mainGlobals mg) (hfa : mg "law" = some (.ref fa))
    {odcheckmuch ancheckmuch odcheckjar ancheckjar odcheckdeed ancheckdeed odBadCountInit anBadCountInit odNoJarInit anNoJarInit odSameJarInit anSameJarInit odSizesInit anSizesInit odBadTextInit anBadTextInit odJarsInit anJarsInit odPourInit anPourInit odPutInit anPutInit odDrawInit anDrawInit odChangeInit anChangeInit odRowInit anRowInit odJarsEq anJarsEq odPourEq anPourEq odPutEq anPutEq odDrawEq anDrawEq odChangeEq anChangeEq odRowEq anRowEq odreadrow anreadrow odreaddeeds anreaddeeds odreaddeed anreaddeed odisnumber anisnumber odLwell anLwell odLdraw anLdraw odLcaps anLcaps odLfacts anLfacts odLdeed anLdeed odLrow anLrow odLtext anLtext odLiscount anLiscount odLfact anLfact odLdeedamiss anLdeedamiss odLdue anLdue odLsaid anLsaid odLspoilt anLspoilt odlaw anlaw : Option Addr} {slcheckmuch slcheckjar slcheckdeed slBadCountInit slNoJarInit slSameJarInit slSizesInit slBadTextInit slJarsInit slPourInit slPutInit slDrawInit slChangeInit slRowInit slJarsEq slPourEq slPutEq slDrawEq slChangeEq slRowEq slreadrow slreaddeeds slreaddeed slisnumber slLwell slLdraw slLcaps slLfacts slLdeed slLrow slLtext slLiscount slLfact slLdeedamiss slLdue slLsaid slLspoilt sllaw : Array (Option Value)} {occheckmuch dccheckmuch pmcheckmuch cdcheckmuch ctcheckmuch kVcheckmuch occheckjar dccheckjar pmcheckjar cdcheckjar ctcheckjar kVcheckjar occheckdeed dccheckdeed pmcheckdeed cdcheckdeed ctcheckdeed kVcheckdeed ocBadCountInit dcBadCountInit pmBadCountInit cdBadCountInit ctBadCountInit kVBadCountInit ocNoJarInit dcNoJarInit pmNoJarInit cdNoJarInit ctNoJarInit kVNoJarInit ocSameJarInit dcSameJarInit pmSameJarInit cdSameJarInit ctSameJarInit kVSameJarInit ocSizesInit dcSizesInit pmSizesInit cdSizesInit ctSizesInit kVSizesInit ocBadTextInit dcBadTextInit pmBadTextInit cdBadTextInit ctBadTextInit kVBadTextInit ocJarsInit dcJarsInit pmJarsInit cdJarsInit ctJarsInit kVJarsInit ocPourInit dcPourInit pmPourInit cdPourInit ctPourInit kVPourInit ocPutInit dcPutInit pmPutInit cdPutInit ctPutInit kVPutInit ocDrawInit dcDrawInit pmDrawInit cdDrawInit ctDrawInit kVDrawInit ocChangeInit dcChangeInit pmChangeInit cdChangeInit ctChangeInit kVChangeInit ocRowInit dcRowInit pmRowInit cdRowInit ctRowInit kVRowInit ocJarsEq dcJarsEq pmJarsEq cdJarsEq ctJarsEq kVJarsEq ocPourEq dcPourEq pmPourEq cdPourEq ctPourEq kVPourEq ocPutEq dcPutEq pmPutEq cdPutEq ctPutEq kVPutEq ocDrawEq dcDrawEq pmDrawEq cdDrawEq ctDrawEq kVDrawEq ocChangeEq dcChangeEq pmChangeEq cdChangeEq ctChangeEq kVChangeEq ocRowEq dcRowEq pmRowEq cdRowEq ctRowEq kVRowEq ocreadrow dcreadrow pmreadrow cdreadrow ctreadrow kVreadrow ocreaddeeds dcreaddeeds pmreaddeeds cdreaddeeds ctreaddeeds kVreaddeeds ocreaddeed dcreaddeed pmreaddeed cdreaddeed ctreaddeed kVreaddeed ocisnumber dcisnumber pmisnumber cdisnumber ctisnumber kVisnumber ocLwell dcLwell pmLwell cdLwell ctLwell kVLwell ocLdraw dcLdraw pmLdraw cdLdraw ctLdraw kVLdraw ocLcaps dcLcaps pmLcaps cdLcaps ctLcaps kVLcaps ocLfacts dcLfacts pmLfacts cdLfacts ctLfacts kVLfacts ocLdeed dcLdeed pmLdeed cdLdeed ctLdeed kVLdeed ocLrow dcLrow pmLrow cdLrow ctLrow kVLrow ocLtext dcLtext pmLtext cdLtext ctLtext kVLtext ocLiscount dcLiscount pmLiscount cdLiscount ctLiscount kVLiscount ocLfact dcLfact pmLfact cdLfact ctLfact kVLfact ocLdeedamiss dcLdeedamiss pmLdeedamiss cdLdeedamiss ctLdeedamiss kVLdeedamiss ocLdue dcLdue pmLdue cdLdue ctLdue kVLdue ocLsaid dcLsaid pmLsaid cdLsaid ctLsaid kVLsaid ocLspoilt dcLspoilt pmLspoilt cdLspoilt ctLspoilt kVLspoilt oclaw dclaw pmlaw cdlaw ctlaw kVlaw : Value} {tkMOSTJARS tkMOSTDEEDS tkMOSTMUCH tkMOSTFIGURES tkNODEEDS : Tok}
    {nmXBadCount qXBadCount : Str} {NXBadCount : Addr} {bsXBadCount bmXBadCount : List Value} {abXBadCount : Bool} {snXBadCount : List Str} {subXBadCount : List Value} {colXBadCount : Option Bool} {ddXBadCount : Option Addr} {r0XBadCount r1XBadCount r2XBadCount r3XBadCount r5XBadCount : Option Value}
    {nmXNoJar qXNoJar : Str} {NXNoJar : Addr} {bsXNoJar bmXNoJar : List Value} {abXNoJar : Bool} {snXNoJar : List Str} {subXNoJar : List Value} {colXNoJar : Option Bool} {ddXNoJar : Option Addr} {r0XNoJar r1XNoJar r2XNoJar r3XNoJar r5XNoJar : Option Value}
    {nmXSameJar qXSameJar : Str} {NXSameJar : Addr} {bsXSameJar bmXSameJar : List Value} {abXSameJar : Bool} {snXSameJar : List Str} {subXSameJar : List Value} {colXSameJar : Option Bool} {ddXSameJar : Option Addr} {r0XSameJar r1XSameJar r2XSameJar r3XSameJar r5XSameJar : Option Value}
    {nmXSizes qXSizes : Str} {NXSizes : Addr} {bsXSizes bmXSizes : List Value} {abXSizes : Bool} {snXSizes : List Str} {subXSizes : List Value} {colXSizes : Option Bool} {ddXSizes : Option Addr} {r0XSizes r1XSizes r2XSizes r3XSizes r5XSizes : Option Value}
    {nmXBadText qXBadText : Str} {NXBadText : Addr} {bsXBadText bmXBadText : List Value} {abXBadText : Bool} {snXBadText : List Str} {subXBadText : List Value} {colXBadText : Option Bool} {ddXBadText : Option Addr} {r0XBadText r1XBadText r2XBadText r3XBadText r5XBadText : Option Value}
    (xJars : PySem.W.nsIn K mainGlobals "Jars" = some (some (.ref CJars)))
    (xPour : PySem.W.nsIn K mainGlobals "Pour" = some (some (.ref CPour)))
    (xPut : PySem.W.nsIn K mainGlobals "Put" = some (some (.ref CPut)))
    (xDraw : PySem.W.nsIn K mainGlobals "Draw" = some (some (.ref CDraw)))
    (xChange : PySem.W.nsIn K mainGlobals "Change" = some (some (.ref CChange)))
    (xRow : PySem.W.nsIn K mainGlobals "Row" = some (some (.ref CRow)))
    (xDeed : PySem.W.nsIn K mainGlobals "Deed" = some (some (.ref CDeed)))
    (xBadCount : PySem.W.nsIn K mainGlobals "BadCount" = some (some (.ref CBadCount)))
    (xNoJar : PySem.W.nsIn K mainGlobals "NoJar" = some (some (.ref CNoJar)))
    (xSameJar : PySem.W.nsIn K mainGlobals "SameJar" = some (some (.ref CSameJar)))
    (xSizes : PySem.W.nsIn K mainGlobals "Sizes" = some (some (.ref CSizes)))
    (xBadText : PySem.W.nsIn K mainGlobals "BadText" = some (some (.ref CBadText)))
    (acheckmuch : PySem.W.nsIn K mainGlobals "check_much" = some (some (.ref fcheckmuch)))
    (lcheckmuch : K.lookup fcheckmuch = some ⟨occheckmuch, odcheckmuch, .func (PySem.W.fnOf "check_much" "check_much" (defArgs scheckmuch) (defBody scheckmuch) (defScope scheckmuch) .none kVcheckmuch dccheckmuch pmcheckmuch ancheckmuch cdcheckmuch ctcheckmuch), slcheckmuch⟩)
    (qcheckmuch : PySem.W.codeIn K cdcheckmuch "check_much" = true)
    (kcheckmuch : PySem.W.keepIn K (.ref fcheckmuch) = true)
    (acheckjar : PySem.W.nsIn K mainGlobals "check_jar" = some (some (.ref fcheckjar)))
    (lcheckjar : K.lookup fcheckjar = some ⟨occheckjar, odcheckjar, .func (PySem.W.fnOf "check_jar" "check_jar" (defArgs scheckjar) (defBody scheckjar) (defScope scheckjar) .none kVcheckjar dccheckjar pmcheckjar ancheckjar cdcheckjar ctcheckjar), slcheckjar⟩)
    (qcheckjar : PySem.W.codeIn K cdcheckjar "check_jar" = true)
    (kcheckjar : PySem.W.keepIn K (.ref fcheckjar) = true)
    (acheckdeed : PySem.W.nsIn K mainGlobals "check_deed" = some (some (.ref fcheckdeed)))
    (lcheckdeed : K.lookup fcheckdeed = some ⟨occheckdeed, odcheckdeed, .func (PySem.W.fnOf "check_deed" "check_deed" (defArgs scheckdeed) (defBody scheckdeed) (defScope scheckdeed) .none kVcheckdeed dccheckdeed pmcheckdeed ancheckdeed cdcheckdeed ctcheckdeed), slcheckdeed⟩)
    (qcheckdeed : PySem.W.codeIn K cdcheckdeed "check_deed" = true)
    (kcheckdeed : PySem.W.keepIn K (.ref fcheckdeed) = true)
    (aBadCountInit : PySem.W.findIn K (.ref CBadCount) "__init__" = some (some (.ref fBadCountInit)))
    (iBadCountInit : PySem.W.isFn K (.ref fBadCountInit) = true)
    (lBadCountInit : K.lookup fBadCountInit = some ⟨ocBadCountInit, odBadCountInit, .func (PySem.W.fnOf "__init__" "BadCount.__init__" (defArgs sBadCountInit) (defBody sBadCountInit) (defScope sBadCountInit) .none kVBadCountInit dcBadCountInit pmBadCountInit anBadCountInit cdBadCountInit ctBadCountInit), slBadCountInit⟩)
    (qBadCountInit : PySem.W.codeIn K cdBadCountInit "BadCount.__init__" = true)
    (kBadCountInit : PySem.W.keepIn K (.ref fBadCountInit) = true)
    (aNoJarInit : PySem.W.findIn K (.ref CNoJar) "__init__" = some (some (.ref fNoJarInit)))
    (iNoJarInit : PySem.W.isFn K (.ref fNoJarInit) = true)
    (lNoJarInit : K.lookup fNoJarInit = some ⟨ocNoJarInit, odNoJarInit, .func (PySem.W.fnOf "__init__" "NoJar.__init__" (defArgs sNoJarInit) (defBody sNoJarInit) (defScope sNoJarInit) .none kVNoJarInit dcNoJarInit pmNoJarInit anNoJarInit cdNoJarInit ctNoJarInit), slNoJarInit⟩)
    (qNoJarInit : PySem.W.codeIn K cdNoJarInit "NoJar.__init__" = true)
    (kNoJarInit : PySem.W.keepIn K (.ref fNoJarInit) = true)
    (aSameJarInit : PySem.W.findIn K (.ref CSameJar) "__init__" = some (some (.ref fSameJarInit)))
    (iSameJarInit : PySem.W.isFn K (.ref fSameJarInit) = true)
    (lSameJarInit : K.lookup fSameJarInit = some ⟨ocSameJarInit, odSameJarInit, .func (PySem.W.fnOf "__init__" "SameJar.__init__" (defArgs sSameJarInit) (defBody sSameJarInit) (defScope sSameJarInit) .none kVSameJarInit dcSameJarInit pmSameJarInit anSameJarInit cdSameJarInit ctSameJarInit), slSameJarInit⟩)
    (qSameJarInit : PySem.W.codeIn K cdSameJarInit "SameJar.__init__" = true)
    (kSameJarInit : PySem.W.keepIn K (.ref fSameJarInit) = true)
    (aSizesInit : PySem.W.findIn K (.ref CSizes) "__init__" = some (some (.ref fSizesInit)))
    (iSizesInit : PySem.W.isFn K (.ref fSizesInit) = true)
    (lSizesInit : K.lookup fSizesInit = some ⟨ocSizesInit, odSizesInit, .func (PySem.W.fnOf "__init__" "Sizes.__init__" (defArgs sSizesInit) (defBody sSizesInit) (defScope sSizesInit) .none kVSizesInit dcSizesInit pmSizesInit anSizesInit cdSizesInit ctSizesInit), slSizesInit⟩)
    (qSizesInit : PySem.W.codeIn K cdSizesInit "Sizes.__init__" = true)
    (kSizesInit : PySem.W.keepIn K (.ref fSizesInit) = true)
    (aBadTextInit : PySem.W.findIn K (.ref CBadText) "__init__" = some (some (.ref fBadTextInit)))
    (iBadTextInit : PySem.W.isFn K (.ref fBadTextInit) = true)
    (lBadTextInit : K.lookup fBadTextInit = some ⟨ocBadTextInit, odBadTextInit, .func (PySem.W.fnOf "__init__" "BadText.__init__" (defArgs sBadTextInit) (defBody sBadTextInit) (defScope sBadTextInit) .none kVBadTextInit dcBadTextInit pmBadTextInit anBadTextInit cdBadTextInit ctBadTextInit), slBadTextInit⟩)
    (qBadTextInit : PySem.W.codeIn K cdBadTextInit "BadText.__init__" = true)
    (kBadTextInit : PySem.W.keepIn K (.ref fBadTextInit) = true)
    (aJarsInit : PySem.W.findIn K (.ref CJars) "__init__" = some (some (.ref fJarsInit)))
    (iJarsInit : PySem.W.isFn K (.ref fJarsInit) = true)
    (lJarsInit : K.lookup fJarsInit = some ⟨ocJarsInit, odJarsInit, .func (PySem.W.fnOf "__init__" "Jars.__init__" (defArgs sJarsInit) (defBody sJarsInit) (defScope sJarsInit) .none kVJarsInit dcJarsInit pmJarsInit anJarsInit cdJarsInit ctJarsInit), slJarsInit⟩)
    (qJarsInit : PySem.W.codeIn K cdJarsInit "Jars.__init__" = true)
    (kJarsInit : PySem.W.keepIn K (.ref fJarsInit) = true)
    (aPourInit : PySem.W.findIn K (.ref CPour) "__init__" = some (some (.ref fPourInit)))
    (iPourInit : PySem.W.isFn K (.ref fPourInit) = true)
    (lPourInit : K.lookup fPourInit = some ⟨ocPourInit, odPourInit, .func (PySem.W.fnOf "__init__" "Pour.__init__" (defArgs sPourInit) (defBody sPourInit) (defScope sPourInit) .none kVPourInit dcPourInit pmPourInit anPourInit cdPourInit ctPourInit), slPourInit⟩)
    (qPourInit : PySem.W.codeIn K cdPourInit "Pour.__init__" = true)
    (kPourInit : PySem.W.keepIn K (.ref fPourInit) = true)
    (aPutInit : PySem.W.findIn K (.ref CPut) "__init__" = some (some (.ref fPutInit)))
    (iPutInit : PySem.W.isFn K (.ref fPutInit) = true)
    (lPutInit : K.lookup fPutInit = some ⟨ocPutInit, odPutInit, .func (PySem.W.fnOf "__init__" "Put.__init__" (defArgs sPutInit) (defBody sPutInit) (defScope sPutInit) .none kVPutInit dcPutInit pmPutInit anPutInit cdPutInit ctPutInit), slPutInit⟩)
    (qPutInit : PySem.W.codeIn K cdPutInit "Put.__init__" = true)
    (kPutInit : PySem.W.keepIn K (.ref fPutInit) = true)
    (aDrawInit : PySem.W.findIn K (.ref CDraw) "__init__" = some (some (.ref fDrawInit)))
    (iDrawInit : PySem.W.isFn K (.ref fDrawInit) = true)
    (lDrawInit : K.lookup fDrawInit = some ⟨ocDrawInit, odDrawInit, .func (PySem.W.fnOf "__init__" "Draw.__init__" (defArgs sDrawInit) (defBody sDrawInit) (defScope sDrawInit) .none kVDrawInit dcDrawInit pmDrawInit anDrawInit cdDrawInit ctDrawInit), slDrawInit⟩)
    (qDrawInit : PySem.W.codeIn K cdDrawInit "Draw.__init__" = true)
    (kDrawInit : PySem.W.keepIn K (.ref fDrawInit) = true)
    (aChangeInit : PySem.W.findIn K (.ref CChange) "__init__" = some (some (.ref fChangeInit)))
    (iChangeInit : PySem.W.isFn K (.ref fChangeInit) = true)
    (lChangeInit : K.lookup fChangeInit = some ⟨ocChangeInit, odChangeInit, .func (PySem.W.fnOf "__init__" "Change.__init__" (defArgs sChangeInit) (defBody sChangeInit) (defScope sChangeInit) .none kVChangeInit dcChangeInit pmChangeInit anChangeInit cdChangeInit ctChangeInit), slChangeInit⟩)
    (qChangeInit : PySem.W.codeIn K cdChangeInit "Change.__init__" = true)
    (kChangeInit : PySem.W.keepIn K (.ref fChangeInit) = true)
    (aRowInit : PySem.W.findIn K (.ref CRow) "__init__" = some (some (.ref fRowInit)))
    (iRowInit : PySem.W.isFn K (.ref fRowInit) = true)
    (lRowInit : K.lookup fRowInit = some ⟨ocRowInit, odRowInit, .func (PySem.W.fnOf "__init__" "Row.__init__" (defArgs sRowInit) (defBody sRowInit) (defScope sRowInit) .none kVRowInit dcRowInit pmRowInit anRowInit cdRowInit ctRowInit), slRowInit⟩)
    (qRowInit : PySem.W.codeIn K cdRowInit "Row.__init__" = true)
    (kRowInit : PySem.W.keepIn K (.ref fRowInit) = true)
    (aJarsEq : PySem.W.findIn K (.ref CJars) "__eq__" = some (some (.ref fJarsEq)))
    (iJarsEq : PySem.W.isFn K (.ref fJarsEq) = true)
    (lJarsEq : K.lookup fJarsEq = some ⟨ocJarsEq, odJarsEq, .func (PySem.W.fnOf "__eq__" "Jars.__eq__" (defArgs sJarsEq) (defBody sJarsEq) (defScope sJarsEq) .none kVJarsEq dcJarsEq pmJarsEq anJarsEq cdJarsEq ctJarsEq), slJarsEq⟩)
    (qJarsEq : PySem.W.codeIn K cdJarsEq "Jars.__eq__" = true)
    (kJarsEq : PySem.W.keepIn K (.ref fJarsEq) = true)
    (aPourEq : PySem.W.findIn K (.ref CPour) "__eq__" = some (some (.ref fPourEq)))
    (iPourEq : PySem.W.isFn K (.ref fPourEq) = true)
    (lPourEq : K.lookup fPourEq = some ⟨ocPourEq, odPourEq, .func (PySem.W.fnOf "__eq__" "Pour.__eq__" (defArgs sPourEq) (defBody sPourEq) (defScope sPourEq) .none kVPourEq dcPourEq pmPourEq anPourEq cdPourEq ctPourEq), slPourEq⟩)
    (qPourEq : PySem.W.codeIn K cdPourEq "Pour.__eq__" = true)
    (kPourEq : PySem.W.keepIn K (.ref fPourEq) = true)
    (aPutEq : PySem.W.findIn K (.ref CPut) "__eq__" = some (some (.ref fPutEq)))
    (iPutEq : PySem.W.isFn K (.ref fPutEq) = true)
    (lPutEq : K.lookup fPutEq = some ⟨ocPutEq, odPutEq, .func (PySem.W.fnOf "__eq__" "Put.__eq__" (defArgs sPutEq) (defBody sPutEq) (defScope sPutEq) .none kVPutEq dcPutEq pmPutEq anPutEq cdPutEq ctPutEq), slPutEq⟩)
    (qPutEq : PySem.W.codeIn K cdPutEq "Put.__eq__" = true)
    (kPutEq : PySem.W.keepIn K (.ref fPutEq) = true)
    (aDrawEq : PySem.W.findIn K (.ref CDraw) "__eq__" = some (some (.ref fDrawEq)))
    (iDrawEq : PySem.W.isFn K (.ref fDrawEq) = true)
    (lDrawEq : K.lookup fDrawEq = some ⟨ocDrawEq, odDrawEq, .func (PySem.W.fnOf "__eq__" "Draw.__eq__" (defArgs sDrawEq) (defBody sDrawEq) (defScope sDrawEq) .none kVDrawEq dcDrawEq pmDrawEq anDrawEq cdDrawEq ctDrawEq), slDrawEq⟩)
    (qDrawEq : PySem.W.codeIn K cdDrawEq "Draw.__eq__" = true)
    (kDrawEq : PySem.W.keepIn K (.ref fDrawEq) = true)
    (aChangeEq : PySem.W.findIn K (.ref CChange) "__eq__" = some (some (.ref fChangeEq)))
    (iChangeEq : PySem.W.isFn K (.ref fChangeEq) = true)
    (lChangeEq : K.lookup fChangeEq = some ⟨ocChangeEq, odChangeEq, .func (PySem.W.fnOf "__eq__" "Change.__eq__" (defArgs sChangeEq) (defBody sChangeEq) (defScope sChangeEq) .none kVChangeEq dcChangeEq pmChangeEq anChangeEq cdChangeEq ctChangeEq), slChangeEq⟩)
    (qChangeEq : PySem.W.codeIn K cdChangeEq "Change.__eq__" = true)
    (kChangeEq : PySem.W.keepIn K (.ref fChangeEq) = true)
    (aRowEq : PySem.W.findIn K (.ref CRow) "__eq__" = some (some (.ref fRowEq)))
    (iRowEq : PySem.W.isFn K (.ref fRowEq) = true)
    (lRowEq : K.lookup fRowEq = some ⟨ocRowEq, odRowEq, .func (PySem.W.fnOf "__eq__" "Row.__eq__" (defArgs sRowEq) (defBody sRowEq) (defScope sRowEq) .none kVRowEq dcRowEq pmRowEq anRowEq cdRowEq ctRowEq), slRowEq⟩)
    (qRowEq : PySem.W.codeIn K cdRowEq "Row.__eq__" = true)
    (kRowEq : PySem.W.keepIn K (.ref fRowEq) = true)
    (areadrow : PySem.W.nsIn K mainGlobals "read_row" = some (some (.ref freadrow)))
    (lreadrow : K.lookup freadrow = some ⟨ocreadrow, odreadrow, .func (PySem.W.fnOf "read_row" "read_row" (defArgs sreadrow) (defBody sreadrow) (defScope sreadrow) .none kVreadrow dcreadrow pmreadrow anreadrow cdreadrow ctreadrow), slreadrow⟩)
    (qreadrow : PySem.W.codeIn K cdreadrow "read_row" = true)
    (kreadrow : PySem.W.keepIn K (.ref freadrow) = true)
    (areaddeeds : PySem.W.nsIn K mainGlobals "read_deeds" = some (some (.ref freaddeeds)))
    (lreaddeeds : K.lookup freaddeeds = some ⟨ocreaddeeds, odreaddeeds, .func (PySem.W.fnOf "read_deeds" "read_deeds" (defArgs sreaddeeds) (defBody sreaddeeds) (defScope sreaddeeds) .none kVreaddeeds dcreaddeeds pmreaddeeds anreaddeeds cdreaddeeds ctreaddeeds), slreaddeeds⟩)
    (qreaddeeds : PySem.W.codeIn K cdreaddeeds "read_deeds" = true)
    (kreaddeeds : PySem.W.keepIn K (.ref freaddeeds) = true)
    (areaddeed : PySem.W.nsIn K mainGlobals "read_deed" = some (some (.ref freaddeed)))
    (lreaddeed : K.lookup freaddeed = some ⟨ocreaddeed, odreaddeed, .func (PySem.W.fnOf "read_deed" "read_deed" (defArgs sreaddeed) (defBody sreaddeed) (defScope sreaddeed) .none kVreaddeed dcreaddeed pmreaddeed anreaddeed cdreaddeed ctreaddeed), slreaddeed⟩)
    (qreaddeed : PySem.W.codeIn K cdreaddeed "read_deed" = true)
    (kreaddeed : PySem.W.keepIn K (.ref freaddeed) = true)
    (aisnumber : PySem.W.nsIn K mainGlobals "is_number" = some (some (.ref fisnumber)))
    (lisnumber : K.lookup fisnumber = some ⟨ocisnumber, odisnumber, .func (PySem.W.fnOf "is_number" "is_number" (defArgs sisnumber) (defBody sisnumber) (defScope sisnumber) .none kVisnumber dcisnumber pmisnumber anisnumber cdisnumber ctisnumber), slisnumber⟩)
    (qisnumber : PySem.W.codeIn K cdisnumber "is_number" = true)
    (kisnumber : PySem.W.keepIn K (.ref fisnumber) = true)
    (aLwell : PySem.W.nsIn K mainGlobals "_law_well" = some (some (.ref fLwell)))
    (lLwell : K.lookup fLwell = some ⟨ocLwell, odLwell, .func (PySem.W.fnOf "_law_well" "_law_well" (defArgs sLwell) (defBody sLwell) (defScope sLwell) .none kVLwell dcLwell pmLwell anLwell cdLwell ctLwell), slLwell⟩)
    (qLwell : PySem.W.codeIn K cdLwell "_law_well" = true)
    (kLwell : PySem.W.keepIn K (.ref fLwell) = true)
    (aLdraw : PySem.W.nsIn K mainGlobals "_law_draw" = some (some (.ref fLdraw)))
    (lLdraw : K.lookup fLdraw = some ⟨ocLdraw, odLdraw, .func (PySem.W.fnOf "_law_draw" "_law_draw" (defArgs sLdraw) (defBody sLdraw) (defScope sLdraw) .none kVLdraw dcLdraw pmLdraw anLdraw cdLdraw ctLdraw), slLdraw⟩)
    (qLdraw : PySem.W.codeIn K cdLdraw "_law_draw" = true)
    (kLdraw : PySem.W.keepIn K (.ref fLdraw) = true)
    (aLcaps : PySem.W.nsIn K mainGlobals "_law_caps" = some (some (.ref fLcaps)))
    (lLcaps : K.lookup fLcaps = some ⟨ocLcaps, odLcaps, .func (PySem.W.fnOf "_law_caps" "_law_caps" (defArgs sLcaps) (defBody sLcaps) (defScope sLcaps) .none kVLcaps dcLcaps pmLcaps anLcaps cdLcaps ctLcaps), slLcaps⟩)
    (qLcaps : PySem.W.codeIn K cdLcaps "_law_caps" = true)
    (kLcaps : PySem.W.keepIn K (.ref fLcaps) = true)
    (aLfacts : PySem.W.nsIn K mainGlobals "_law_facts" = some (some (.ref fLfacts)))
    (lLfacts : K.lookup fLfacts = some ⟨ocLfacts, odLfacts, .func (PySem.W.fnOf "_law_facts" "_law_facts" (defArgs sLfacts) (defBody sLfacts) (defScope sLfacts) .none kVLfacts dcLfacts pmLfacts anLfacts cdLfacts ctLfacts), slLfacts⟩)
    (qLfacts : PySem.W.codeIn K cdLfacts "_law_facts" = true)
    (kLfacts : PySem.W.keepIn K (.ref fLfacts) = true)
    (aLdeed : PySem.W.nsIn K mainGlobals "_law_deed" = some (some (.ref fLdeed)))
    (lLdeed : K.lookup fLdeed = some ⟨ocLdeed, odLdeed, .func (PySem.W.fnOf "_law_deed" "_law_deed" (defArgs sLdeed) (defBody sLdeed) (defScope sLdeed) .none kVLdeed dcLdeed pmLdeed anLdeed cdLdeed ctLdeed), slLdeed⟩)
    (qLdeed : PySem.W.codeIn K cdLdeed "_law_deed" = true)
    (kLdeed : PySem.W.keepIn K (.ref fLdeed) = true)
    (aLrow : PySem.W.nsIn K mainGlobals "_law_row" = some (some (.ref fLrow)))
    (lLrow : K.lookup fLrow = some ⟨ocLrow, odLrow, .func (PySem.W.fnOf "_law_row" "_law_row" (defArgs sLrow) (defBody sLrow) (defScope sLrow) .none kVLrow dcLrow pmLrow anLrow cdLrow ctLrow), slLrow⟩)
    (qLrow : PySem.W.codeIn K cdLrow "_law_row" = true)
    (kLrow : PySem.W.keepIn K (.ref fLrow) = true)
    (aLtext : PySem.W.nsIn K mainGlobals "_law_text" = some (some (.ref fLtext)))
    (lLtext : K.lookup fLtext = some ⟨ocLtext, odLtext, .func (PySem.W.fnOf "_law_text" "_law_text" (defArgs sLtext) (defBody sLtext) (defScope sLtext) .none kVLtext dcLtext pmLtext anLtext cdLtext ctLtext), slLtext⟩)
    (qLtext : PySem.W.codeIn K cdLtext "_law_text" = true)
    (kLtext : PySem.W.keepIn K (.ref fLtext) = true)
    (aLiscount : PySem.W.nsIn K mainGlobals "_law_is_count" = some (some (.ref fLiscount)))
    (lLiscount : K.lookup fLiscount = some ⟨ocLiscount, odLiscount, .func (PySem.W.fnOf "_law_is_count" "_law_is_count" (defArgs sLiscount) (defBody sLiscount) (defScope sLiscount) .none kVLiscount dcLiscount pmLiscount anLiscount cdLiscount ctLiscount), slLiscount⟩)
    (qLiscount : PySem.W.codeIn K cdLiscount "_law_is_count" = true)
    (kLiscount : PySem.W.keepIn K (.ref fLiscount) = true)
    (aLfact : PySem.W.nsIn K mainGlobals "_law_fact" = some (some (.ref fLfact)))
    (lLfact : K.lookup fLfact = some ⟨ocLfact, odLfact, .func (PySem.W.fnOf "_law_fact" "_law_fact" (defArgs sLfact) (defBody sLfact) (defScope sLfact) .none kVLfact dcLfact pmLfact anLfact cdLfact ctLfact), slLfact⟩)
    (qLfact : PySem.W.codeIn K cdLfact "_law_fact" = true)
    (kLfact : PySem.W.keepIn K (.ref fLfact) = true)
    (aLdeedamiss : PySem.W.nsIn K mainGlobals "_law_deed_amiss" = some (some (.ref fLdeedamiss)))
    (lLdeedamiss : K.lookup fLdeedamiss = some ⟨ocLdeedamiss, odLdeedamiss, .func (PySem.W.fnOf "_law_deed_amiss" "_law_deed_amiss" (defArgs sLdeedamiss) (defBody sLdeedamiss) (defScope sLdeedamiss) .none kVLdeedamiss dcLdeedamiss pmLdeedamiss anLdeedamiss cdLdeedamiss ctLdeedamiss), slLdeedamiss⟩)
    (qLdeedamiss : PySem.W.codeIn K cdLdeedamiss "_law_deed_amiss" = true)
    (kLdeedamiss : PySem.W.keepIn K (.ref fLdeedamiss) = true)
    (aLdue : PySem.W.nsIn K mainGlobals "_law_due" = some (some (.ref fLdue)))
    (lLdue : K.lookup fLdue = some ⟨ocLdue, odLdue, .func (PySem.W.fnOf "_law_due" "_law_due" (defArgs sLdue) (defBody sLdue) (defScope sLdue) .none kVLdue dcLdue pmLdue anLdue cdLdue ctLdue), slLdue⟩)
    (qLdue : PySem.W.codeIn K cdLdue "_law_due" = true)
    (kLdue : PySem.W.keepIn K (.ref fLdue) = true)
    (aLsaid : PySem.W.nsIn K mainGlobals "_law_said" = some (some (.ref fLsaid)))
    (lLsaid : K.lookup fLsaid = some ⟨ocLsaid, odLsaid, .func (PySem.W.fnOf "_law_said" "_law_said" (defArgs sLsaid) (defBody sLsaid) (defScope sLsaid) .none kVLsaid dcLsaid pmLsaid anLsaid cdLsaid ctLsaid), slLsaid⟩)
    (qLsaid : PySem.W.codeIn K cdLsaid "_law_said" = true)
    (kLsaid : PySem.W.keepIn K (.ref fLsaid) = true)
    (aLspoilt : PySem.W.nsIn K mainGlobals "_law_spoilt" = some (some (.ref fLspoilt)))
    (lLspoilt : K.lookup fLspoilt = some ⟨ocLspoilt, odLspoilt, .func (PySem.W.fnOf "_law_spoilt" "_law_spoilt" (defArgs sLspoilt) (defBody sLspoilt) (defScope sLspoilt) .none kVLspoilt dcLspoilt pmLspoilt anLspoilt cdLspoilt ctLspoilt), slLspoilt⟩)
    (qLspoilt : PySem.W.codeIn K cdLspoilt "_law_spoilt" = true)
    (kLspoilt : PySem.W.keepIn K (.ref fLspoilt) = true)
    (alaw : PySem.W.nsIn K mainGlobals "law" = some (some (.ref flaw)))
    (llaw : K.lookup flaw = some ⟨oclaw, odlaw, .func (PySem.W.fnOf "law" "law" (defArgs slaw) (defBody slaw) (defScope slaw) .none kVlaw dclaw pmlaw anlaw cdlaw ctlaw), sllaw⟩)
    (qlaw : PySem.W.codeIn K cdlaw "law" = true)
    (klaw : PySem.W.keepIn K (.ref flaw) = true)
    (pgJars : PySem.W.plainGet K CJars Str.empty = true)
    (hdJars : PySem.W.hasDictIn K CJars = true)
    (poJars : PySem.W.plainOver K CJars = true)
    (saJars : PySem.W.findIn K (.ref CJars) "__setattr__" = some (some (.builtin "object.__setattr__")))
    (mkJars : PySem.W.makesIn K CJars = true)
    (kcJars : PySem.W.keepIn K (.ref CJars) = true)
    (nJars_sizes : PySem.W.findIn K (.ref CJars) "sizes" = some none)
    (pgPour : PySem.W.plainGet K CPour Str.empty = true)
    (hdPour : PySem.W.hasDictIn K CPour = true)
    (poPour : PySem.W.plainOver K CPour = true)
    (saPour : PySem.W.findIn K (.ref CPour) "__setattr__" = some (some (.builtin "object.__setattr__")))
    (mkPour : PySem.W.makesIn K CPour = true)
    (kcPour : PySem.W.keepIn K (.ref CPour) = true)
    (nPour_a : PySem.W.findIn K (.ref CPour) "a" = some none)
    (nPour_b : PySem.W.findIn K (.ref CPour) "b" = some none)
    (pgPut : PySem.W.plainGet K CPut Str.empty = true)
    (hdPut : PySem.W.hasDictIn K CPut = true)
    (poPut : PySem.W.plainOver K CPut = true)
    (saPut : PySem.W.findIn K (.ref CPut) "__setattr__" = some (some (.builtin "object.__setattr__")))
    (mkPut : PySem.W.makesIn K CPut = true)
    (kcPut : PySem.W.keepIn K (.ref CPut) = true)
    (nPut_a : PySem.W.findIn K (.ref CPut) "a" = some none)
    (nPut_k : PySem.W.findIn K (.ref CPut) "k" = some none)
    (pgDraw : PySem.W.plainGet K CDraw Str.empty = true)
    (hdDraw : PySem.W.hasDictIn K CDraw = true)
    (poDraw : PySem.W.plainOver K CDraw = true)
    (saDraw : PySem.W.findIn K (.ref CDraw) "__setattr__" = some (some (.builtin "object.__setattr__")))
    (mkDraw : PySem.W.makesIn K CDraw = true)
    (kcDraw : PySem.W.keepIn K (.ref CDraw) = true)
    (nDraw_a : PySem.W.findIn K (.ref CDraw) "a" = some none)
    (nDraw_k : PySem.W.findIn K (.ref CDraw) "k" = some none)
    (pgChange : PySem.W.plainGet K CChange Str.empty = true)
    (hdChange : PySem.W.hasDictIn K CChange = true)
    (poChange : PySem.W.plainOver K CChange = true)
    (saChange : PySem.W.findIn K (.ref CChange) "__setattr__" = some (some (.builtin "object.__setattr__")))
    (mkChange : PySem.W.makesIn K CChange = true)
    (kcChange : PySem.W.keepIn K (.ref CChange) = true)
    (nChange_a : PySem.W.findIn K (.ref CChange) "a" = some none)
    (nChange_b : PySem.W.findIn K (.ref CChange) "b" = some none)
    (pgRow : PySem.W.plainGet K CRow Str.empty = true)
    (hdRow : PySem.W.hasDictIn K CRow = true)
    (poRow : PySem.W.plainOver K CRow = true)
    (saRow : PySem.W.findIn K (.ref CRow) "__setattr__" = some (some (.builtin "object.__setattr__")))
    (mkRow : PySem.W.makesIn K CRow = true)
    (kcRow : PySem.W.keepIn K (.ref CRow) = true)
    (nRow_jars : PySem.W.findIn K (.ref CRow) "jars" = some none)
    (nRow_deeds : PySem.W.findIn K (.ref CRow) "deeds" = some none)
    (pgDeed : PySem.W.plainGet K CDeed Str.empty = true)
    (hdDeed : PySem.W.hasDictIn K CDeed = true)
    (poDeed : PySem.W.plainOver K CDeed = true)
    (saDeed : PySem.W.findIn K (.ref CDeed) "__setattr__" = some (some (.builtin "object.__setattr__")))
    (yaChange : PySem.W.findIn K (.ref CChange) "__class__" = some (some (.builtin "object.__class__")))
    (ymChange : PySem.W.mroIn K CChange (.type "object") = some true)
    (yaDraw : PySem.W.findIn K (.ref CDraw) "__class__" = some (some (.builtin "object.__class__")))
    (ymDraw : PySem.W.mroIn K CDraw (.type "object") = some true)
    (yaJars : PySem.W.findIn K (.ref CJars) "__class__" = some (some (.builtin "object.__class__")))
    (ymJars : PySem.W.mroIn K CJars (.type "object") = some true)
    (yaPour : PySem.W.findIn K (.ref CPour) "__class__" = some (some (.builtin "object.__class__")))
    (ymPour : PySem.W.mroIn K CPour (.type "object") = some true)
    (yaPut : PySem.W.findIn K (.ref CPut) "__class__" = some (some (.builtin "object.__class__")))
    (ymPut : PySem.W.mroIn K CPut (.type "object") = some true)
    (yaRow : PySem.W.findIn K (.ref CRow) "__class__" = some (some (.builtin "object.__class__")))
    (ymRow : PySem.W.mroIn K CRow (.type "object") = some true)
    (yn : PySem.W.specialIn K (.builtin "object.__class__") "__get__" = some (some (.builtin "getset_descriptor.__get__")))
    (yt : PySem.W.takesIn K (.builtin "object.__class__") = some true)
    (isPour_Put : PySem.W.kitOne K (.ref CPour) (.ref CPut) = some false)
    (isPour_Draw : PySem.W.kitOne K (.ref CPour) (.ref CDraw) = some false)
    (isPour_Pour : PySem.W.kitOne K (.ref CPour) (.ref CPour) = some true)
    (isPour_Change : PySem.W.kitOne K (.ref CPour) (.ref CChange) = some false)
    (isPut_Put : PySem.W.kitOne K (.ref CPut) (.ref CPut) = some true)
    (isPut_Draw : PySem.W.kitOne K (.ref CPut) (.ref CDraw) = some false)
    (isPut_Pour : PySem.W.kitOne K (.ref CPut) (.ref CPour) = some false)
    (isPut_Change : PySem.W.kitOne K (.ref CPut) (.ref CChange) = some false)
    (isDraw_Put : PySem.W.kitOne K (.ref CDraw) (.ref CPut) = some false)
    (isDraw_Draw : PySem.W.kitOne K (.ref CDraw) (.ref CDraw) = some true)
    (isDraw_Pour : PySem.W.kitOne K (.ref CDraw) (.ref CPour) = some false)
    (isDraw_Change : PySem.W.kitOne K (.ref CDraw) (.ref CChange) = some false)
    (isChange_Put : PySem.W.kitOne K (.ref CChange) (.ref CPut) = some false)
    (isChange_Draw : PySem.W.kitOne K (.ref CChange) (.ref CDraw) = some false)
    (isChange_Pour : PySem.W.kitOne K (.ref CChange) (.ref CPour) = some false)
    (isChange_Change : PySem.W.kitOne K (.ref CChange) (.ref CChange) = some true)
    (isJars_Jars : PySem.W.kitOne K (.ref CJars) (.ref CJars) = some true)
    (isRow_Row : PySem.W.kitOne K (.ref CRow) (.ref CRow) = some true)
    (isPour_Deed : PySem.W.kitOne K (.ref CPour) (.ref CDeed) = some true)
    (isPut_Deed : PySem.W.kitOne K (.ref CPut) (.ref CDeed) = some true)
    (isDraw_Deed : PySem.W.kitOne K (.ref CDraw) (.ref CDeed) = some true)
    (isChange_Deed : PySem.W.kitOne K (.ref CChange) (.ref CDeed) = some true)
    (nfPour_Put : PySem.W.notFirst K CPour (.ref CPut) = true)
    (nfPour_Draw : PySem.W.notFirst K CPour (.ref CDraw) = true)
    (nfPour_Change : PySem.W.notFirst K CPour (.ref CChange) = true)
    (nfPut_Pour : PySem.W.notFirst K CPut (.ref CPour) = true)
    (nfPut_Draw : PySem.W.notFirst K CPut (.ref CDraw) = true)
    (nfPut_Change : PySem.W.notFirst K CPut (.ref CChange) = true)
    (nfDraw_Pour : PySem.W.notFirst K CDraw (.ref CPour) = true)
    (nfDraw_Put : PySem.W.notFirst K CDraw (.ref CPut) = true)
    (nfDraw_Change : PySem.W.notFirst K CDraw (.ref CChange) = true)
    (nfChange_Pour : PySem.W.notFirst K CChange (.ref CPour) = true)
    (nfChange_Put : PySem.W.notFirst K CChange (.ref CPut) = true)
    (nfChange_Draw : PySem.W.notFirst K CChange (.ref CDraw) = true)
    (neMPour : PySem.W.findIn K (.ref CPour) "__ne__" = some (some (.builtin "object.__ne__")))
    (alPour_NoneType : PySem.W.subIn K (.ref CPour) (.type "NoneType") = some false)
    (ikPour_NoneType : PySem.W.kitOne K (.type "NoneType") (.ref CPour) = some false)
    (alPour_int : PySem.W.subIn K (.ref CPour) (.type "int") = some false)
    (ikPour_int : PySem.W.kitOne K (.type "int") (.ref CPour) = some false)
    (alPour_tuple : PySem.W.subIn K (.ref CPour) (.type "tuple") = some false)
    (ikPour_tuple : PySem.W.kitOne K (.type "tuple") (.ref CPour) = some false)
    (alPour_list : PySem.W.subIn K (.ref CPour) (.type "list") = some false)
    (ikPour_list : PySem.W.kitOne K (.type "list") (.ref CPour) = some false)
    (neMPut : PySem.W.findIn K (.ref CPut) "__ne__" = some (some (.builtin "object.__ne__")))
    (alPut_NoneType : PySem.W.subIn K (.ref CPut) (.type "NoneType") = some false)
    (ikPut_NoneType : PySem.W.kitOne K (.type "NoneType") (.ref CPut) = some false)
    (alPut_int : PySem.W.subIn K (.ref CPut) (.type "int") = some false)
    (ikPut_int : PySem.W.kitOne K (.type "int") (.ref CPut) = some false)
    (alPut_tuple : PySem.W.subIn K (.ref CPut) (.type "tuple") = some false)
    (ikPut_tuple : PySem.W.kitOne K (.type "tuple") (.ref CPut) = some false)
    (alPut_list : PySem.W.subIn K (.ref CPut) (.type "list") = some false)
    (ikPut_list : PySem.W.kitOne K (.type "list") (.ref CPut) = some false)
    (neMDraw : PySem.W.findIn K (.ref CDraw) "__ne__" = some (some (.builtin "object.__ne__")))
    (alDraw_NoneType : PySem.W.subIn K (.ref CDraw) (.type "NoneType") = some false)
    (ikDraw_NoneType : PySem.W.kitOne K (.type "NoneType") (.ref CDraw) = some false)
    (alDraw_int : PySem.W.subIn K (.ref CDraw) (.type "int") = some false)
    (ikDraw_int : PySem.W.kitOne K (.type "int") (.ref CDraw) = some false)
    (alDraw_tuple : PySem.W.subIn K (.ref CDraw) (.type "tuple") = some false)
    (ikDraw_tuple : PySem.W.kitOne K (.type "tuple") (.ref CDraw) = some false)
    (alDraw_list : PySem.W.subIn K (.ref CDraw) (.type "list") = some false)
    (ikDraw_list : PySem.W.kitOne K (.type "list") (.ref CDraw) = some false)
    (neMChange : PySem.W.findIn K (.ref CChange) "__ne__" = some (some (.builtin "object.__ne__")))
    (alChange_NoneType : PySem.W.subIn K (.ref CChange) (.type "NoneType") = some false)
    (ikChange_NoneType : PySem.W.kitOne K (.type "NoneType") (.ref CChange) = some false)
    (alChange_int : PySem.W.subIn K (.ref CChange) (.type "int") = some false)
    (ikChange_int : PySem.W.kitOne K (.type "int") (.ref CChange) = some false)
    (alChange_tuple : PySem.W.subIn K (.ref CChange) (.type "tuple") = some false)
    (ikChange_tuple : PySem.W.kitOne K (.type "tuple") (.ref CChange) = some false)
    (alChange_list : PySem.W.subIn K (.ref CChange) (.type "list") = some false)
    (ikChange_list : PySem.W.kitOne K (.type "list") (.ref CChange) = some false)
    (neMJars : PySem.W.findIn K (.ref CJars) "__ne__" = some (some (.builtin "object.__ne__")))
    (alJars_NoneType : PySem.W.subIn K (.ref CJars) (.type "NoneType") = some false)
    (ikJars_NoneType : PySem.W.kitOne K (.type "NoneType") (.ref CJars) = some false)
    (alJars_int : PySem.W.subIn K (.ref CJars) (.type "int") = some false)
    (ikJars_int : PySem.W.kitOne K (.type "int") (.ref CJars) = some false)
    (alJars_tuple : PySem.W.subIn K (.ref CJars) (.type "tuple") = some false)
    (ikJars_tuple : PySem.W.kitOne K (.type "tuple") (.ref CJars) = some false)
    (alJars_list : PySem.W.subIn K (.ref CJars) (.type "list") = some false)
    (ikJars_list : PySem.W.kitOne K (.type "list") (.ref CJars) = some false)
    (neMRow : PySem.W.findIn K (.ref CRow) "__ne__" = some (some (.builtin "object.__ne__")))
    (alRow_NoneType : PySem.W.subIn K (.ref CRow) (.type "NoneType") = some false)
    (ikRow_NoneType : PySem.W.kitOne K (.type "NoneType") (.ref CRow) = some false)
    (alRow_int : PySem.W.subIn K (.ref CRow) (.type "int") = some false)
    (ikRow_int : PySem.W.kitOne K (.type "int") (.ref CRow) = some false)
    (alRow_tuple : PySem.W.subIn K (.ref CRow) (.type "tuple") = some false)
    (ikRow_tuple : PySem.W.kitOne K (.type "tuple") (.ref CRow) = some false)
    (alRow_list : PySem.W.subIn K (.ref CRow) (.type "list") = some false)
    (ikRow_list : PySem.W.kitOne K (.type "list") (.ref CRow) = some false)
    (tyBadCount : PySem.W.typeIn K (.ref fBadCountInit) = some (.type "function"))
    (oxBadCount : K.lookup CBadCount = some (PySem.excClassObj nmXBadCount qXBadCount CBadCount NXBadCount bsXBadCount bmXBadCount true snXBadCount subXBadCount abXBadCount colXBadCount ddXBadCount r0XBadCount r1XBadCount r2XBadCount r3XBadCount r5XBadCount "ValueError.__new__"))
    (orBadCount : PySem.HandSPX.refsVE bmXBadCount = true)
    (osBadCount : PySem.W.findIn K (.ref CBadCount) "__setattr__" = some (some (.builtin "object.__setattr__")))
    (obBadCount : PySem.W.subIn K (.ref CBadCount) (.type "BaseException") = some true)
    (otBadCount : PySem.W.typeIn K (.ref CBadCount) = some (.type "type"))
    (okBadCount : PySem.W.keepIn K (.ref CBadCount) = true)
    (xgBadCount : PySem.W.findIn K (.ref CBadCount) "__getattribute__" = some (some (.builtin "BaseException.__getattribute__")))
    (xnBadCount : PySem.W.findIn K (.ref CBadCount) "__getattr__" = some none)
    (xdBadCount : PySem.W.hasDictIn K CBadCount = true)
    (nBadCount_what : PySem.W.findIn K (.ref CBadCount) "what" = some none)
    (nBadCount_count : PySem.W.findIn K (.ref CBadCount) "count" = some none)
    (euBadCount_BadCount : PySem.W.subIn K (.ref CBadCount) (.ref CBadCount) = some true)
    (euBadCount_NoJar : PySem.W.subIn K (.ref CBadCount) (.ref CNoJar) = some false)
    (euBadCount_SameJar : PySem.W.subIn K (.ref CBadCount) (.ref CSameJar) = some false)
    (euBadCount_Sizes : PySem.W.subIn K (.ref CBadCount) (.ref CSizes) = some false)
    (euBadCount_BadText : PySem.W.subIn K (.ref CBadCount) (.ref CBadText) = some false)
    (tyNoJar : PySem.W.typeIn K (.ref fNoJarInit) = some (.type "function"))
    (oxNoJar : K.lookup CNoJar = some (PySem.excClassObj nmXNoJar qXNoJar CNoJar NXNoJar bsXNoJar bmXNoJar true snXNoJar subXNoJar abXNoJar colXNoJar ddXNoJar r0XNoJar r1XNoJar r2XNoJar r3XNoJar r5XNoJar "ValueError.__new__"))
    (orNoJar : PySem.HandSPX.refsVE bmXNoJar = true)
    (osNoJar : PySem.W.findIn K (.ref CNoJar) "__setattr__" = some (some (.builtin "object.__setattr__")))
    (obNoJar : PySem.W.subIn K (.ref CNoJar) (.type "BaseException") = some true)
    (otNoJar : PySem.W.typeIn K (.ref CNoJar) = some (.type "type"))
    (okNoJar : PySem.W.keepIn K (.ref CNoJar) = true)
    (xgNoJar : PySem.W.findIn K (.ref CNoJar) "__getattribute__" = some (some (.builtin "BaseException.__getattribute__")))
    (xnNoJar : PySem.W.findIn K (.ref CNoJar) "__getattr__" = some none)
    (xdNoJar : PySem.W.hasDictIn K CNoJar = true)
    (nNoJar_jar : PySem.W.findIn K (.ref CNoJar) "jar" = some none)
    (euNoJar_BadCount : PySem.W.subIn K (.ref CNoJar) (.ref CBadCount) = some false)
    (euNoJar_NoJar : PySem.W.subIn K (.ref CNoJar) (.ref CNoJar) = some true)
    (euNoJar_SameJar : PySem.W.subIn K (.ref CNoJar) (.ref CSameJar) = some false)
    (euNoJar_Sizes : PySem.W.subIn K (.ref CNoJar) (.ref CSizes) = some false)
    (euNoJar_BadText : PySem.W.subIn K (.ref CNoJar) (.ref CBadText) = some false)
    (tySameJar : PySem.W.typeIn K (.ref fSameJarInit) = some (.type "function"))
    (oxSameJar : K.lookup CSameJar = some (PySem.excClassObj nmXSameJar qXSameJar CSameJar NXSameJar bsXSameJar bmXSameJar true snXSameJar subXSameJar abXSameJar colXSameJar ddXSameJar r0XSameJar r1XSameJar r2XSameJar r3XSameJar r5XSameJar "ValueError.__new__"))
    (orSameJar : PySem.HandSPX.refsVE bmXSameJar = true)
    (osSameJar : PySem.W.findIn K (.ref CSameJar) "__setattr__" = some (some (.builtin "object.__setattr__")))
    (obSameJar : PySem.W.subIn K (.ref CSameJar) (.type "BaseException") = some true)
    (otSameJar : PySem.W.typeIn K (.ref CSameJar) = some (.type "type"))
    (okSameJar : PySem.W.keepIn K (.ref CSameJar) = true)
    (xgSameJar : PySem.W.findIn K (.ref CSameJar) "__getattribute__" = some (some (.builtin "BaseException.__getattribute__")))
    (xnSameJar : PySem.W.findIn K (.ref CSameJar) "__getattr__" = some none)
    (xdSameJar : PySem.W.hasDictIn K CSameJar = true)
    (nSameJar_jar : PySem.W.findIn K (.ref CSameJar) "jar" = some none)
    (euSameJar_BadCount : PySem.W.subIn K (.ref CSameJar) (.ref CBadCount) = some false)
    (euSameJar_NoJar : PySem.W.subIn K (.ref CSameJar) (.ref CNoJar) = some false)
    (euSameJar_SameJar : PySem.W.subIn K (.ref CSameJar) (.ref CSameJar) = some true)
    (euSameJar_Sizes : PySem.W.subIn K (.ref CSameJar) (.ref CSizes) = some false)
    (euSameJar_BadText : PySem.W.subIn K (.ref CSameJar) (.ref CBadText) = some false)
    (tySizes : PySem.W.typeIn K (.ref fSizesInit) = some (.type "function"))
    (oxSizes : K.lookup CSizes = some (PySem.excClassObj nmXSizes qXSizes CSizes NXSizes bsXSizes bmXSizes true snXSizes subXSizes abXSizes colXSizes ddXSizes r0XSizes r1XSizes r2XSizes r3XSizes r5XSizes "ValueError.__new__"))
    (orSizes : PySem.HandSPX.refsVE bmXSizes = true)
    (osSizes : PySem.W.findIn K (.ref CSizes) "__setattr__" = some (some (.builtin "object.__setattr__")))
    (obSizes : PySem.W.subIn K (.ref CSizes) (.type "BaseException") = some true)
    (otSizes : PySem.W.typeIn K (.ref CSizes) = some (.type "type"))
    (okSizes : PySem.W.keepIn K (.ref CSizes) = true)
    (xgSizes : PySem.W.findIn K (.ref CSizes) "__getattribute__" = some (some (.builtin "BaseException.__getattribute__")))
    (xnSizes : PySem.W.findIn K (.ref CSizes) "__getattr__" = some none)
    (xdSizes : PySem.W.hasDictIn K CSizes = true)
    (nSizes_a : PySem.W.findIn K (.ref CSizes) "a" = some none)
    (nSizes_b : PySem.W.findIn K (.ref CSizes) "b" = some none)
    (euSizes_BadCount : PySem.W.subIn K (.ref CSizes) (.ref CBadCount) = some false)
    (euSizes_NoJar : PySem.W.subIn K (.ref CSizes) (.ref CNoJar) = some false)
    (euSizes_SameJar : PySem.W.subIn K (.ref CSizes) (.ref CSameJar) = some false)
    (euSizes_Sizes : PySem.W.subIn K (.ref CSizes) (.ref CSizes) = some true)
    (euSizes_BadText : PySem.W.subIn K (.ref CSizes) (.ref CBadText) = some false)
    (tyBadText : PySem.W.typeIn K (.ref fBadTextInit) = some (.type "function"))
    (oxBadText : K.lookup CBadText = some (PySem.excClassObj nmXBadText qXBadText CBadText NXBadText bsXBadText bmXBadText true snXBadText subXBadText abXBadText colXBadText ddXBadText r0XBadText r1XBadText r2XBadText r3XBadText r5XBadText "ValueError.__new__"))
    (orBadText : PySem.HandSPX.refsVE bmXBadText = true)
    (osBadText : PySem.W.findIn K (.ref CBadText) "__setattr__" = some (some (.builtin "object.__setattr__")))
    (obBadText : PySem.W.subIn K (.ref CBadText) (.type "BaseException") = some true)
    (otBadText : PySem.W.typeIn K (.ref CBadText) = some (.type "type"))
    (okBadText : PySem.W.keepIn K (.ref CBadText) = true)
    (xgBadText : PySem.W.findIn K (.ref CBadText) "__getattribute__" = some (some (.builtin "BaseException.__getattribute__")))
    (xnBadText : PySem.W.findIn K (.ref CBadText) "__getattr__" = some none)
    (xdBadText : PySem.W.hasDictIn K CBadText = true)
    (nBadText_place : PySem.W.findIn K (.ref CBadText) "place" = some none)
    (euBadText_BadCount : PySem.W.subIn K (.ref CBadText) (.ref CBadCount) = some false)
    (euBadText_NoJar : PySem.W.subIn K (.ref CBadText) (.ref CNoJar) = some false)
    (euBadText_SameJar : PySem.W.subIn K (.ref CBadText) (.ref CSameJar) = some false)
    (euBadText_Sizes : PySem.W.subIn K (.ref CBadText) (.ref CSizes) = some false)
    (euBadText_BadText : PySem.W.subIn K (.ref CBadText) (.ref CBadText) = some true)
    (gMOSTJARS : PySem.W.nsIn K mainGlobals "MOST_JARS" = some (some (.int 6 tkMOSTJARS)))
    (gMOSTDEEDS : PySem.W.nsIn K mainGlobals "MOST_DEEDS" = some (some (.int 20 tkMOSTDEEDS)))
    (gMOSTMUCH : PySem.W.nsIn K mainGlobals "MOST_MUCH" = some (some (.int 1000000000000 tkMOSTMUCH)))
    (gMOSTFIGURES : PySem.W.nsIn K mainGlobals "MOST_FIGURES" = some (some (.int 13 tkMOSTFIGURES)))
    (gNODEEDS : PySem.W.nsIn K mainGlobals "NO_DEEDS" = some (some (.str "none" tkNODEEDS)))
    (zabs : PySem.W.nsIn K mainGlobals "abs" = some none)
    (zall : PySem.W.nsIn K mainGlobals "all" = some none)
    (zenumerate : PySem.W.nsIn K mainGlobals "enumerate" = some none)
    (zint : PySem.W.nsIn K mainGlobals "int" = some none)
    (zisinstance : PySem.W.nsIn K mainGlobals "isinstance" = some none)
    (zlen : PySem.W.nsIn K mainGlobals "len" = some none)
    (zlist : PySem.W.nsIn K mainGlobals "list" = some none)
    (zmin : PySem.W.nsIn K mainGlobals "min" = some none)
    (zrange : PySem.W.nsIn K mainGlobals "range" = some none)
    (zstr : PySem.W.nsIn K mainGlobals "str" = some none)
    (ztuple : PySem.W.nsIn K mainGlobals "tuple" = some none) :
    ∃ fd : FuncData, (∀ (s : Shared) (v : Value), BindsTo s fd ⟨[v], []⟩ [("_law_script", v)]) ∧ ∀ base : Heap, K.In base → base.Ns mainGlobals mg → FnOk l.prog w K mg base CX0 9 fa fd ["_law_script"] (spLaw K) := by
  have e := hfa.symm.trans (PySem.W.mg_of X G alaw)
  cases e
  exact ⟨PySem.W.fnOf "law" "law" (defArgs slaw) (defBody slaw) (defScope slaw) .none kVlaw dclaw pmlaw anlaw cdlaw ctlaw, fun s v => .of_eq rfl, fun base _ _ => oklaw {
    cJars := CJars
    mJars := PySem.W.mg_of X G xJars
    cPour := CPour
    mPour := PySem.W.mg_of X G xPour
    cPut := CPut
    mPut := PySem.W.mg_of X G xPut
    cDraw := CDraw
    mDraw := PySem.W.mg_of X G xDraw
    cChange := CChange
    mChange := PySem.W.mg_of X G xChange
    cRow := CRow
    mRow := PySem.W.mg_of X G xRow
    cDeed := CDeed
    mDeed := PySem.W.mg_of X G xDeed
    cBadCount := CBadCount
    mBadCount := PySem.W.mg_of X G xBadCount
    cNoJar := CNoJar
    mNoJar := PySem.W.mg_of X G xNoJar
    cSameJar := CSameJar
    mSameJar := PySem.W.mg_of X G xSameJar
    cSizes := CSizes
    mSizes := PySem.W.mg_of X G xSizes
    cBadText := CBadText
    mBadText := PySem.W.mg_of X G xBadText
    gcheckmuch := PySem.W.mg_of X G acheckmuch
    acheckmuch := fcheckmuch
    dcheckmuch := PySem.W.fnOf "check_much" "check_much" (defArgs scheckmuch) (defBody scheckmuch) (defScope scheckmuch) .none kVcheckmuch dccheckmuch pmcheckmuch ancheckmuch cdcheckmuch ctcheckmuch
    fcheckmuch := fun_mk (st := scheckmuch) lcheckmuch qcheckmuch kcheckmuch
    bcheckmuch := (fun_mk (st := scheckmuch) lcheckmuch qcheckmuch kcheckmuch).binds (ps := ["what", "much"]) fun _ _ _ _ _ _ us hl => match us, hl with | [_, _], _ => rfl
    gcheckjar := PySem.W.mg_of X G acheckjar
    acheckjar := fcheckjar
    dcheckjar := PySem.W.fnOf "check_jar" "check_jar" (defArgs scheckjar) (defBody scheckjar) (defScope scheckjar) .none kVcheckjar dccheckjar pmcheckjar ancheckjar cdcheckjar ctcheckjar
    fcheckjar := fun_mk (st := scheckjar) lcheckjar qcheckjar kcheckjar
    bcheckjar := (fun_mk (st := scheckjar) lcheckjar qcheckjar kcheckjar).binds (ps := ["jars", "jar"]) fun _ _ _ _ _ _ us hl => match us, hl with | [_, _], _ => rfl
    gcheckdeed := PySem.W.mg_of X G acheckdeed
    acheckdeed := fcheckdeed
    dcheckdeed := PySem.W.fnOf "check_deed" "check_deed" (defArgs scheckdeed) (defBody scheckdeed) (defScope scheckdeed) .none kVcheckdeed dccheckdeed pmcheckdeed ancheckdeed cdcheckdeed ctcheckdeed
    fcheckdeed := fun_mk (st := scheckdeed) lcheckdeed qcheckdeed kcheckdeed
    bcheckdeed := (fun_mk (st := scheckdeed) lcheckdeed qcheckdeed kcheckdeed).binds (ps := ["jars", "deed"]) fun _ _ _ _ _ _ us hl => match us, hl with | [_, _], _ => rfl
    aBadCountInit := fBadCountInit
    dBadCountInit := PySem.W.fnOf "__init__" "BadCount.__init__" (defArgs sBadCountInit) (defBody sBadCountInit) (defScope sBadCountInit) .none kVBadCountInit dcBadCountInit pmBadCountInit anBadCountInit cdBadCountInit ctBadCountInit
    fBadCountInit := fun_mk (st := sBadCountInit) lBadCountInit qBadCountInit kBadCountInit
    bBadCountInit := (fun_mk (st := sBadCountInit) lBadCountInit qBadCountInit kBadCountInit).binds (ps := ["self", "what", "count"]) fun _ _ _ _ _ _ us hl => match us, hl with | [_, _, _], _ => rfl
    aNoJarInit := fNoJarInit
    dNoJarInit := PySem.W.fnOf "__init__" "NoJar.__init__" (defArgs sNoJarInit) (defBody sNoJarInit) (defScope sNoJarInit) .none kVNoJarInit dcNoJarInit pmNoJarInit anNoJarInit cdNoJarInit ctNoJarInit
    fNoJarInit := fun_mk (st := sNoJarInit) lNoJarInit qNoJarInit kNoJarInit
    bNoJarInit := (fun_mk (st := sNoJarInit) lNoJarInit qNoJarInit kNoJarInit).binds (ps := ["self", "jar"]) fun _ _ _ _ _ _ us hl => match us, hl with | [_, _], _ => rfl
    aSameJarInit := fSameJarInit
    dSameJarInit := PySem.W.fnOf "__init__" "SameJar.__init__" (defArgs sSameJarInit) (defBody sSameJarInit) (defScope sSameJarInit) .none kVSameJarInit dcSameJarInit pmSameJarInit anSameJarInit cdSameJarInit ctSameJarInit
    fSameJarInit := fun_mk (st := sSameJarInit) lSameJarInit qSameJarInit kSameJarInit
    bSameJarInit := (fun_mk (st := sSameJarInit) lSameJarInit qSameJarInit kSameJarInit).binds (ps := ["self", "jar"]) fun _ _ _ _ _ _ us hl => match us, hl with | [_, _], _ => rfl
    aSizesInit := fSizesInit
    dSizesInit := PySem.W.fnOf "__init__" "Sizes.__init__" (defArgs sSizesInit) (defBody sSizesInit) (defScope sSizesInit) .none kVSizesInit dcSizesInit pmSizesInit anSizesInit cdSizesInit ctSizesInit
    fSizesInit := fun_mk (st := sSizesInit) lSizesInit qSizesInit kSizesInit
    bSizesInit := (fun_mk (st := sSizesInit) lSizesInit qSizesInit kSizesInit).binds (ps := ["self", "a", "b"]) fun _ _ _ _ _ _ us hl => match us, hl with | [_, _, _], _ => rfl
    aBadTextInit := fBadTextInit
    dBadTextInit := PySem.W.fnOf "__init__" "BadText.__init__" (defArgs sBadTextInit) (defBody sBadTextInit) (defScope sBadTextInit) .none kVBadTextInit dcBadTextInit pmBadTextInit anBadTextInit cdBadTextInit ctBadTextInit
    fBadTextInit := fun_mk (st := sBadTextInit) lBadTextInit qBadTextInit kBadTextInit
    bBadTextInit := (fun_mk (st := sBadTextInit) lBadTextInit qBadTextInit kBadTextInit).binds (ps := ["self", "place"]) fun _ _ _ _ _ _ us hl => match us, hl with | [_, _], _ => rfl
    aJarsInit := fJarsInit
    dJarsInit := PySem.W.fnOf "__init__" "Jars.__init__" (defArgs sJarsInit) (defBody sJarsInit) (defScope sJarsInit) .none kVJarsInit dcJarsInit pmJarsInit anJarsInit cdJarsInit ctJarsInit
    fJarsInit := fun_mk (st := sJarsInit) lJarsInit qJarsInit kJarsInit
    bJarsInit := (fun_mk (st := sJarsInit) lJarsInit qJarsInit kJarsInit).binds (ps := ["self", "sizes"]) fun _ _ _ _ _ _ us hl => match us, hl with | [_, _], _ => rfl
    aPourInit := fPourInit
    dPourInit := PySem.W.fnOf "__init__" "Pour.__init__" (defArgs sPourInit) (defBody sPourInit) (defScope sPourInit) .none kVPourInit dcPourInit pmPourInit anPourInit cdPourInit ctPourInit
    fPourInit := fun_mk (st := sPourInit) lPourInit qPourInit kPourInit
    bPourInit := (fun_mk (st := sPourInit) lPourInit qPourInit kPourInit).binds (ps := ["self", "a", "b"]) fun _ _ _ _ _ _ us hl => match us, hl with | [_, _, _], _ => rfl
    aPutInit := fPutInit
    dPutInit := PySem.W.fnOf "__init__" "Put.__init__" (defArgs sPutInit) (defBody sPutInit) (defScope sPutInit) .none kVPutInit dcPutInit pmPutInit anPutInit cdPutInit ctPutInit
    fPutInit := fun_mk (st := sPutInit) lPutInit qPutInit kPutInit
    bPutInit := (fun_mk (st := sPutInit) lPutInit qPutInit kPutInit).binds (ps := ["self", "a", "k"]) fun _ _ _ _ _ _ us hl => match us, hl with | [_, _, _], _ => rfl
    aDrawInit := fDrawInit
    dDrawInit := PySem.W.fnOf "__init__" "Draw.__init__" (defArgs sDrawInit) (defBody sDrawInit) (defScope sDrawInit) .none kVDrawInit dcDrawInit pmDrawInit anDrawInit cdDrawInit ctDrawInit
    fDrawInit := fun_mk (st := sDrawInit) lDrawInit qDrawInit kDrawInit
    bDrawInit := (fun_mk (st := sDrawInit) lDrawInit qDrawInit kDrawInit).binds (ps := ["self", "a", "k"]) fun _ _ _ _ _ _ us hl => match us, hl with | [_, _, _], _ => rfl
    aChangeInit := fChangeInit
    dChangeInit := PySem.W.fnOf "__init__" "Change.__init__" (defArgs sChangeInit) (defBody sChangeInit) (defScope sChangeInit) .none kVChangeInit dcChangeInit pmChangeInit anChangeInit cdChangeInit ctChangeInit
    fChangeInit := fun_mk (st := sChangeInit) lChangeInit qChangeInit kChangeInit
    bChangeInit := (fun_mk (st := sChangeInit) lChangeInit qChangeInit kChangeInit).binds (ps := ["self", "a", "b"]) fun _ _ _ _ _ _ us hl => match us, hl with | [_, _, _], _ => rfl
    aRowInit := fRowInit
    dRowInit := PySem.W.fnOf "__init__" "Row.__init__" (defArgs sRowInit) (defBody sRowInit) (defScope sRowInit) .none kVRowInit dcRowInit pmRowInit anRowInit cdRowInit ctRowInit
    fRowInit := fun_mk (st := sRowInit) lRowInit qRowInit kRowInit
    bRowInit := (fun_mk (st := sRowInit) lRowInit qRowInit kRowInit).binds (ps := ["self", "jars", "deeds"]) fun _ _ _ _ _ _ us hl => match us, hl with | [_, _, _], _ => rfl
    eJarsEq := aJarsEq
    eiJarsEq := iJarsEq
    aJarsEq := fJarsEq
    dJarsEq := PySem.W.fnOf "__eq__" "Jars.__eq__" (defArgs sJarsEq) (defBody sJarsEq) (defScope sJarsEq) .none kVJarsEq dcJarsEq pmJarsEq anJarsEq cdJarsEq ctJarsEq
    fJarsEq := fun_mk (st := sJarsEq) lJarsEq qJarsEq kJarsEq
    bJarsEq := (fun_mk (st := sJarsEq) lJarsEq qJarsEq kJarsEq).binds (ps := ["self", "other"]) fun _ _ _ _ _ _ us hl => match us, hl with | [_, _], _ => rfl
    ePourEq := aPourEq
    eiPourEq := iPourEq
    aPourEq := fPourEq
    dPourEq := PySem.W.fnOf "__eq__" "Pour.__eq__" (defArgs sPourEq) (defBody sPourEq) (defScope sPourEq) .none kVPourEq dcPourEq pmPourEq anPourEq cdPourEq ctPourEq
    fPourEq := fun_mk (st := sPourEq) lPourEq qPourEq kPourEq
    bPourEq := (fun_mk (st := sPourEq) lPourEq qPourEq kPourEq).binds (ps := ["self", "other"]) fun _ _ _ _ _ _ us hl => match us, hl with | [_, _], _ => rfl
    ePutEq := aPutEq
    eiPutEq := iPutEq
    aPutEq := fPutEq
    dPutEq := PySem.W.fnOf "__eq__" "Put.__eq__" (defArgs sPutEq) (defBody sPutEq) (defScope sPutEq) .none kVPutEq dcPutEq pmPutEq anPutEq cdPutEq ctPutEq
    fPutEq := fun_mk (st := sPutEq) lPutEq qPutEq kPutEq
    bPutEq := (fun_mk (st := sPutEq) lPutEq qPutEq kPutEq).binds (ps := ["self", "other"]) fun _ _ _ _ _ _ us hl => match us, hl with | [_, _], _ => rfl
    eDrawEq := aDrawEq
    eiDrawEq := iDrawEq
    aDrawEq := fDrawEq
    dDrawEq := PySem.W.fnOf "__eq__" "Draw.__eq__" (defArgs sDrawEq) (defBody sDrawEq) (defScope sDrawEq) .none kVDrawEq dcDrawEq pmDrawEq anDrawEq cdDrawEq ctDrawEq
    fDrawEq := fun_mk (st := sDrawEq) lDrawEq qDrawEq kDrawEq
    bDrawEq := (fun_mk (st := sDrawEq) lDrawEq qDrawEq kDrawEq).binds (ps := ["self", "other"]) fun _ _ _ _ _ _ us hl => match us, hl with | [_, _], _ => rfl
    eChangeEq := aChangeEq
    eiChangeEq := iChangeEq
    aChangeEq := fChangeEq
    dChangeEq := PySem.W.fnOf "__eq__" "Change.__eq__" (defArgs sChangeEq) (defBody sChangeEq) (defScope sChangeEq) .none kVChangeEq dcChangeEq pmChangeEq anChangeEq cdChangeEq ctChangeEq
    fChangeEq := fun_mk (st := sChangeEq) lChangeEq qChangeEq kChangeEq
    bChangeEq := (fun_mk (st := sChangeEq) lChangeEq qChangeEq kChangeEq).binds (ps := ["self", "other"]) fun _ _ _ _ _ _ us hl => match us, hl with | [_, _], _ => rfl
    eRowEq := aRowEq
    eiRowEq := iRowEq
    aRowEq := fRowEq
    dRowEq := PySem.W.fnOf "__eq__" "Row.__eq__" (defArgs sRowEq) (defBody sRowEq) (defScope sRowEq) .none kVRowEq dcRowEq pmRowEq anRowEq cdRowEq ctRowEq
    fRowEq := fun_mk (st := sRowEq) lRowEq qRowEq kRowEq
    bRowEq := (fun_mk (st := sRowEq) lRowEq qRowEq kRowEq).binds (ps := ["self", "other"]) fun _ _ _ _ _ _ us hl => match us, hl with | [_, _], _ => rfl
    greadrow := PySem.W.mg_of X G areadrow
    areadrow := freadrow
    dreadrow := PySem.W.fnOf "read_row" "read_row" (defArgs sreadrow) (defBody sreadrow) (defScope sreadrow) .none kVreadrow dcreadrow pmreadrow anreadrow cdreadrow ctreadrow
    freadrow := fun_mk (st := sreadrow) lreadrow qreadrow kreadrow
    breadrow := (fun_mk (st := sreadrow) lreadrow qreadrow kreadrow).binds (ps := ["jars", "text"]) fun _ _ _ _ _ _ us hl => match us, hl with | [_, _], _ => rfl
    greaddeeds := PySem.W.mg_of X G areaddeeds
    areaddeeds := freaddeeds
    dreaddeeds := PySem.W.fnOf "read_deeds" "read_deeds" (defArgs sreaddeeds) (defBody sreaddeeds) (defScope sreaddeeds) .none kVreaddeeds dcreaddeeds pmreaddeeds anreaddeeds cdreaddeeds ctreaddeeds
    freaddeeds := fun_mk (st := sreaddeeds) lreaddeeds qreaddeeds kreaddeeds
    breaddeeds := (fun_mk (st := sreaddeeds) lreaddeeds qreaddeeds kreaddeeds).binds (ps := ["text"]) fun _ _ _ _ _ _ us hl => match us, hl with | [_], _ => rfl
    greaddeed := PySem.W.mg_of X G areaddeed
    areaddeed := freaddeed
    dreaddeed := PySem.W.fnOf "read_deed" "read_deed" (defArgs sreaddeed) (defBody sreaddeed) (defScope sreaddeed) .none kVreaddeed dcreaddeed pmreaddeed anreaddeed cdreaddeed ctreaddeed
    freaddeed := fun_mk (st := sreaddeed) lreaddeed qreaddeed kreaddeed
    breaddeed := (fun_mk (st := sreaddeed) lreaddeed qreaddeed kreaddeed).binds (ps := ["place", "text"]) fun _ _ _ _ _ _ us hl => match us, hl with | [_, _], _ => rfl
    gisnumber := PySem.W.mg_of X G aisnumber
    aisnumber := fisnumber
    disnumber := PySem.W.fnOf "is_number" "is_number" (defArgs sisnumber) (defBody sisnumber) (defScope sisnumber) .none kVisnumber dcisnumber pmisnumber anisnumber cdisnumber ctisnumber
    fisnumber := fun_mk (st := sisnumber) lisnumber qisnumber kisnumber
    bisnumber := (fun_mk (st := sisnumber) lisnumber qisnumber kisnumber).binds (ps := ["part"]) fun _ _ _ _ _ _ us hl => match us, hl with | [_], _ => rfl
    gLwell := PySem.W.mg_of X G aLwell
    aLwell := fLwell
    dLwell := PySem.W.fnOf "_law_well" "_law_well" (defArgs sLwell) (defBody sLwell) (defScope sLwell) .none kVLwell dcLwell pmLwell anLwell cdLwell ctLwell
    fLwell := fun_mk (st := sLwell) lLwell qLwell kLwell
    bLwell := (fun_mk (st := sLwell) lLwell qLwell kLwell).binds (ps := ["_law_cell"]) fun _ _ _ _ _ _ us hl => match us, hl with | [_], _ => rfl
    gLdraw := PySem.W.mg_of X G aLdraw
    aLdraw := fLdraw
    dLdraw := PySem.W.fnOf "_law_draw" "_law_draw" (defArgs sLdraw) (defBody sLdraw) (defScope sLdraw) .none kVLdraw dcLdraw pmLdraw anLdraw cdLdraw ctLdraw
    fLdraw := fun_mk (st := sLdraw) lLdraw qLdraw kLdraw
    bLdraw := (fun_mk (st := sLdraw) lLdraw qLdraw kLdraw).binds (ps := ["_law_well_here", "_law_many"]) fun _ _ _ _ _ _ us hl => match us, hl with | [_, _], _ => rfl
    gLcaps := PySem.W.mg_of X G aLcaps
    aLcaps := fLcaps
    dLcaps := PySem.W.fnOf "_law_caps" "_law_caps" (defArgs sLcaps) (defBody sLcaps) (defScope sLcaps) .none kVLcaps dcLcaps pmLcaps anLcaps cdLcaps ctLcaps
    fLcaps := fun_mk (st := sLcaps) lLcaps qLcaps kLcaps
    bLcaps := (fun_mk (st := sLcaps) lLcaps qLcaps kLcaps).binds (ps := ["_law_well_here", "_law_most"]) fun _ _ _ _ _ _ us hl => match us, hl with | [_, _], _ => rfl
    gLfacts := PySem.W.mg_of X G aLfacts
    aLfacts := fLfacts
    dLfacts := PySem.W.fnOf "_law_facts" "_law_facts" (defArgs sLfacts) (defBody sLfacts) (defScope sLfacts) .none kVLfacts dcLfacts pmLfacts anLfacts cdLfacts ctLfacts
    fLfacts := fun_mk (st := sLfacts) lLfacts qLfacts kLfacts
    bLfacts := (fun_mk (st := sLfacts) lLfacts qLfacts kLfacts).binds (ps := ["_law_well_here", "_law_caps_here", "_law_many"]) fun _ _ _ _ _ _ us hl => match us, hl with | [_, _, _], _ => rfl
    gLdeed := PySem.W.mg_of X G aLdeed
    aLdeed := fLdeed
    dLdeed := PySem.W.fnOf "_law_deed" "_law_deed" (defArgs sLdeed) (defBody sLdeed) (defScope sLdeed) .none kVLdeed dcLdeed pmLdeed anLdeed cdLdeed ctLdeed
    fLdeed := fun_mk (st := sLdeed) lLdeed qLdeed kLdeed
    bLdeed := (fun_mk (st := sLdeed) lLdeed qLdeed kLdeed).binds (ps := ["_law_fact_here"]) fun _ _ _ _ _ _ us hl => match us, hl with | [_], _ => rfl
    gLrow := PySem.W.mg_of X G aLrow
    aLrow := fLrow
    dLrow := PySem.W.fnOf "_law_row" "_law_row" (defArgs sLrow) (defBody sLrow) (defScope sLrow) .none kVLrow dcLrow pmLrow anLrow cdLrow ctLrow
    fLrow := fun_mk (st := sLrow) lLrow qLrow kLrow
    bLrow := (fun_mk (st := sLrow) lLrow qLrow kLrow).binds (ps := ["_law_caps_here", "_law_facts_here"]) fun _ _ _ _ _ _ us hl => match us, hl with | [_, _], _ => rfl
    gLtext := PySem.W.mg_of X G aLtext
    aLtext := fLtext
    dLtext := PySem.W.fnOf "_law_text" "_law_text" (defArgs sLtext) (defBody sLtext) (defScope sLtext) .none kVLtext dcLtext pmLtext anLtext cdLtext ctLtext
    fLtext := fun_mk (st := sLtext) lLtext qLtext kLtext
    bLtext := (fun_mk (st := sLtext) lLtext qLtext kLtext).binds (ps := ["_law_facts_here"]) fun _ _ _ _ _ _ us hl => match us, hl with | [_], _ => rfl
    gLiscount := PySem.W.mg_of X G aLiscount
    aLiscount := fLiscount
    dLiscount := PySem.W.fnOf "_law_is_count" "_law_is_count" (defArgs sLiscount) (defBody sLiscount) (defScope sLiscount) .none kVLiscount dcLiscount pmLiscount anLiscount cdLiscount ctLiscount
    fLiscount := fun_mk (st := sLiscount) lLiscount qLiscount kLiscount
    bLiscount := (fun_mk (st := sLiscount) lLiscount qLiscount kLiscount).binds (ps := ["_law_text_so"]) fun _ _ _ _ _ _ us hl => match us, hl with | [_], _ => rfl
    gLfact := PySem.W.mg_of X G aLfact
    aLfact := fLfact
    dLfact := PySem.W.fnOf "_law_fact" "_law_fact" (defArgs sLfact) (defBody sLfact) (defScope sLfact) .none kVLfact dcLfact pmLfact anLfact cdLfact ctLfact
    fLfact := fun_mk (st := sLfact) lLfact qLfact kLfact
    bLfact := (fun_mk (st := sLfact) lLfact qLfact kLfact).binds (ps := ["_law_text_so"]) fun _ _ _ _ _ _ us hl => match us, hl with | [_], _ => rfl
    gLdeedamiss := PySem.W.mg_of X G aLdeedamiss
    aLdeedamiss := fLdeedamiss
    dLdeedamiss := PySem.W.fnOf "_law_deed_amiss" "_law_deed_amiss" (defArgs sLdeedamiss) (defBody sLdeedamiss) (defScope sLdeedamiss) .none kVLdeedamiss dcLdeedamiss pmLdeedamiss anLdeedamiss cdLdeedamiss ctLdeedamiss
    fLdeedamiss := fun_mk (st := sLdeedamiss) lLdeedamiss qLdeedamiss kLdeedamiss
    bLdeedamiss := (fun_mk (st := sLdeedamiss) lLdeedamiss qLdeedamiss kLdeedamiss).binds (ps := ["_law_caps_here", "_law_fact_here"]) fun _ _ _ _ _ _ us hl => match us, hl with | [_, _], _ => rfl
    gLdue := PySem.W.mg_of X G aLdue
    aLdue := fLdue
    dLdue := PySem.W.fnOf "_law_due" "_law_due" (defArgs sLdue) (defBody sLdue) (defScope sLdue) .none kVLdue dcLdue pmLdue anLdue cdLdue ctLdue
    fLdue := fun_mk (st := sLdue) lLdue qLdue kLdue
    bLdue := (fun_mk (st := sLdue) lLdue qLdue kLdue).binds (ps := ["_law_caps_here", "_law_text_so"]) fun _ _ _ _ _ _ us hl => match us, hl with | [_, _], _ => rfl
    gLsaid := PySem.W.mg_of X G aLsaid
    aLsaid := fLsaid
    dLsaid := PySem.W.fnOf "_law_said" "_law_said" (defArgs sLsaid) (defBody sLsaid) (defScope sLsaid) .none kVLsaid dcLsaid pmLsaid anLsaid cdLsaid ctLsaid
    fLsaid := fun_mk (st := sLsaid) lLsaid qLsaid kLsaid
    bLsaid := (fun_mk (st := sLsaid) lLsaid qLsaid kLsaid).binds (ps := ["_law_caps_here", "_law_text_so"]) fun _ _ _ _ _ _ us hl => match us, hl with | [_, _], _ => rfl
    gLspoilt := PySem.W.mg_of X G aLspoilt
    aLspoilt := fLspoilt
    dLspoilt := PySem.W.fnOf "_law_spoilt" "_law_spoilt" (defArgs sLspoilt) (defBody sLspoilt) (defScope sLspoilt) .none kVLspoilt dcLspoilt pmLspoilt anLspoilt cdLspoilt ctLspoilt
    fLspoilt := fun_mk (st := sLspoilt) lLspoilt qLspoilt kLspoilt
    bLspoilt := (fun_mk (st := sLspoilt) lLspoilt qLspoilt kLspoilt).binds (ps := ["_law_well_here", "_law_caps_here", "_law_text_so"]) fun _ _ _ _ _ _ us hl => match us, hl with | [_, _, _], _ => rfl
    glaw := PySem.W.mg_of X G alaw
    alaw := fa
    dlaw := PySem.W.fnOf "law" "law" (defArgs slaw) (defBody slaw) (defScope slaw) .none kVlaw dclaw pmlaw anlaw cdlaw ctlaw
    flaw := fun_mk (st := slaw) llaw qlaw klaw
    blaw := (fun_mk (st := slaw) llaw qlaw klaw).binds (ps := ["_law_script"]) fun _ _ _ _ _ _ us hl => match us, hl with | [_], _ => rfl
    lJars := ⟨pgJars, hdJars, poJars, saJars⟩
    kJars := ⟨mkJars, aJarsInit, iJarsInit, kcJars⟩
    nJars_sizes := nJars_sizes
    lPour := ⟨pgPour, hdPour, poPour, saPour⟩
    kPour := ⟨mkPour, aPourInit, iPourInit, kcPour⟩
    nPour_a := nPour_a
    nPour_b := nPour_b
    lPut := ⟨pgPut, hdPut, poPut, saPut⟩
    kPut := ⟨mkPut, aPutInit, iPutInit, kcPut⟩
    nPut_a := nPut_a
    nPut_k := nPut_k
    lDraw := ⟨pgDraw, hdDraw, poDraw, saDraw⟩
    kDraw := ⟨mkDraw, aDrawInit, iDrawInit, kcDraw⟩
    nDraw_a := nDraw_a
    nDraw_k := nDraw_k
    lChange := ⟨pgChange, hdChange, poChange, saChange⟩
    kChange := ⟨mkChange, aChangeInit, iChangeInit, kcChange⟩
    nChange_a := nChange_a
    nChange_b := nChange_b
    lRow := ⟨pgRow, hdRow, poRow, saRow⟩
    kRow := ⟨mkRow, aRowInit, iRowInit, kcRow⟩
    nRow_jars := nRow_jars
    nRow_deeds := nRow_deeds
    lDeed := ⟨pgDeed, hdDeed, poDeed, saDeed⟩
    yChange := ⟨yaChange, yn, yt, ymChange⟩
    yDraw := ⟨yaDraw, yn, yt, ymDraw⟩
    yJars := ⟨yaJars, yn, yt, ymJars⟩
    yPour := ⟨yaPour, yn, yt, ymPour⟩
    yPut := ⟨yaPut, yn, yt, ymPut⟩
    yRow := ⟨yaRow, yn, yt, ymRow⟩
    iPour_Put := isPour_Put
    iPour_Draw := isPour_Draw
    iPour_Pour := isPour_Pour
    iPour_Change := isPour_Change
    iPut_Put := isPut_Put
    iPut_Draw := isPut_Draw
    iPut_Pour := isPut_Pour
    iPut_Change := isPut_Change
    iDraw_Put := isDraw_Put
    iDraw_Draw := isDraw_Draw
    iDraw_Pour := isDraw_Pour
    iDraw_Change := isDraw_Change
    iChange_Put := isChange_Put
    iChange_Draw := isChange_Draw
    iChange_Pour := isChange_Pour
    iChange_Change := isChange_Change
    iJars_Jars := isJars_Jars
    iRow_Row := isRow_Row
    iPour_Deed := isPour_Deed
    iPut_Deed := isPut_Deed
    iDraw_Deed := isDraw_Deed
    iChange_Deed := isChange_Deed
    nfPour_Put := nfPour_Put
    nfPour_Draw := nfPour_Draw
    nfPour_Change := nfPour_Change
    nfPut_Pour := nfPut_Pour
    nfPut_Draw := nfPut_Draw
    nfPut_Change := nfPut_Change
    nfDraw_Pour := nfDraw_Pour
    nfDraw_Put := nfDraw_Put
    nfDraw_Change := nfDraw_Change
    nfChange_Pour := nfChange_Pour
    nfChange_Put := nfChange_Put
    nfChange_Draw := nfChange_Draw
    nePour := ⟨neMPour, ymPour, aPourEq, iPourEq⟩
    alPour_NoneType := alPour_NoneType
    ikPour_NoneType := ikPour_NoneType
    alPour_int := alPour_int
    ikPour_int := ikPour_int
    alPour_tuple := alPour_tuple
    ikPour_tuple := ikPour_tuple
    alPour_list := alPour_list
    ikPour_list := ikPour_list
    nePut := ⟨neMPut, ymPut, aPutEq, iPutEq⟩
    alPut_NoneType := alPut_NoneType
    ikPut_NoneType := ikPut_NoneType
    alPut_int := alPut_int
    ikPut_int := ikPut_int
    alPut_tuple := alPut_tuple
    ikPut_tuple := ikPut_tuple
    alPut_list := alPut_list
    ikPut_list := ikPut_list
    neDraw := ⟨neMDraw, ymDraw, aDrawEq, iDrawEq⟩
    alDraw_NoneType := alDraw_NoneType
    ikDraw_NoneType := ikDraw_NoneType
    alDraw_int := alDraw_int
    ikDraw_int := ikDraw_int
    alDraw_tuple := alDraw_tuple
    ikDraw_tuple := ikDraw_tuple
    alDraw_list := alDraw_list
    ikDraw_list := ikDraw_list
    neChange := ⟨neMChange, ymChange, aChangeEq, iChangeEq⟩
    alChange_NoneType := alChange_NoneType
    ikChange_NoneType := ikChange_NoneType
    alChange_int := alChange_int
    ikChange_int := ikChange_int
    alChange_tuple := alChange_tuple
    ikChange_tuple := ikChange_tuple
    alChange_list := alChange_list
    ikChange_list := ikChange_list
    neJars := ⟨neMJars, ymJars, aJarsEq, iJarsEq⟩
    alJars_NoneType := alJars_NoneType
    ikJars_NoneType := ikJars_NoneType
    alJars_int := alJars_int
    ikJars_int := ikJars_int
    alJars_tuple := alJars_tuple
    ikJars_tuple := ikJars_tuple
    alJars_list := alJars_list
    ikJars_list := ikJars_list
    neRow := ⟨neMRow, ymRow, aRowEq, iRowEq⟩
    alRow_NoneType := alRow_NoneType
    ikRow_NoneType := ikRow_NoneType
    alRow_int := alRow_int
    ikRow_int := ikRow_int
    alRow_tuple := alRow_tuple
    ikRow_tuple := ikRow_tuple
    alRow_list := alRow_list
    ikRow_list := ikRow_list
    iBadCount := aBadCountInit
    tBadCount := tyBadCount
    oBadCount := ⟨⟨nmXBadCount, qXBadCount, NXBadCount, bsXBadCount, bmXBadCount, snXBadCount, subXBadCount, abXBadCount, colXBadCount, ddXBadCount, r0XBadCount, r1XBadCount, r2XBadCount, r3XBadCount, r5XBadCount, oxBadCount, orBadCount⟩, osBadCount, obBadCount, otBadCount, okBadCount⟩
    xfBadCount := ⟨xgBadCount, xnBadCount, obBadCount, xdBadCount⟩
    nBadCount_what := nBadCount_what
    nBadCount_count := nBadCount_count
    emBadCount_BadCount := PySem.W.exm_ref obBadCount xdBadCount otBadCount euBadCount_BadCount
    emBadCount_NoJar := PySem.W.exm_ref obNoJar xdNoJar otNoJar euBadCount_NoJar
    emBadCount_SameJar := PySem.W.exm_ref obSameJar xdSameJar otSameJar euBadCount_SameJar
    emBadCount_Sizes := PySem.W.exm_ref obSizes xdSizes otSizes euBadCount_Sizes
    emBadCount_BadText := PySem.W.exm_ref obBadText xdBadText otBadText euBadCount_BadText
    iNoJar := aNoJarInit
    tNoJar := tyNoJar
    oNoJar := ⟨⟨nmXNoJar, qXNoJar, NXNoJar, bsXNoJar, bmXNoJar, snXNoJar, subXNoJar, abXNoJar, colXNoJar, ddXNoJar, r0XNoJar, r1XNoJar, r2XNoJar, r3XNoJar, r5XNoJar, oxNoJar, orNoJar⟩, osNoJar, obNoJar, otNoJar, okNoJar⟩
    xfNoJar := ⟨xgNoJar, xnNoJar, obNoJar, xdNoJar⟩
    nNoJar_jar := nNoJar_jar
    emNoJar_BadCount := PySem.W.exm_ref obBadCount xdBadCount otBadCount euNoJar_BadCount
    emNoJar_NoJar := PySem.W.exm_ref obNoJar xdNoJar otNoJar euNoJar_NoJar
    emNoJar_SameJar := PySem.W.exm_ref obSameJar xdSameJar otSameJar euNoJar_SameJar
    emNoJar_Sizes := PySem.W.exm_ref obSizes xdSizes otSizes euNoJar_Sizes
    emNoJar_BadText := PySem.W.exm_ref obBadText xdBadText otBadText euNoJar_BadText
    iSameJar := aSameJarInit
    tSameJar := tySameJar
    oSameJar := ⟨⟨nmXSameJar, qXSameJar, NXSameJar, bsXSameJar, bmXSameJar, snXSameJar, subXSameJar, abXSameJar, colXSameJar, ddXSameJar, r0XSameJar, r1XSameJar, r2XSameJar, r3XSameJar, r5XSameJar, oxSameJar, orSameJar⟩, osSameJar, obSameJar, otSameJar, okSameJar⟩
    xfSameJar := ⟨xgSameJar, xnSameJar, obSameJar, xdSameJar⟩
    nSameJar_jar := nSameJar_jar
    emSameJar_BadCount := PySem.W.exm_ref obBadCount xdBadCount otBadCount euSameJar_BadCount
    emSameJar_NoJar := PySem.W.exm_ref obNoJar xdNoJar otNoJar euSameJar_NoJar
    emSameJar_SameJar := PySem.W.exm_ref obSameJar xdSameJar otSameJar euSameJar_SameJar
    emSameJar_Sizes := PySem.W.exm_ref obSizes xdSizes otSizes euSameJar_Sizes
    emSameJar_BadText := PySem.W.exm_ref obBadText xdBadText otBadText euSameJar_BadText
    iSizes := aSizesInit
    tSizes := tySizes
    oSizes := ⟨⟨nmXSizes, qXSizes, NXSizes, bsXSizes, bmXSizes, snXSizes, subXSizes, abXSizes, colXSizes, ddXSizes, r0XSizes, r1XSizes, r2XSizes, r3XSizes, r5XSizes, oxSizes, orSizes⟩, osSizes, obSizes, otSizes, okSizes⟩
    xfSizes := ⟨xgSizes, xnSizes, obSizes, xdSizes⟩
    nSizes_a := nSizes_a
    nSizes_b := nSizes_b
    emSizes_BadCount := PySem.W.exm_ref obBadCount xdBadCount otBadCount euSizes_BadCount
    emSizes_NoJar := PySem.W.exm_ref obNoJar xdNoJar otNoJar euSizes_NoJar
    emSizes_SameJar := PySem.W.exm_ref obSameJar xdSameJar otSameJar euSizes_SameJar
    emSizes_Sizes := PySem.W.exm_ref obSizes xdSizes otSizes euSizes_Sizes
    emSizes_BadText := PySem.W.exm_ref obBadText xdBadText otBadText euSizes_BadText
    iBadText := aBadTextInit
    tBadText := tyBadText
    oBadText := ⟨⟨nmXBadText, qXBadText, NXBadText, bsXBadText, bmXBadText, snXBadText, subXBadText, abXBadText, colXBadText, ddXBadText, r0XBadText, r1XBadText, r2XBadText, r3XBadText, r5XBadText, oxBadText, orBadText⟩, osBadText, obBadText, otBadText, okBadText⟩
    xfBadText := ⟨xgBadText, xnBadText, obBadText, xdBadText⟩
    nBadText_place := nBadText_place
    emBadText_BadCount := PySem.W.exm_ref obBadCount xdBadCount otBadCount euBadText_BadCount
    emBadText_NoJar := PySem.W.exm_ref obNoJar xdNoJar otNoJar euBadText_NoJar
    emBadText_SameJar := PySem.W.exm_ref obSameJar xdSameJar otSameJar euBadText_SameJar
    emBadText_Sizes := PySem.W.exm_ref obSizes xdSizes otSizes euBadText_Sizes
    emBadText_BadText := PySem.W.exm_ref obBadText xdBadText otBadText euBadText_BadText
    tMOSTJARS := tkMOSTJARS
    cMOSTJARS := PySem.W.mg_of X G gMOSTJARS
    tMOSTDEEDS := tkMOSTDEEDS
    cMOSTDEEDS := PySem.W.mg_of X G gMOSTDEEDS
    tMOSTMUCH := tkMOSTMUCH
    cMOSTMUCH := PySem.W.mg_of X G gMOSTMUCH
    tMOSTFIGURES := tkMOSTFIGURES
    cMOSTFIGURES := PySem.W.mg_of X G gMOSTFIGURES
    tNODEEDS := tkNODEEDS
    cNODEEDS := PySem.W.mg_of X G gNODEEDS
    nabs := PySem.W.mg_none_of X G zabs
    nall := PySem.W.mg_none_of X G zall
    nenumerate := PySem.W.mg_none_of X G zenumerate
    nint := PySem.W.mg_none_of X G zint
    nisinstance := PySem.W.mg_none_of X G zisinstance
    nlen := PySem.W.mg_none_of X G zlen
    nlist := PySem.W.mg_none_of X G zlist
    nmin := PySem.W.mg_none_of X G zmin
    nrange := PySem.W.mg_none_of X G zrange
    nstr := PySem.W.mg_none_of X G zstr
    ntuple := PySem.W.mg_none_of X G ztuple }⟩
theorem walk {l : PySem.W.OpenLaw} {q : Program} {loose : List Str} {XP : (Str → Option Value) → Heap → Prop} {YP : World → Heap → Prop} {d : DefRec} {K : Params → PySem.W.Frag} (hn : l.most = some 63) (hdf : d.params.defaults = [])
    (hY : ∀ (w : World) (h : Heap), YP w h → (K w.params).In h)
    (F : ∀ (w : World) (mg : Str → Option Value) (fa : Addr) (h : Heap), (K w.params).In h → h.Ns mainGlobals mg → mg d.name = some (.ref fa) →
      ∃ fd : FuncData, (∀ (s : Shared) (u : Value), BindsTo s fd ⟨[u], []⟩ [("_law_script", u)]) ∧ ∀ base : Heap, (K w.params).In base → base.Ns mainGlobals mg → FnOk l.prog w (K w.params) mg base CX0 9 fa fd ["_law_script"] (spLaw (K w.params))) :
    PySem.W.WalkO q loose XP YP l.row.toRowW d [] (fun f vs => PySem.call f vs) :=
  L2.walk_of (n := 63) (k := 9) (x := "_law_script") (CX := fun _ => CX0) (sp := fun w => spLaw (K w.params)) hn (by decide) hdf ⟨rfl, by decide, by decide⟩ hY F (fun _ _ a ns hl _ hS => ⟨a, ns, rfl, hS, hl, fun _ => rfl⟩) fun _ _ _ _ _ z => z
end Kp


open PySem PySem.W PyProof.Rows
set_option maxRecDepth 100000 in
set_option maxHeartbeats 0 in
theorem PySem.Challenge.cw_wholedrops_k72_row_texts_refused_holds : PySem.Challenge.rw_wholedrops_k72_row_texts_refused.Holds := by
  w_on; o_law; k_head; (case hw => w_witness2)
  k_fill
  refine Kp.walk (l := PySem.Challenge.rw_wholedrops_k72_row_texts_refused) rfl rfl (fun w h Y => PySem.W.kIn_of Y) ?F
  case F =>
    intro w mg fa h KX G hmg
    refine' Kp.all_mk KX G hmg ?xJars ?xPour ?xPut ?xDraw ?xChange ?xRow ?xDeed ?xBadCount ?xNoJar ?xSameJar ?xSizes ?xBadText ?acheckmuch ?lcheckmuch ?qcheckmuch ?kcheckmuch ?acheckjar ?lcheckjar ?qcheckjar ?kcheckjar ?acheckdeed ?lcheckdeed ?qcheckdeed ?kcheckdeed ?aBadCountInit ?iBadCountInit ?lBadCountInit ?qBadCountInit ?kBadCountInit ?aNoJarInit ?iNoJarInit ?lNoJarInit ?qNoJarInit ?kNoJarInit ?aSameJarInit ?iSameJarInit ?lSameJarInit ?qSameJarInit ?kSameJarInit ?aSizesInit ?iSizesInit ?lSizesInit ?qSizesInit ?kSizesInit ?aBadTextInit ?iBadTextInit ?lBadTextInit ?qBadTextInit ?kBadTextInit ?aJarsInit ?iJarsInit ?lJarsInit ?qJarsInit ?kJarsInit ?aPourInit ?iPourInit ?lPourInit ?qPourInit ?kPourInit ?aPutInit ?iPutInit ?lPutInit ?qPutInit ?kPutInit ?aDrawInit ?iDrawInit ?lDrawInit ?qDrawInit ?kDrawInit ?aChangeInit ?iChangeInit ?lChangeInit ?qChangeInit ?kChangeInit ?aRowInit ?iRowInit ?lRowInit ?qRowInit ?kRowInit ?aJarsEq ?iJarsEq ?lJarsEq ?qJarsEq ?kJarsEq ?aPourEq ?iPourEq ?lPourEq ?qPourEq ?kPourEq ?aPutEq ?iPutEq ?lPutEq ?qPutEq ?kPutEq ?aDrawEq ?iDrawEq ?lDrawEq ?qDrawEq ?kDrawEq ?aChangeEq ?iChangeEq ?lChangeEq ?qChangeEq ?kChangeEq ?aRowEq ?iRowEq ?lRowEq ?qRowEq ?kRowEq ?areadrow ?lreadrow ?qreadrow ?kreadrow ?areaddeeds ?lreaddeeds ?qreaddeeds ?kreaddeeds ?areaddeed ?lreaddeed ?qreaddeed ?kreaddeed ?aisnumber ?lisnumber ?qisnumber ?kisnumber ?aLwell ?lLwell ?qLwell ?kLwell ?aLdraw ?lLdraw ?qLdraw ?kLdraw ?aLcaps ?lLcaps ?qLcaps ?kLcaps ?aLfacts ?lLfacts ?qLfacts ?kLfacts ?aLdeed ?lLdeed ?qLdeed ?kLdeed ?aLrow ?lLrow ?qLrow ?kLrow ?aLtext ?lLtext ?qLtext ?kLtext ?aLiscount ?lLiscount ?qLiscount ?kLiscount ?aLfact ?lLfact ?qLfact ?kLfact ?aLdeedamiss ?lLdeedamiss ?qLdeedamiss ?kLdeedamiss ?aLdue ?lLdue ?qLdue ?kLdue ?aLsaid ?lLsaid ?qLsaid ?kLsaid ?aLspoilt ?lLspoilt ?qLspoilt ?kLspoilt ?alaw ?llaw ?qlaw ?klaw ?pgJars ?hdJars ?poJars ?saJars ?mkJars ?kcJars ?nJars_sizes ?pgPour ?hdPour ?poPour ?saPour ?mkPour ?kcPour ?nPour_a ?nPour_b ?pgPut ?hdPut ?poPut ?saPut ?mkPut ?kcPut ?nPut_a ?nPut_k ?pgDraw ?hdDraw ?poDraw ?saDraw ?mkDraw ?kcDraw ?nDraw_a ?nDraw_k ?pgChange ?hdChange ?poChange ?saChange ?mkChange ?kcChange ?nChange_a ?nChange_b ?pgRow ?hdRow ?poRow ?saRow ?mkRow ?kcRow ?nRow_jars ?nRow_deeds ?pgDeed ?hdDeed ?poDeed ?saDeed ?yaChange ?ymChange ?yaDraw ?ymDraw ?yaJars ?ymJars ?yaPour ?ymPour ?yaPut ?ymPut ?yaRow ?ymRow ?yn ?yt ?isPour_Put ?isPour_Draw ?isPour_Pour ?isPour_Change ?isPut_Put ?isPut_Draw ?isPut_Pour ?isPut_Change ?isDraw_Put ?isDraw_Draw ?isDraw_Pour ?isDraw_Change ?isChange_Put ?isChange_Draw ?isChange_Pour ?isChange_Change ?isJars_Jars ?isRow_Row ?isPour_Deed ?isPut_Deed ?isDraw_Deed ?isChange_Deed ?nfPour_Put ?nfPour_Draw ?nfPour_Change ?nfPut_Pour ?nfPut_Draw ?nfPut_Change ?nfDraw_Pour ?nfDraw_Put ?nfDraw_Change ?nfChange_Pour ?nfChange_Put ?nfChange_Draw ?neMPour ?alPour_NoneType ?ikPour_NoneType ?alPour_int ?ikPour_int ?alPour_tuple ?ikPour_tuple ?alPour_list ?ikPour_list ?neMPut ?alPut_NoneType ?ikPut_NoneType ?alPut_int ?ikPut_int ?alPut_tuple ?ikPut_tuple ?alPut_list ?ikPut_list ?neMDraw ?alDraw_NoneType ?ikDraw_NoneType ?alDraw_int ?ikDraw_int ?alDraw_tuple ?ikDraw_tuple ?alDraw_list ?ikDraw_list ?neMChange ?alChange_NoneType ?ikChange_NoneType ?alChange_int ?ikChange_int ?alChange_tuple ?ikChange_tuple ?alChange_list ?ikChange_list ?neMJars ?alJars_NoneType ?ikJars_NoneType ?alJars_int ?ikJars_int ?alJars_tuple ?ikJars_tuple ?alJars_list ?ikJars_list ?neMRow ?alRow_NoneType ?ikRow_NoneType ?alRow_int ?ikRow_int ?alRow_tuple ?ikRow_tuple ?alRow_list ?ikRow_list ?tyBadCount ?oxBadCount ?orBadCount ?osBadCount ?obBadCount ?otBadCount ?okBadCount ?xgBadCount ?xnBadCount ?xdBadCount ?nBadCount_what ?nBadCount_count ?euBadCount_BadCount ?euBadCount_NoJar ?euBadCount_SameJar ?euBadCount_Sizes ?euBadCount_BadText ?tyNoJar ?oxNoJar ?orNoJar ?osNoJar ?obNoJar ?otNoJar ?okNoJar ?xgNoJar ?xnNoJar ?xdNoJar ?nNoJar_jar ?euNoJar_BadCount ?euNoJar_NoJar ?euNoJar_SameJar ?euNoJar_Sizes ?euNoJar_BadText ?tySameJar ?oxSameJar ?orSameJar ?osSameJar ?obSameJar ?otSameJar ?okSameJar ?xgSameJar ?xnSameJar ?xdSameJar ?nSameJar_jar ?euSameJar_BadCount ?euSameJar_NoJar ?euSameJar_SameJar ?euSameJar_Sizes ?euSameJar_BadText ?tySizes ?oxSizes ?orSizes ?osSizes ?obSizes ?otSizes ?okSizes ?xgSizes ?xnSizes ?xdSizes ?nSizes_a ?nSizes_b ?euSizes_BadCount ?euSizes_NoJar ?euSizes_SameJar ?euSizes_Sizes ?euSizes_BadText ?tyBadText ?oxBadText ?orBadText ?osBadText ?obBadText ?otBadText ?okBadText ?xgBadText ?xnBadText ?xdBadText ?nBadText_place ?euBadText_BadCount ?euBadText_NoJar ?euBadText_SameJar ?euBadText_Sizes ?euBadText_BadText ?gMOSTJARS ?gMOSTDEEDS ?gMOSTMUCH ?gMOSTFIGURES ?gNODEEDS ?zabs ?zall ?zenumerate ?zint ?zisinstance ?zlen ?zlist ?zmin ?zrange ?zstr ?ztuple
    (case xJars => k_is)
    (case xPour => k_is)
    (case xPut => k_is)
    (case xDraw => k_is)
    (case xChange => k_is)
    (case xRow => k_is)
    (case xDeed => k_is)
    (case xBadCount => k_is)
    (case xNoJar => k_is)
    (case xSameJar => k_is)
    (case xSizes => k_is)
    (case xBadText => k_is)
    (case acheckmuch => k_is)
    (case lcheckmuch => k_is)
    (case qcheckmuch => k_is)
    (case kcheckmuch => k_is)
    (case acheckjar => k_is)
    (case lcheckjar => k_is)
    (case qcheckjar => k_is)
    (case kcheckjar => k_is)
    (case acheckdeed => k_is)
    (case lcheckdeed => k_is)
    (case qcheckdeed => k_is)
    (case kcheckdeed => k_is)
    (case aBadCountInit => k_is)
    (case iBadCountInit => k_is)
    (case lBadCountInit => k_is)
    (case qBadCountInit => k_is)
    (case kBadCountInit => k_is)
    (case aNoJarInit => k_is)
    (case iNoJarInit => k_is)
    (case lNoJarInit => k_is)
    (case qNoJarInit => k_is)
    (case kNoJarInit => k_is)
    (case aSameJarInit => k_is)
    (case iSameJarInit => k_is)
    (case lSameJarInit => k_is)
    (case qSameJarInit => k_is)
    (case kSameJarInit => k_is)
    (case aSizesInit => k_is)
    (case iSizesInit => k_is)
    (case lSizesInit => k_is)
    (case qSizesInit => k_is)
    (case kSizesInit => k_is)
    (case aBadTextInit => k_is)
    (case iBadTextInit => k_is)
    (case lBadTextInit => k_is)
    (case qBadTextInit => k_is)
    (case kBadTextInit => k_is)
    (case aJarsInit => k_is)
    (case iJarsInit => k_is)
    (case lJarsInit => k_is)
    (case qJarsInit => k_is)
    (case kJarsInit => k_is)
    (case aPourInit => k_is)
    (case iPourInit => k_is)
    (case lPourInit => k_is)
    (case qPourInit => k_is)
    (case kPourInit => k_is)
    (case aPutInit => k_is)
    (case iPutInit => k_is)
    (case lPutInit => k_is)
    (case qPutInit => k_is)
    (case kPutInit => k_is)
    (case aDrawInit => k_is)
    (case iDrawInit => k_is)
    (case lDrawInit => k_is)
    (case qDrawInit => k_is)
    (case kDrawInit => k_is)
    (case aChangeInit => k_is)
    (case iChangeInit => k_is)
    (case lChangeInit => k_is)
    (case qChangeInit => k_is)
    (case kChangeInit => k_is)
    (case aRowInit => k_is)
    (case iRowInit => k_is)
    (case lRowInit => k_is)
    (case qRowInit => k_is)
    (case kRowInit => k_is)
    (case aJarsEq => k_is)
    (case iJarsEq => k_is)
    (case lJarsEq => k_is)
    (case qJarsEq => k_is)
    (case kJarsEq => k_is)
    (case aPourEq => k_is)
    (case iPourEq => k_is)
    (case lPourEq => k_is)
    (case qPourEq => k_is)
    (case kPourEq => k_is)
    (case aPutEq => k_is)
    (case iPutEq => k_is)
    (case lPutEq => k_is)
    (case qPutEq => k_is)
    (case kPutEq => k_is)
    (case aDrawEq => k_is)
    (case iDrawEq => k_is)
    (case lDrawEq => k_is)
    (case qDrawEq => k_is)
    (case kDrawEq => k_is)
    (case aChangeEq => k_is)
    (case iChangeEq => k_is)
    (case lChangeEq => k_is)
    (case qChangeEq => k_is)
    (case kChangeEq => k_is)
    (case aRowEq => k_is)
    (case iRowEq => k_is)
    (case lRowEq => k_is)
    (case qRowEq => k_is)
    (case kRowEq => k_is)
    (case areadrow => k_is)
    (case lreadrow => k_is)
    (case qreadrow => k_is)
    (case kreadrow => k_is)
    (case areaddeeds => k_is)
    (case lreaddeeds => k_is)
    (case qreaddeeds => k_is)
    (case kreaddeeds => k_is)
    (case areaddeed => k_is)
    (case lreaddeed => k_is)
    (case qreaddeed => k_is)
    (case kreaddeed => k_is)
    (case aisnumber => k_is)
    (case lisnumber => k_is)
    (case qisnumber => k_is)
    (case kisnumber => k_is)
    (case aLwell => k_is)
    (case lLwell => k_is)
    (case qLwell => k_is)
    (case kLwell => k_is)
    (case aLdraw => k_is)
    (case lLdraw => k_is)
    (case qLdraw => k_is)
    (case kLdraw => k_is)
    (case aLcaps => k_is)
    (case lLcaps => k_is)
    (case qLcaps => k_is)
    (case kLcaps => k_is)
    (case aLfacts => k_is)
    (case lLfacts => k_is)
    (case qLfacts => k_is)
    (case kLfacts => k_is)
    (case aLdeed => k_is)
    (case lLdeed => k_is)
    (case qLdeed => k_is)
    (case kLdeed => k_is)
    (case aLrow => k_is)
    (case lLrow => k_is)
    (case qLrow => k_is)
    (case kLrow => k_is)
    (case aLtext => k_is)
    (case lLtext => k_is)
    (case qLtext => k_is)
    (case kLtext => k_is)
    (case aLiscount => k_is)
    (case lLiscount => k_is)
    (case qLiscount => k_is)
    (case kLiscount => k_is)
    (case aLfact => k_is)
    (case lLfact => k_is)
    (case qLfact => k_is)
    (case kLfact => k_is)
    (case aLdeedamiss => k_is)
    (case lLdeedamiss => k_is)
    (case qLdeedamiss => k_is)
    (case kLdeedamiss => k_is)
    (case aLdue => k_is)
    (case lLdue => k_is)
    (case qLdue => k_is)
    (case kLdue => k_is)
    (case aLsaid => k_is)
    (case lLsaid => k_is)
    (case qLsaid => k_is)
    (case kLsaid => k_is)
    (case aLspoilt => k_is)
    (case lLspoilt => k_is)
    (case qLspoilt => k_is)
    (case kLspoilt => k_is)
    (case alaw => k_is)
    (case llaw => k_is)
    (case qlaw => k_is)
    (case klaw => k_is)
    (case pgJars => k_is)
    (case hdJars => k_is)
    (case poJars => k_is)
    (case saJars => k_is)
    (case mkJars => k_is)
    (case kcJars => k_is)
    (case nJars_sizes => k_is)
    (case pgPour => k_is)
    (case hdPour => k_is)
    (case poPour => k_is)
    (case saPour => k_is)
    (case mkPour => k_is)
    (case kcPour => k_is)
    (case nPour_a => k_is)
    (case nPour_b => k_is)
    (case pgPut => k_is)
    (case hdPut => k_is)
    (case poPut => k_is)
    (case saPut => k_is)
    (case mkPut => k_is)
    (case kcPut => k_is)
    (case nPut_a => k_is)
    (case nPut_k => k_is)
    (case pgDraw => k_is)
    (case hdDraw => k_is)
    (case poDraw => k_is)
    (case saDraw => k_is)
    (case mkDraw => k_is)
    (case kcDraw => k_is)
    (case nDraw_a => k_is)
    (case nDraw_k => k_is)
    (case pgChange => k_is)
    (case hdChange => k_is)
    (case poChange => k_is)
    (case saChange => k_is)
    (case mkChange => k_is)
    (case kcChange => k_is)
    (case nChange_a => k_is)
    (case nChange_b => k_is)
    (case pgRow => k_is)
    (case hdRow => k_is)
    (case poRow => k_is)
    (case saRow => k_is)
    (case mkRow => k_is)
    (case kcRow => k_is)
    (case nRow_jars => k_is)
    (case nRow_deeds => k_is)
    (case pgDeed => k_is)
    (case hdDeed => k_is)
    (case poDeed => k_is)
    (case saDeed => k_is)
    (case yaChange => k_is)
    (case ymChange => k_is)
    (case yaDraw => k_is)
    (case ymDraw => k_is)
    (case yaJars => k_is)
    (case ymJars => k_is)
    (case yaPour => k_is)
    (case ymPour => k_is)
    (case yaPut => k_is)
    (case ymPut => k_is)
    (case yaRow => k_is)
    (case ymRow => k_is)
    (case yn => k_is)
    (case yt => k_is)
    (case isPour_Put => (exact KpR.kit_cls (by k_is) (by k_is) (by k_is) (by decide)))
    (case isPour_Draw => (exact KpR.kit_cls (by k_is) (by k_is) (by k_is) (by decide)))
    (case isPour_Pour => exact KpR.kit_self (by simp))
    (case isPour_Change => (exact KpR.kit_cls (by k_is) (by k_is) (by k_is) (by decide)))
    (case isPut_Put => exact KpR.kit_self (by simp))
    (case isPut_Draw => (exact KpR.kit_cls (by k_is) (by k_is) (by k_is) (by decide)))
    (case isPut_Pour => (exact KpR.kit_cls (by k_is) (by k_is) (by k_is) (by decide)))
    (case isPut_Change => (exact KpR.kit_cls (by k_is) (by k_is) (by k_is) (by decide)))
    (case isDraw_Put => (exact KpR.kit_cls (by k_is) (by k_is) (by k_is) (by decide)))
    (case isDraw_Draw => exact KpR.kit_self (by simp))
    (case isDraw_Pour => (exact KpR.kit_cls (by k_is) (by k_is) (by k_is) (by decide)))
    (case isDraw_Change => (exact KpR.kit_cls (by k_is) (by k_is) (by k_is) (by decide)))
    (case isChange_Put => (exact KpR.kit_cls (by k_is) (by k_is) (by k_is) (by decide)))
    (case isChange_Draw => (exact KpR.kit_cls (by k_is) (by k_is) (by k_is) (by decide)))
    (case isChange_Pour => (exact KpR.kit_cls (by k_is) (by k_is) (by k_is) (by decide)))
    (case isChange_Change => exact KpR.kit_self (by simp))
    (case isJars_Jars => exact KpR.kit_self (by simp))
    (case isRow_Row => exact KpR.kit_self (by simp))
    (case isPour_Deed => (exact KpR.kit_cls (by k_is) (by k_is) (by k_is) (by decide)))
    (case isPut_Deed => (exact KpR.kit_cls (by k_is) (by k_is) (by k_is) (by decide)))
    (case isDraw_Deed => (exact KpR.kit_cls (by k_is) (by k_is) (by k_is) (by decide)))
    (case isChange_Deed => (exact KpR.kit_cls (by k_is) (by k_is) (by k_is) (by decide)))
    (case nfPour_Put => k_is)
    (case nfPour_Draw => k_is)
    (case nfPour_Change => k_is)
    (case nfPut_Pour => k_is)
    (case nfPut_Draw => k_is)
    (case nfPut_Change => k_is)
    (case nfDraw_Pour => k_is)
    (case nfDraw_Put => k_is)
    (case nfDraw_Change => k_is)
    (case nfChange_Pour => k_is)
    (case nfChange_Put => k_is)
    (case nfChange_Draw => k_is)
    (case neMPour => k_is)
    (case alPour_NoneType => k_is)
    (case ikPour_NoneType => (exact KpR.kit_tc (by k_is) (by k_is) (by k_is)))
    (case alPour_int => k_is)
    (case ikPour_int => (exact KpR.kit_tc (by k_is) (by k_is) (by k_is)))
    (case alPour_tuple => k_is)
    (case ikPour_tuple => (exact KpR.kit_tc (by k_is) (by k_is) (by k_is)))
    (case alPour_list => k_is)
    (case ikPour_list => (exact KpR.kit_tc (by k_is) (by k_is) (by k_is)))
    (case neMPut => k_is)
    (case alPut_NoneType => k_is)
    (case ikPut_NoneType => (exact KpR.kit_tc (by k_is) (by k_is) (by k_is)))
    (case alPut_int => k_is)
    (case ikPut_int => (exact KpR.kit_tc (by k_is) (by k_is) (by k_is)))
    (case alPut_tuple => k_is)
    (case ikPut_tuple => (exact KpR.kit_tc (by k_is) (by k_is) (by k_is)))
    (case alPut_list => k_is)
    (case ikPut_list => (exact KpR.kit_tc (by k_is) (by k_is) (by k_is)))
    (case neMDraw => k_is)
    (case alDraw_NoneType => k_is)
    (case ikDraw_NoneType => (exact KpR.kit_tc (by k_is) (by k_is) (by k_is)))
    (case alDraw_int => k_is)
    (case ikDraw_int => (exact KpR.kit_tc (by k_is) (by k_is) (by k_is)))
    (case alDraw_tuple => k_is)
    (case ikDraw_tuple => (exact KpR.kit_tc (by k_is) (by k_is) (by k_is)))
    (case alDraw_list => k_is)
    (case ikDraw_list => (exact KpR.kit_tc (by k_is) (by k_is) (by k_is)))
    (case neMChange => k_is)
    (case alChange_NoneType => k_is)
    (case ikChange_NoneType => (exact KpR.kit_tc (by k_is) (by k_is) (by k_is)))
    (case alChange_int => k_is)
    (case ikChange_int => (exact KpR.kit_tc (by k_is) (by k_is) (by k_is)))
    (case alChange_tuple => k_is)
    (case ikChange_tuple => (exact KpR.kit_tc (by k_is) (by k_is) (by k_is)))
    (case alChange_list => k_is)
    (case ikChange_list => (exact KpR.kit_tc (by k_is) (by k_is) (by k_is)))
    (case neMJars => k_is)
    (case alJars_NoneType => k_is)
    (case ikJars_NoneType => (exact KpR.kit_tc (by k_is) (by k_is) (by k_is)))
    (case alJars_int => k_is)
    (case ikJars_int => (exact KpR.kit_tc (by k_is) (by k_is) (by k_is)))
    (case alJars_tuple => k_is)
    (case ikJars_tuple => (exact KpR.kit_tc (by k_is) (by k_is) (by k_is)))
    (case alJars_list => k_is)
    (case ikJars_list => (exact KpR.kit_tc (by k_is) (by k_is) (by k_is)))
    (case neMRow => k_is)
    (case alRow_NoneType => k_is)
    (case ikRow_NoneType => (exact KpR.kit_tc (by k_is) (by k_is) (by k_is)))
    (case alRow_int => k_is)
    (case ikRow_int => (exact KpR.kit_tc (by k_is) (by k_is) (by k_is)))
    (case alRow_tuple => k_is)
    (case ikRow_tuple => (exact KpR.kit_tc (by k_is) (by k_is) (by k_is)))
    (case alRow_list => k_is)
    (case ikRow_list => (exact KpR.kit_tc (by k_is) (by k_is) (by k_is)))
    (case tyBadCount => k_is)
    (case oxBadCount => k_is)
    (case orBadCount => rfl)
    (case osBadCount => k_is)
    (case obBadCount => k_is)
    (case otBadCount => k_is)
    (case okBadCount => k_is)
    (case xgBadCount => k_is)
    (case xnBadCount => k_is)
    (case xdBadCount => k_is)
    (case nBadCount_what => k_is)
    (case nBadCount_count => k_is)
    (case euBadCount_BadCount => k_is)
    (case euBadCount_NoJar => k_is)
    (case euBadCount_SameJar => k_is)
    (case euBadCount_Sizes => k_is)
    (case euBadCount_BadText => k_is)
    (case tyNoJar => k_is)
    (case oxNoJar => k_is)
    (case orNoJar => rfl)
    (case osNoJar => k_is)
    (case obNoJar => k_is)
    (case otNoJar => k_is)
    (case okNoJar => k_is)
    (case xgNoJar => k_is)
    (case xnNoJar => k_is)
    (case xdNoJar => k_is)
    (case nNoJar_jar => k_is)
    (case euNoJar_BadCount => k_is)
    (case euNoJar_NoJar => k_is)
    (case euNoJar_SameJar => k_is)
    (case euNoJar_Sizes => k_is)
    (case euNoJar_BadText => k_is)
    (case tySameJar => k_is)
    (case oxSameJar => k_is)
    (case orSameJar => rfl)
    (case osSameJar => k_is)
    (case obSameJar => k_is)
    (case otSameJar => k_is)
    (case okSameJar => k_is)
    (case xgSameJar => k_is)
    (case xnSameJar => k_is)
    (case xdSameJar => k_is)
    (case nSameJar_jar => k_is)
    (case euSameJar_BadCount => k_is)
    (case euSameJar_NoJar => k_is)
    (case euSameJar_SameJar => k_is)
    (case euSameJar_Sizes => k_is)
    (case euSameJar_BadText => k_is)
    (case tySizes => k_is)
    (case oxSizes => k_is)
    (case orSizes => rfl)
    (case osSizes => k_is)
    (case obSizes => k_is)
    (case otSizes => k_is)
    (case okSizes => k_is)
    (case xgSizes => k_is)
    (case xnSizes => k_is)
    (case xdSizes => k_is)
    (case nSizes_a => k_is)
    (case nSizes_b => k_is)
    (case euSizes_BadCount => k_is)
    (case euSizes_NoJar => k_is)
    (case euSizes_SameJar => k_is)
    (case euSizes_Sizes => k_is)
    (case euSizes_BadText => k_is)
    (case tyBadText => k_is)
    (case oxBadText => k_is)
    (case orBadText => rfl)
    (case osBadText => k_is)
    (case obBadText => k_is)
    (case otBadText => k_is)
    (case okBadText => k_is)
    (case xgBadText => k_is)
    (case xnBadText => k_is)
    (case xdBadText => k_is)
    (case nBadText_place => k_is)
    (case euBadText_BadCount => k_is)
    (case euBadText_NoJar => k_is)
    (case euBadText_SameJar => k_is)
    (case euBadText_Sizes => k_is)
    (case euBadText_BadText => k_is)
    (case gMOSTJARS => k_is)
    (case gMOSTDEEDS => k_is)
    (case gMOSTMUCH => k_is)
    (case gMOSTFIGURES => k_is)
    (case gNODEEDS => k_is)
    (case zabs => k_is)
    (case zall => k_is)
    (case zenumerate => k_is)
    (case zint => k_is)
    (case zisinstance => k_is)
    (case zlen => k_is)
    (case zlist => k_is)
    (case zmin => k_is)
    (case zrange => k_is)
    (case zstr => k_is)
    (case ztuple => k_is)


