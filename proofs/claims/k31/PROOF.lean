import PyProof.Rows.All
import Wide.All
import OpenK.AllK
import Wide.FinOn
import HandS.ForMost
import HandS.Defaults
import HandS.MakeKwOnly
import HandS.IsInst
import HandS.Wide
import HandS.Style
import HandS.Zip
import HandS.Codes
import HandS.OwnEq
import HandS.TupAny
import HandS.More
import HandS.Exc
import HandS.TryMany
import HandS.ExcInit
import HandS.ExcField
import HandS.WordsExc
import PyProof.InstNe
import PyProof.NeKinds
import PySem.Challenge.RW_wholedrops_k31_lots_loads_and_worths
set_option Elab.async false
set_option linter.all false
set_option maxRecDepth 100000
set_option maxHeartbeats 4000000
namespace Kp
/-! ### an if whose test is a Bool -/
theorem ifT {c : Bool} {A B : Prop} (hc : c = true) (h : A) : if c = true then A else B := by
  rw [if_pos hc]
  exact h
theorem ifF {c : Bool} {A B : Prop} (hc : c = false) (h : B) : if c = true then A else B := by
  rw [hc, if_neg Bool.false_ne_true]
  exact h
theorem ifD {P A B : Prop} [Decidable P] (h1 : P → A) (h2 : ¬ P → B) : if decide P = true then A else B := by
  by_cases h : P
  · exact ifT (decide_eq_true h) (h1 h)
  · exact ifF (decide_eq_false h) (h2 h)
theorem ifN {P A B : Prop} [Decidable P] (h1 : P → B) (h2 : ¬ P → A) : if (!decide P) = true then A else B := by
  by_cases h : P
  · exact ifF (by rw [decide_eq_true h]; rfl) (h1 h)
  · exact ifT (by rw [decide_eq_false h]; rfl) (h2 h)
/-! ### lists of ints -/
def at0 (l : List Int) (i : Nat) : Int := l.getD i 0
theorem at0_get {l : List Int} {i : Nat} (h : i < l.length) : l[i]? = some (at0 l i) := by
  unfold at0
  rw [List.getD_eq_getElem?_getD, List.getElem?_eq_getElem h]
  rfl
theorem at0_of {l : List Int} {i : Nat} {v : Int} (h : l[i]? = some v) : at0 l i = v := by
  unfold at0
  rw [List.getD_eq_getElem?_getD, h]
  rfl
theorem at0_set {l : List Int} {i j : Nat} {v : Int} (h : i < l.length) : at0 (l.set i v) j = if i = j then v else at0 l j := by
  unfold at0
  rw [List.getD_eq_getElem?_getD, List.getD_eq_getElem?_getD, List.getElem?_set]
  by_cases e : i = j
  · subst e
    simp [h]
  · simp [e]
theorem at0_map {l : List Int} {f : Int → Int} {i : Nat} (h : i < l.length) : at0 (l.map f) i = f (at0 l i) := by
  have := at0_get h
  exact at0_of (by rw [List.getElem?_map, this]; rfl)
theorem ext0 {l m : List Int} (h : l.length = m.length) (e : ∀ i, i < l.length → at0 l i = at0 m i) : l = m := by
  apply List.ext_getElem? 
  intro i
  by_cases hi : i < l.length
  · rw [at0_get hi, at0_get (h ▸ hi), e i hi]
  · rw [List.getElem?_eq_none (by omega), List.getElem?_eq_none (by omega)]
/-! ### the deeds -/
inductive D where
  | pour (a b : Nat) | put (a : Nat) (k : Int) | draw (a : Nat) (k : Int) | change (a b : Nat)
  deriving DecidableEq
/-- what a deed must be for jars of these sizes -/
def D.ok (caps : List Int) : D → Prop
  | .pour a b => a < caps.length ∧ b < caps.length ∧ a ≠ b
  | .put a k => a < caps.length ∧ 1 ≤ k ∧ k ≤ 1000000000000
  | .draw a k => a < caps.length ∧ 1 ≤ k ∧ k ≤ 1000000000000
  | .change a b => a < caps.length ∧ b < caps.length ∧ a ≠ b ∧ at0 caps a = at0 caps b
/-- one deed, as behind_deed reckons it -/
def D.act (caps : List Int) (p : Int) (st : List Int) : D → List Int
  | .pour a b =>
    let m := if at0 caps b * p - at0 st b < at0 st a then at0 caps b * p - at0 st b else at0 st a
    (st.set a (at0 st a - m)).set b (at0 st b + m)
  | .put a k => st.set a (if at0 caps a * p < at0 st a + k * p then at0 caps a * p else at0 st a + k * p)
  | .draw a k => st.set a (if 0 > at0 st a - k * p then 0 else at0 st a - k * p)
  | .change a b => (st.set a (at0 st b)).set b (at0 st a)
def run (caps : List Int) (p : Int) (ds : List D) (st : List Int) : List Int := ds.foldl (D.act caps p) st
def runs (caps : List Int) (p : Int) (ds : List D) : Nat → List Int → List Int
  | 0, st => st
  | n + 1, st => run caps p ds (runs caps p ds n st)
/-- a start that can be -/
structure Stand (caps : List Int) (p : Int) (st : List Int) : Prop where
  len : st.length = caps.length
  lo : ∀ i, i < caps.length → 0 ≤ at0 st i
  hi : ∀ i, i < caps.length → at0 st i ≤ at0 caps i * p
structure Caps (caps : List Int) : Prop where
  l1 : 1 ≤ caps.length
  l6 : caps.length ≤ 6
  lo : ∀ i, i < caps.length → 1 ≤ at0 caps i
  hi : ∀ i, i < caps.length → at0 caps i ≤ 1000000000000
theorem act_len {caps st : List Int} {p : Int} {d : D} : (d.act caps p st).length = st.length := by
  cases d <;> simp [D.act]
theorem act_stand {caps st : List Int} {p : Int} {d : D} (hp : 1 ≤ p) (h : Stand caps p st) (hd : d.ok caps) : Stand caps p (d.act caps p st) := by
  have hl := h.len
  refine ⟨by rw [act_len, hl], ?_, ?_⟩
  all_goals
    intro i hi
    have z0 := h.lo i hi
    have z1 := h.hi i hi
    cases d with
    | pour a b =>
      obtain ⟨ha, hb, hab⟩ := hd
      have a0 := h.lo a ha
      have a1 := h.hi a ha
      have b0 := h.lo b hb
      have b1 := h.hi b hb
      simp only [D.act]
      rw [at0_set (by rw [List.length_set]; omega), at0_set (by omega)]
      by_cases e1 : b = i
      · subst e1
        rw [if_pos rfl]
        split <;> omega
      · rw [if_neg e1]
        by_cases e2 : a = i
        · subst e2
          rw [if_pos rfl]
          split <;> omega
        · rw [if_neg e2]
          omega
    | put a k =>
      obtain ⟨ha, hk, _⟩ := hd
      have a0 := h.lo a ha
      have a1 := h.hi a ha
      have kp : 0 ≤ k * p := Int.mul_nonneg (by omega) (by omega)
      simp only [D.act]
      rw [at0_set (by omega)]
      by_cases e1 : a = i
      · subst e1
        rw [if_pos rfl]
        split <;> omega
      · rw [if_neg e1]
        omega
    | draw a k =>
      obtain ⟨ha, hk, _⟩ := hd
      have a0 := h.lo a ha
      have a1 := h.hi a ha
      have kp : 0 ≤ k * p := Int.mul_nonneg (by omega) (by omega)
      simp only [D.act]
      rw [at0_set (by omega)]
      by_cases e1 : a = i
      · subst e1
        rw [if_pos rfl]
        split <;> omega
      · rw [if_neg e1]
        omega
    | change a b =>
      obtain ⟨ha, hb, hab, hs⟩ := hd
      have a0 := h.lo a ha
      have a1 := h.hi a ha
      have b0 := h.lo b hb
      have b1 := h.hi b hb
      simp only [D.act]
      rw [at0_set (by rw [List.length_set]; omega), at0_set (by omega)]
      by_cases e1 : b = i
      · subst e1
        rw [if_pos rfl]
        rw [hs] at a1
        omega
      · rw [if_neg e1]
        by_cases e2 : a = i
        · subst e2
          rw [if_pos rfl]
          rw [← hs] at b1
          omega
        · rw [if_neg e2]
          omega
theorem run_len {caps : List Int} {p : Int} : ∀ {ds : List D} {st : List Int}, (run caps p ds st).length = st.length
  | [], _ => rfl
  | d :: ds, st => (run_len (ds := ds) (st := d.act caps p st)).trans act_len
theorem run_stand {caps : List Int} {p : Int} (hp : 1 ≤ p) : ∀ {ds : List D} {st : List Int}, Stand caps p st → (∀ d ∈ ds, d.ok caps) → Stand caps p (run caps p ds st)
  | [], _, h, _ => h
  | d :: ds, st, h, hd => run_stand (ds := ds) hp (act_stand hp h (hd d (List.mem_cons_self ..))) fun e he => hd e (List.mem_cons_of_mem _ he)
theorem runs_stand {caps : List Int} {p : Int} (hp : 1 ≤ p) {ds : List D} (hd : ∀ d ∈ ds, d.ok caps) : ∀ {n : Nat} {st : List Int}, Stand caps p st → Stand caps p (runs caps p ds n st)
  | 0, _, h => h
  | n + 1, _, h => run_stand hp (runs_stand hp hd (n := n) h) hd
theorem run_app {caps : List Int} {p : Int} {ds es : List D} {st : List Int} : run caps p (ds ++ es) st = run caps p es (run caps p ds st) := List.foldl_append ..
theorem runs_add {caps : List Int} {p : Int} {ds : List D} : ∀ (m n : Nat) (st : List Int), runs caps p ds m (runs caps p ds n st) = runs caps p ds (n + m) st
  | 0, _, _ => rfl
  | m + 1, n, st => congrArg (run caps p ds) (runs_add m n st)
theorem runs_nil {caps : List Int} {p : Int} : ∀ (n : Nat) (st : List Int), runs caps p [] n st = st
  | 0, _ => rfl
  | n + 1, st => runs_nil n st
theorem run_snoc {caps : List Int} {p : Int} {ds : List D} {d : D} {i : Nat} {st : List Int} (h : ds[i]? = some d) : run caps p (ds.take (i + 1)) st = d.act caps p (run caps p (ds.take i) st) := by
  rw [List.take_add_one, h, run_app]
  rfl
end Kp

namespace Kp
theorem at0_app {l : List Int} {z : Int} {i : Nat} : at0 (l ++ [z]) i = if i < l.length then at0 l i else if i = l.length then z else 0 := by
  unfold at0
  rw [List.getD_eq_getElem?_getD, List.getD_eq_getElem?_getD]
  by_cases h : i < l.length
  · rw [if_pos h, List.getElem?_append_left h]
  · rw [if_neg h, List.getElem?_append_right (by omega)]
    by_cases e : i = l.length
    · subst e
      simp
    · rw [if_neg e, List.getElem?_eq_none (by simp; omega)]
      rfl
/-- sizes that are none too small, none too big -/
def Mid (caps : List Int) : Prop := ∀ c ∈ caps, 1 ≤ c ∧ c ≤ 1000000000000
theorem Mid.nil : Mid [] := fun c h => by cases h
theorem Mid.app {caps : List Int} {z : Int} (h : Mid caps) (h1 : 1 ≤ z) (h2 : z ≤ 1000000000000) : Mid (caps ++ [z]) := fun c hc => by
  rcases List.mem_append.mp hc with q | q
  · exact h c q
  · have : c = z := by simpa using q
    subst this
    exact ⟨h1, h2⟩
theorem at0_mem {l : List Int} {i : Nat} (h : i < l.length) : at0 l i ∈ l := List.mem_of_getElem? (at0_get h)
theorem Mid.set {caps : List Int} {i j : Nat} (h : Mid caps) (hj : j < caps.length) : Mid (caps.set i (at0 caps j)) := fun c hc => by
  rcases List.mem_or_eq_of_mem_set hc with q | q
  · exact h c q
  · rw [q]
    exact h _ (at0_mem hj)
theorem Mid.caps {caps : List Int} (h : Mid caps) (h1 : 1 ≤ caps.length) (h6 : caps.length ≤ 6) : Caps caps :=
  ⟨h1, h6, fun i hi => (h _ (at0_mem hi)).1, fun i hi => (h _ (at0_mem hi)).2⟩
/-- starts as far as they are made -/
structure Part (caps : List Int) (p : Int) (st : List Int) : Prop where
  lo : ∀ i, i < st.length → 0 ≤ at0 st i
  hi : ∀ i, i < st.length → at0 st i ≤ at0 caps i * p
theorem Part.nil {caps : List Int} {p : Int} : Part caps p [] := ⟨fun i h => absurd h (Nat.not_lt_zero _), fun i h => absurd h (Nat.not_lt_zero _)⟩
theorem Part.app {caps st : List Int} {p z : Int} (h : Part caps p st) (h0 : 0 ≤ z) (h1 : z ≤ at0 caps st.length * p) : Part caps p (st ++ [z]) := by
  refine ⟨fun i hi => ?_, fun i hi => ?_⟩
  all_goals
    rw [List.length_append] at hi
    rw [at0_app]
    by_cases q : i < st.length
    · rw [if_pos q]
      first | exact h.lo i q | exact h.hi i q
    · have e : i = st.length := by simp at hi; omega
      subst e
      rw [if_neg q, if_pos rfl]
      first | exact h0 | exact h1
theorem Part.stand {caps st : List Int} {p : Int} (h : Part caps p st) (hl : st.length = caps.length) : Stand caps p st :=
  ⟨hl, fun i hi => h.lo i (by omega), fun i hi => h.hi i (by omega)⟩
/-- the words of the deeds -/
inductive Wd where
  | pour | put | draw | change
  deriving DecidableEq
def sixW : List Wd := [.pour, .pour, .pour, .put, .draw, .change]
theorem unit_ok {n : Nat} (h : n < 6) : 1 ≤ at0 [1, 1, 1, 7, 1000000, 100000000000] n ∧ at0 [1, 1, 1, 7, 1000000, 100000000000] n ≤ 100000000000 := by
  have : ∀ n : Fin 6, 1 ≤ at0 [1, 1, 1, 7, 1000000, 100000000000] n.1 ∧ at0 [1, 1, 1, 7, 1000000, 100000000000] n.1 ≤ 100000000000 := by decide
  exact this ⟨n, h⟩
theorem pick4 {a b c d lo hi : Int} {n : Nat} (h : n < 4) (ha : lo ≤ a ∧ a ≤ hi) (hb : lo ≤ b ∧ b ≤ hi) (hc : lo ≤ c ∧ c ≤ hi) (hd : lo ≤ d ∧ d ≤ hi) : lo ≤ at0 [a, b, c, d] n ∧ at0 [a, b, c, d] n ≤ hi := by
  match n, h with
  | 0, _ => exact ha
  | 1, _ => exact hb
  | 2, _ => exact hc
  | 3, _ => exact hd
theorem pick5 {a b c d e lo hi : Int} {n : Nat} (h : n < 5) (ha : lo ≤ a ∧ a ≤ hi) (hb : lo ≤ b ∧ b ≤ hi) (hc : lo ≤ c ∧ c ≤ hi) (hd : lo ≤ d ∧ d ≤ hi) (he : lo ≤ e ∧ e ≤ hi) : lo ≤ at0 [a, b, c, d, e] n ∧ at0 [a, b, c, d, e] n ≤ hi := by
  match n, h with
  | 0, _ => exact ha
  | 1, _ => exact hb
  | 2, _ => exact hc
  | 3, _ => exact hd
  | 4, _ => exact he
end Kp

namespace KpR
open PySem PySem.Spec PyProof.Rows L2
open AutoSeq1 (wpAny_loadPart')
/-! ### xs + ys, each a list that can be read -/
theorem addMeets (l b : Addr) (xs ys : Array Value) (n m : Nat) (sl tl : Array (Option Value)) (hsz : xs.size + ys.size ≤ sizeLine) :
    Meets (Builtin.«list.__add__» ⟨[.ref l, .ref b], []⟩) (fun _ R s =>
      s.heap.get? l = some { cls := .type "list", dict := none, data := .seq xs n, slots := sl } ∧
      s.heap.get? b = some { cls := .type "list", dict := none, data := .seq ys m, slots := tl } ∧
      R (.ok (.ret (.ref s.heap.objs.size))) { s with heap := s.heap.push { cls := .type "list", data := .seq (xs ++ ys) } }) :=
  .of_wp fun prog w A R s h => by
    obtain ⟨hp, g, d, tk, os⟩ := s
    obtain ⟨e1, e2, h⟩ := h
    have z1 := AutoSeq1.idx_int
    have z2 := AutoSeq1.sub_tuple_tuple
    have z3 := AutoSeq1.sub_list_list
    have z4 := AutoSeq1.sub_tuple_list
    have z5 := AutoSeq1.sub_list_tuple
    wp_walk using wpAny_loadPart' e1, wpAny_loadPart' e2
    exact ⟨_, rfl, h⟩
theorem enumNewT (l : Addr) (its : Array Value) (n : Nat) (dct : Option Addr) (sl : Array (Option Value)) :
    Meets (Builtin.«enumerate.__new__» ⟨[.type "enumerate", .ref l], []⟩) (fun _ R s =>
      s.heap.get? l = some { cls := .type "tuple", dict := dct, data := .seq its n, slots := sl } ∧
      R (.ok (.ret (.ref (s.heap.push { cls := .type "tuple_iterator", data := .fields #[.ref l, .int 0 0] }).objs.size)))
        { s with heap := Heap.push (Heap.push s.heap { cls := .type "tuple_iterator", data := .fields #[.ref l, .int 0 0] }) { cls := .type "enumerate", data := .fields #[.none, .bool false, .ref s.heap.objs.size, rawInt 0, .none, .none] } }) :=
  .of_wp fun prog w A R s h => by
    obtain ⟨hp, g, d, tk, os⟩ := s
    obtain ⟨hl, h⟩ := h
    have hsub := sub_enumerate
    have hL : Heap.IsTuple (Shared.heap ⟨hp, g, d, tk, os⟩) l its := ⟨_, hl, rfl, n, rfl⟩
    wp_walk using wpAny_loadPart' hl
    refine wpAny_stack_any fun st => wpAny_pure ?_
    split
    · rename_i c _ _ _ _ _
      cases (c == Value.type "enumerate") <;>
        (wp_walk using wpAny_loadPart' hl, wpAny_pyIter_tuple hL
         exact ⟨_, rfl, h⟩)
    · wp_walk using wpAny_loadPart' hl, wpAny_pyIter_tuple hL
      exact ⟨_, rfl, h⟩
end KpR

namespace KpR
open PySem PySem.Spec PyProof.Rows L2
open AutoSeq1 (wpAny_loadPart')
def rCatR (K : PySem.W.Frag) : R2 := fun x y H Q => ∃ l b xs zs, x = .ref l ∧ y = .ref b ∧ SqL K H l xs ∧ SqL K H b zs ∧ xs.length + zs.length ≤ sizeLine ∧ ∀ q, H q = none → Q (.ref q) (upd H q (.lst (xs ++ zs)))
section
variable {X : Cx}
theorem op_catR : OpR X (binaryOp .Add) (rCatR X.K) := by
  intro pins s σ H x y v u Q I rx ry h
  obtain ⟨l, b, xs, zs, rfl, rfl, h1, h2, hz, q⟩ := h
  cases rx
  cases ry
  obtain ⟨its, r1, p1, _⟩ := I.list h1
  obtain ⟨jts, r2, p2, _⟩ := I.list h2
  obtain ⟨⟨c1, d1, t1, s1⟩, n1, g1, k1, k2, k3⟩ := p1
  obtain ⟨⟨c2, d2, t2, s2⟩, n2, g2, k4, k5, k6⟩ := p2
  cases k1; cases k2; cases k3; cases k4; cases k5; cases k6
  have e1 := r1.length
  have e2 := r2.length
  refine concat_meets ⟨_, g1, rfl⟩ ⟨_, g2, rfl⟩ noFill_list_add seq_list_add F.slot_list_add F.entry_list_add (F.args_list_add_2 _ _)
    (addMeets l b its.toArray jts.toArray n1 n2 s1 s2 (by rw [List.size_toArray, List.size_toArray]; omega)) ⟨g1, g2, ?_⟩
  have ea : its.toArray ++ jts.toArray = (its ++ jts).toArray := by simp
  rw [ea]
  exact ⟨.ref _, _, I.lnew (t' := s.toks) (r1.append r2) (by rw [List.length_append]; omega), rfl, q _ I.fresh⟩
end
/-! ### enumerate(tuple) -/
theorem drawsT {prog : Program} {w : World} {A : Around} (hh : A.handled = none) (it l : Addr) (hne : l ≠ it) (its : Array Value) :
    Draws prog w A it [it, l] its.size (fun i v => its[i]? = some v) (fun i h => h.IsTupleIter it l i ∧ h.IsTuple l its) where
  live := fun _ _ st => by
    obtain ⟨⟨o, ho, _⟩, _⟩ := st
    exact ⟨o, ho⟩
  frame := fun _ _ _ st kp => ⟨st.1.at fun o e => kp it (by simp) o e, st.2.at fun o e => kp l (by simp) o e⟩
  item := fun i s Q E hi st hQ => by
    refine RZ.nextOf_tuple_item st.1 st.2 (x := its[i]) (by simp [hi]) fun h1 hit1 hs1 => ?_
    exact hQ _ h1 s.toks (by simp [hi]) ⟨hit1, st.2.extBut hs1.extBut hne⟩ hs1
  done := fun s Q E st hE => RZ.nextOf_tuple_end hh st.1 st.2 (by simp) hE
section
variable {prog : Program} {w : World} {A : Around} {E : Value → Shared → Prop} {s : Shared}
theorem callEnumT {l : Addr} {its : Array Value} {Q : Value → Shared → Prop} (hL : s.heap.IsTuple l its)
    (h : ∀ h', IsEnum h' (s.heap.objs.size + 1) s.heap.objs.size 0 .none → h'.IsTupleIter s.heap.objs.size l 0 → h'.IsTuple l its →
      (∀ b o, s.heap.get? b = some o → h'.get? b = some o) → Q (.ref (s.heap.objs.size + 1)) { s with heap := h' }) :
    wpAny (model prog w) A (call (.type "enumerate") [.ref l]) Q E s := by
  obtain ⟨⟨c, dct, dt, sl⟩, hl, hc, n, hd⟩ := id hL
  cases hc
  cases hd
  refine callType_new F.called_enumerate (by decide) (F.typeCall_enumerate_1 _) (F.newCall_enumerate_1 _) (fun obj => F.args_object_init_2 obj _) F.entry_enumerate_new
    (enumNewT l its n dct sl) ⟨hl, ?_⟩
  have hz : (s.heap.push { cls := .type "tuple_iterator", data := .fields #[.ref l, .int 0 0] }).objs.size = s.heap.objs.size + 1 := Heap.size_push ..
  show _ ∧ _
  rw [hz]
  have he : IsEnum ((s.heap.push { cls := .type "tuple_iterator", data := .fields #[.ref l, .int 0 0] }).push
      { cls := .type "enumerate", data := .fields #[.none, .bool false, .ref s.heap.objs.size, rawInt 0, .none, .none] }) (s.heap.objs.size + 1) s.heap.objs.size 0 .none := by
    have q := Heap.get?_push_size (s.heap.push { cls := .type "tuple_iterator", data := .fields #[.ref l, .int 0 0] })
      (o := { cls := .type "enumerate", data := .fields #[.none, .bool false, .ref s.heap.objs.size, rawInt 0, .none, .none] }) rfl
    rw [hz] at q
    exact q
  exact ⟨⟨_, he, rfl⟩, h _ he ⟨_, Heap.get?_push_of_some _ (Heap.get?_push_size _ (by rfl)), by rfl, by rfl⟩ ((hL.push _).push _) fun b o x => Heap.get?_push_of_some _ (Heap.get?_push_of_some _ x)⟩
end
/-- the tuple at a: each item in a new pair -/
def IteT (K : PySem.W.Frag) (a : Addr) : It where
  go := fun i H => ∃ (xs : List V) (x : V), SqT K H a xs ∧ xs[i]? = some x
  yld := fun i H v H' => ∃ T x, v = .ref T ∧ H T = none ∧ H' = upd H T (.tup [.int (i : Nat), x]) ∧ ∀ xs, SqT K H a xs → xs[i]? = some x
  stop := fun i H => ∃ xs : List V, SqT K H a xs ∧ xs.length = i
theorem turnEnumT {P : Program} {w : World} {K : PySem.W.Frag} {elts : List Expr} {kk : Nat} {tpos : Pos} (a e it : Addr) :
    Turn P w K (.Tuple elts kk tpos) (IteT K a) [e, it] e (fun i h => (∃ old, IsEnum h e it ((i : Nat) : Int) old) ∧ h.IsTupleIter it a i ∧ e ≠ it ∧ a ≠ it ∧ e ≠ a) where
  mem := by simp
  obj := fun i h st b hb => by
    obtain ⟨⟨old, he⟩, ⟨o, ho, hc, hd⟩, _⟩ := st
    rcases (show b = e ∨ b = it by simpa using hb) with z | z
    · subst z
      exact ⟨_, he, fun v q => nomatch q⟩
    · subst z
      exact ⟨o, ho, fun v q => by rw [hd] at q; cases q⟩
  keep := fun i h h' st k => by
    obtain ⟨⟨old, he⟩, hi, r⟩ := st
    exact ⟨⟨old, k e (by simp) _ he⟩, hi.at fun o q => k it (by simp) o q, r⟩
  item := by
    intro X hP hw hK hc i pins s σ H E I hf st hg
    subst hP hw hK
    obtain ⟨⟨old, he⟩, hit, hne, hai, hea⟩ := st
    obtain ⟨xs, x, hq, hx⟩ := hg
    obtain ⟨its, rv, p, hz⟩ := I.tuple hq
    obtain ⟨u, hu, ru⟩ := rv.get hx
    have el : e < s.heap.objs.size := Heap.lt_size he
    have il : it < s.heap.objs.size := by
      obtain ⟨_, q, _⟩ := hit
      exact Heap.lt_size q
    have hlt : i < its.toArray.size := by
      have := (List.getElem?_eq_some_iff.mp hu).1
      simpa using this
    refine wpAny_pyNext_enum_itemD (drawsT (A := X.A.in1) (I.ok.hd hc) it a hai its.toArray) he ⟨hit, p⟩ hlt hne (by simp; exact ⟨hne, hea⟩) fun y h' tk hy ho st' hT hsz hk => ?_
    obtain rfl : y = u := by
      have q : its.toArray[i]? = some u := by simpa using hu
      rw [q] at hy
      exact (Option.some.inj hy).symm
    refine ⟨_, rfl, wpAny_letOwnedTupleGo_enum (s := { s with heap := h', toks := tk + 1 }) ho fun h2 he2 sb => ?_⟩
    have hT2 : h2.get? s.heap.objs.size = some { cls := .type "tuple", data := .seq #[.int i tk, y] } := (sb.2 _ (Nat.ne_of_gt el)).trans hT
    have new : ObjOk X.prog X.w (upd H s.heap.objs.size (.tup [.int (i : Nat), x])) h2 s.heap.objs.size (.tup [.int (i : Nat), x]) :=
      ⟨by show 2 ≤ sizeLine; decide, [.int i tk, y], .cons ⟨_, rfl⟩ (.cons ru .nil), ⟨_, hT2, rfl, _, rfl⟩⟩
    have I1 : Inv X pins σ (upd H s.heap.objs.size (.tup [.int (i : Nat), x])) { s with heap := h2, toks := tk + 1 } :=
      I.turnedNew (ch := [e, it]) (fun b ob hb q => (sb.2 b (fun z => hb (by simp [z]))).trans (hk b ob (fun z => hb (by simp [z])) (fun z => hb (by simp [z])) q)) hf (Nat.le_refl _) new
    refine ⟨.ref s.heap.objs.size, _, I1, rfl, ⟨_, x, rfl, I.hok.fresh (Nat.le_refl _), rfl, fun ys hy2 => by rw [I.tuple_inj hy2 hq]; exact hx⟩, ⟨⟨y, ?_⟩, st'.1.at fun o q => (sb.2 it (Ne.symm hne)).trans q, hne, hai, hea⟩, fun b hb => ?_⟩
    · have e1 : ((i + 1 : Nat) : Int) = (i : Int) + 1 := by omega
      rw [e1]
      exact he2
    · have hb2 : b < s.heap.objs.size := by
        rcases (show b = e ∨ b = it by simpa using hb) with z | z
        · rw [z]; exact el
        · rw [z]; exact il
      rw [upd_ne (Nat.ne_of_lt hb2)]
      exact (hf b hb).1
  done := by
    intro X hP hw hK hc i pins s σ H E I hf st hg
    subst hP hw hK
    obtain ⟨⟨old, he⟩, hit, hne, hai, hea⟩ := st
    obtain ⟨xs, hq, hx⟩ := hg
    obtain ⟨its, rv, p, hz⟩ := I.tuple hq
    obtain ⟨f0, f1, f2, f3, f4, f5⟩ := hf it (by simp)
    have hl := rv.length
    have hiEq : i = its.toArray.size := by
      rw [List.size_toArray]
      omega
    subst hiEq
    exact wpAny_pyNext_enum_endD (drawsT (A := X.A.in1) (I.ok.hd hc) it a hai its.toArray) he ⟨hit, p⟩ fun h' eb => ⟨rfl, I.turned (t' := s.toks) (fun b o hb q => eb b o hb q) f0 f1 f3 f4 f5⟩
  self := fun A i s Q E st h => by
    obtain ⟨⟨_, he⟩, _⟩ := st
    exact wpAny_pyIter_enum he h
def iEnumT (K : PySem.W.Frag) (ta : TA) : TI := fun σ H R => ta σ H fun vs H1 => ∃ a xs, vs = [.ref a] ∧ SqT K H1 a xs ∧ R (IteT K a) H1
theorem pi_enumT {X : Cx} {e : Expr} {ta : TA} {p pos tpos : Pos} {elts : List Expr} {kk : Nat} (hg : Gl X "enumerate") (hm : X.mg "enumerate" = none) (ha : PA X [e] ta) (hs : starEach [e] X.env = [(false, eval e X.env)] := by rfl) :
    PI X (.Tuple elts kk tpos) (.Call (.Name "enumerate" p) [e] [] pos) (iEnumT X.K ta) := by
  refine ⟨fun pins s σ H R I h => ?_⟩
  refine Call_ (ld_blt I hg hm boot_enumerate (PyProof.Rows.callWith_type1 (thn (ha.run pos pins s σ H _ I h) fun us s1 ⟨vs, H1, I1, r1, a, xs, ex, hq, q⟩ => ?_) hs rfl))
  subst ex
  cases r1 with
  | cons r rr =>
    cases rr
    cases r
    obtain ⟨its, rv, p1, hz⟩ := I1.tuple hq
    refine callEnumT p1 fun h1 he hit hT hk => wpAny_pyIter_enum he ?_
    have al : a < s1.heap.objs.size := by
      obtain ⟨o, ho, _⟩ := p1
      exact Heap.lt_size ho
    have I2 : Inv X pins σ H1 { s1 with heap := h1 } := I1.kept (t' := s1.toks) hk
    refine ⟨s1.heap.objs.size + 1, [s1.heap.objs.size + 1, s1.heap.objs.size], _, _, H1, rfl, I2, turnEnumT a (s1.heap.objs.size + 1) s1.heap.objs.size, ⟨⟨.none, he⟩, hit, Nat.succ_ne_self _, Nat.ne_of_lt al, Nat.ne_of_gt (Nat.lt_succ_of_lt al)⟩, fun b hb => ?_, q⟩
    have le : s1.heap.objs.size ≤ b := by
      rcases (show b = s1.heap.objs.size + 1 ∨ b = s1.heap.objs.size by simpa using hb) with z | z
      · rw [z]
        exact Nat.le_succ _
      · rw [z]
        exact Nat.le_refl _
    exact I1.fpOk le (I1.hok.fresh le)
/-- the loop's bookkeeping: the pair is a new tuple at T -/
theorem for_enumT {K : PySem.W.Frag} {a : Addr} {xs : List V} {g : TG} {tb : TS} {D : Ends} {σ : L2.St} {H : Hp} (Pv : Nat → L2.St → Hp → Prop) (h0 : Pv 0 σ H) (hl : ∀ i σ H, i ≤ xs.length → Pv i σ H → SqT K H a xs)
    (hs : ∀ i x T σ H, xs[i]? = some x → Pv i σ H → H T = none → g (.ref T) σ (upd H T (.tup [.int (i : Nat), x])) fun σ2 H2 => tb { D with nx := Pv (i + 1), ct := Pv (i + 1), bk := D.nx } σ2 H2) (hd : ∀ σ H, Pv xs.length σ H → D.nx σ H) :
    ∃ W : Nat → Nat → L2.St → Hp → Prop, (∃ m, W 0 m σ H) ∧ ∀ i m σ H, W i m σ H →
      ((IteT K a).stop i H ∧ D.nx σ H) ∨ ((IteT K a).go i H ∧ ∃ N : L2.St → Hp → Prop, (∀ σ' H', N σ' H' → ∃ m', m' < m ∧ W (i + 1) m' σ' H') ∧ ∀ x H', (IteT K a).yld i H x H' → g x σ H' fun σ2 H2 => tb { D with nx := N, ct := N, bk := D.nx } σ2 H2) := by
  refine ⟨fun i m σ H => m = xs.length - i ∧ i ≤ xs.length ∧ Pv i σ H, ⟨xs.length, by simp, Nat.zero_le _, h0⟩, ?_⟩
  rintro i m σ1 H1 ⟨rfl, hi, p⟩
  by_cases e : i = xs.length
  · subst e
    exact .inl ⟨⟨xs, hl _ _ _ hi p, rfl⟩, hd _ _ p⟩
  · have lt : i < xs.length := by omega
    have ge : xs[i]? = some xs[i] := List.getElem?_eq_getElem lt
    refine .inr ⟨⟨xs, xs[i], hl _ _ _ hi p, ge⟩, Pv (i + 1), fun σ2 H2 q => ⟨xs.length - (i + 1), by omega, rfl, by omega, q⟩, ?_⟩
    rintro x H2 ⟨T, y, rfl, hT, rfl, hy⟩
    have q := hy xs (hl _ _ _ hi p)
    exact hs i y T σ1 H1 q p hT
/-! ### f(k = v, ..): keywords alone -/
theorem pe_callN0 {X : Cx} {CX : CXT} {k : Nat} {f : Addr} {fd : FuncData} {ps ks : List Str} {sp : Sp} {E : XK} {x : Str} {p pos : Pos} {kws : List Keyword} {tk : TA} {g : List Value → List Value → List Value} {gV : List V → List V → List V}
    (F : FnOk X.prog X.w X.K X.mg X.base CX k f fd ps sp) (hr : Room k X.A) (hg : Gl X x) (hm : X.mg x = some (.ref f)) (hk : PySem.W.keepIn X.K (.ref f) = true) (hb : KBn X.K fd ps 0 ks g gV) (hx : Passes CX X E) (hkw : PK X kws tk)
    (hall : (backToKw pos (keywordEach kws X.env)).all (·.1.isSome) = true := by rfl) (hks : (backToKw pos (keywordEach kws X.env)).filterMap (·.1) = ks := by rfl) (hdb : (x == ("__debug__" : Str)) = false := by decide)
    (hpl : ((backTo pos (starEach [] X.env)).any (·.1) || (backToKw pos (keywordEach kws X.env)).any (·.1.isNone)) = false := by rfl) :
    PE X (.Call (.Name x p) [] kws pos) (tCallN 0 ks.length sp gV E tNil tk) := by
  refine ⟨fun pins s σ H Q I h => ?_⟩
  refine wpAny_Call_Name_kw (ld_glob I hg hm ?_ hdb)
  refine PySem.W.callWith_KW0 (h₀ := X.base) I.ok.mod.kin hk hall (thn (hkw.run pos pins s σ H _ I h) fun ws s2 ⟨zs, H2, I2, rz, l1, l2, q2⟩ => ⟨I2.kIn, ?_⟩) hpl
  rw [hks]
  exact run_fnN (us := []) (vs := []) F hr hb hx I2 .nil rz rfl l2 q2
/-! ### isinstance's answers -/
theorem kit_self {K : PySem.W.Frag} {t : Value} (h : (t == t) = true) : PySem.W.kitOne K t t = some true := by
  unfold PySem.W.kitOne
  rw [if_pos h]
theorem kit_cls {K : PySem.W.Frag} {A C : Addr} {b : Bool} (h1 : PySem.W.isClsIn K C = true) (h2 : PySem.W.typeIn K (.ref C) = some (.type "type")) (h3 : PySem.W.subIn K (.ref A) (.ref C) = some b) (ne : (Value.ref A == Value.ref C) = false) :
    PySem.W.kitOne K (.ref A) (.ref C) = some b := by
  unfold PySem.W.kitOne
  rw [if_neg (by rw [ne]; exact Bool.false_ne_true)]
  show (if ((PySem.W.clsIn K C).isSome && PySem.W.typeIn K (.ref C) == some (.type "type")) = true then PySem.W.subIn K (.ref A) (.ref C) else none) = some b
  have h1' : (PySem.W.clsIn K C).isSome = true := h1
  rw [h1', h2, if_pos (by rfl)]
  exact h3
/-! ### lists of things that stand in the heap -/
def A2 {α : Type} (R : V → α → Prop) : List V → List α → Prop
  | [], [] => True
  | v :: vs, d :: ds => R v d ∧ A2 R vs ds
  | _, _ => False
section
variable {α : Type} {R S : V → α → Prop}
theorem A2.len : ∀ {vs : List V} {ds : List α}, A2 R vs ds → vs.length = ds.length
  | [], [], _ => rfl
  | _ :: _, _ :: _, h => congrArg (· + 1) (A2.len h.2)
  | [], _ :: _, h => h.elim
  | _ :: _, [], h => h.elim
theorem A2.mono (f : ∀ v d, R v d → S v d) : ∀ {vs : List V} {ds : List α}, A2 R vs ds → A2 S vs ds
  | [], [], _ => trivial
  | _ :: _, _ :: _, h => ⟨f _ _ h.1, A2.mono f h.2⟩
  | [], _ :: _, h => h.elim
  | _ :: _, [], h => h.elim
theorem A2.get : ∀ {vs : List V} {ds : List α} {i : Nat} {v : V}, A2 R vs ds → vs[i]? = some v → ∃ d, ds[i]? = some d ∧ R v d
  | [], [], i, v, _, e => by simp at e
  | w :: _, d :: _, 0, v, h, e => by
    have : w = v := by simpa using e
    exact ⟨d, rfl, this ▸ h.1⟩
  | _ :: _, _ :: _, i + 1, v, h, e => by
    obtain ⟨d, e1, r⟩ := A2.get (i := i) h.2 (by simpa using e)
    exact ⟨d, by simpa using e1, r⟩
  | [], _ :: _, _, _, h, _ => h.elim
  | _ :: _, [], _, _, h, _ => h.elim
theorem A2.app : ∀ {vs ws : List V} {ds es : List α}, A2 R vs ds → A2 R ws es → A2 R (vs ++ ws) (ds ++ es)
  | [], _, [], _, _, k => k
  | _ :: _, _, _ :: _, _, h, k => ⟨h.1, A2.app h.2 k⟩
  | [], _, _ :: _, _, h, _ => h.elim
  | _ :: _, _, [], _, h, _ => h.elim
theorem A2.take : ∀ {vs : List V} {ds : List α} (n : Nat), A2 R vs ds → A2 R (vs.take n) (ds.take n)
  | vs, ds, 0, _ => by simp [A2]
  | [], [], n + 1, _ => trivial
  | _ :: _, _ :: _, n + 1, h => ⟨h.1, A2.take n h.2⟩
  | [], _ :: _, _ + 1, h => h.elim
  | _ :: _, [], _ + 1, h => h.elim
theorem A2.drop : ∀ {vs : List V} {ds : List α} (n : Nat), A2 R vs ds → A2 R (vs.drop n) (ds.drop n)
  | vs, ds, 0, h => by simpa using h
  | [], [], n + 1, _ => trivial
  | _ :: _, _ :: _, n + 1, h => A2.drop n h.2
  | [], _ :: _, _ + 1, h => h.elim
  | _ :: _, [], _ + 1, h => h.elim
end
/-! ### heaps -/
/-- all that was tracked, but what stands at w, is as it was -/
def Fr (w : Addr) (H H' : Hp) : Prop := ∀ b o, b ≠ w → H b = some o → H' b = some o
theorem Fr.refl (w : Addr) (H : Hp) : Fr w H H := fun _ _ _ h => h
theorem Fr.trans {w : Addr} {H H1 H2 : Hp} (a : Fr w H H1) (b : Fr w H1 H2) : Fr w H H2 := fun c o n h => b c o n (a c o n h)
theorem Fr.of {w : Addr} {H H1 : Hp} (a : Same H H1) : Fr w H H1 := fun b o _ h => a b o h
theorem Fr.sqL {K : PySem.W.Frag} {w : Addr} {H H' : Hp} {a : Addr} {xs : List V} (e : Fr w H H') (n : a ≠ w) (h : SqL K H a xs) : SqL K H' a xs := by
  rcases h with h | h
  · refine Or.inl ?_
    rcases h with h | ⟨o, h⟩
    · exact Or.inl (e a _ n h)
    · exact Or.inr ⟨o, e a _ n h⟩
  · exact Or.inr h
theorem Fr.sqT {K : PySem.W.Frag} {w : Addr} {H H' : Hp} {a : Addr} {xs : List V} (e : Fr w H H') (n : a ≠ w) (h : SqT K H a xs) : SqT K H' a xs := by
  rcases h with h | h
  · refine Or.inl ?_
    rcases h with h | ⟨o, h⟩
    · exact Or.inl (e a _ n h)
    · exact Or.inr ⟨o, e a _ n h⟩
  · exact Or.inr h
theorem sameT {K : PySem.W.Frag} {H H' : Hp} {a : Addr} {xs : List V} (e : Same H H') (h : SqT K H a xs) : SqT K H' a xs := by
  rcases h with h | h
  · refine Or.inl ?_
    rcases h with h | ⟨o, h⟩
    · exact Or.inl (e a _ h)
    · exact Or.inr ⟨o, e a _ h⟩
  · exact Or.inr h
theorem same_new {H : Hp} {p : Addr} {o : HO} (h : H p = none) : Same H (upd H p o) := fun b u e => by
  rw [upd_ne (ne_of_none e h)]
  exact e
theorem same_mut {H H' : Hp} {p : Addr} {o : HO} (e : Same H H') (h : H p = none) : Same H (upd H' p o) := fun b u ha => by
  rw [upd_ne (ne_of_none ha h)]
  exact e b u ha
theorem fr_mut {w : Addr} {H H' : Hp} {o : HO} (e : Fr w H H') : Fr w H (upd H' w o) := fun b u n h => by
  rw [upd_ne n]
  exact e b u n h
theorem fr_new {w : Addr} {H H' : Hp} {p : Addr} {o : HO} (e : Fr w H H') (h : H p = none) : Fr w H (upd H' p o) := fun b u n ha => by
  rw [upd_ne (ne_of_none ha h)]
  exact e b u n ha
theorem fr_free {w : Addr} {H H' : Hp} {p : Addr} (e : Fr w H H') (n : p ≠ w) (h : H' p = none) : H p = none := by
  cases z : H p with
  | none => rfl
  | some o =>
    rw [e p o n z] at h
    cases h
/-- ints as values -/
abbrev vi (l : List Int) : List V := l.map V.int
theorem vi_get {l : List Int} {i : Nat} {y : V} (h : (vi l)[i]? = some y) : ∃ z, l[i]? = some z ∧ y = .int z := by
  rw [List.getElem?_map] at h
  cases e : l[i]? with
  | none =>
    rw [e] at h
    cases h
  | some z =>
    rw [e] at h
    exact ⟨z, rfl, (Option.some.inj h).symm⟩
theorem vi_at {l : List Int} {i : Nat} (h : i < l.length) : atI (vi l) (i : Int) = some (.int (l.getD i 0)) := by
  refine atI_nat ?_
  rw [List.getElem?_map, List.getElem?_eq_getElem h, List.getD_eq_getElem?_getD, List.getElem?_eq_getElem h]
  rfl
end KpR

namespace KpR
open PySem PySem.Spec PyProof.Rows L2
def strB (es : Array DictEntry) : Bool := es.toList.all fun e => match e.key with
  | .str _ _ => true
  | _ => false
theorem strB_keys {es : Array DictEntry} (h : strB es = true) : StrKeys es := fun e he => by
  have q := List.all_eq_true.mp h e (by simpa using he)
  cases k : e.key <;> rw [k] at q <;> first | exact ⟨_, _, rfl⟩ | cases q
theorem ns_at {K : PySem.W.Frag} {h : Heap} {N : Addr} {c : Value} {d : Option Addr} {es : Array DictEntry} {m : Nat} {sl : Array (Option Value)} (X : K.In h) (l : K.lookup N = some ⟨c, d, .dict es m, sl⟩) (ok : strB es = true) :
    h.Ns N fun x => nsFind es x := ⟨_, es, m, X _ _ l, rfl, strB_keys ok, fun _ => rfl⟩
theorem find_some {K : PySem.W.Frag} {N : Addr} {c : Value} {d : Option Addr} {es : Array DictEntry} {m : Nat} {sl : Array (Option Value)} {x : Str} {v : Value} (l : K.lookup N = some ⟨c, d, .dict es m, sl⟩)
    (e : PySem.W.nsIn K N x = some (some v)) : nsFind es x = some v := by
  unfold PySem.W.nsIn at e
  rw [l] at e
  dsimp only at e
  unfold nsFind findBy
  rw [← Array.find?_toList]
  cases q : es.toList.find? (fun en => en.key.isStr x) with
  | none =>
    rw [q] at e
    dsimp only at e
    split at e <;> cases e
  | some en =>
    rw [q] at e
    cases e
    rfl
theorem find_none {K : PySem.W.Frag} {N : Addr} {c : Value} {d : Option Addr} {es : Array DictEntry} {m : Nat} {sl : Array (Option Value)} {x : Str} (l : K.lookup N = some ⟨c, d, .dict es m, sl⟩)
    (e : PySem.W.nsIn K N x = some none) : nsFind es x = none := by
  unfold PySem.W.nsIn at e
  rw [l] at e
  dsimp only at e
  unfold nsFind findBy
  rw [← Array.find?_toList]
  cases q : es.toList.find? (fun en => en.key.isStr x) with
  | none => rfl
  | some en =>
    rw [q] at e
    cases e
/-- what the written part says of such a class -/
structure NeCls (K : PySem.W.Frag) (C f : Addr) : Prop where
  ob : ∃ (nm q : Str) (N : Addr) (bs : List Value) (hd : Bool) (sn : List Str) (sub : List Value) (ab : Bool) (col : Option Bool) (dd : Option Addr) (k0 k1 k2 k3 k5 : Option Value) (nid : String),
    K.lookup C = some (excClassObj nm q C N bs [.type "object"] hd sn sub ab col dd k0 k1 k2 k3 k5 nid) ∧
    ∃ (c : Value) (d : Option Addr) (es : Array DictEntry) (m : Nat) (sl : Array (Option Value)), K.lookup N = some ⟨c, d, .dict es m, sl⟩ ∧ strB es = true ∧ PySem.W.nsIn K N "__eq__" = some (some (.ref f)) ∧ PySem.W.nsIn K N "__ne__" = some none
  fn : ∃ of : Obj, K.lookup f = some of ∧ of.cls = .type "function"
def rNeG (D : Eqv) : R2 := fun x y H Q => D x y H ∧ ∀ H', Ext H H' → Q (.bl false) H'
section
variable {X : Cx} {CX : CXT} {n : Nat} {C f : Addr} {fd : FuncData} {ps : List Str} {R : Addr → Addr → Hp → Prop} {E : XK}
theorem op_neOwn (G : FnOk X.prog X.w X.K X.mg X.base CX n f fd ps (spEq R)) (hc : NeCls X.K C f) (hb : Binds X.K fd ps []) (hx : Passes CX X E) (hr : Room (n + 1) X.A) :
    OpR X (compareOp .NotEq) (rNeG (DIns C R)) := by
  intro pins s σ H x y v u Q I rx ry hq
  obtain ⟨⟨a, b, dx, dy, fs, gs, rfl, rfl, ha, hb1, hR⟩, q⟩ := hq
  cases rx
  cases ry
  obtain ⟨mA, J, _⟩ := ins_get I.hok ha
  obtain ⟨mB, J1, _⟩ := ins_get I.hok hb1
  obtain ⟨od, J, _⟩ := J.look
  obtain ⟨od1, J1, _⟩ := J1.look
  obtain ⟨nm, qn, N, bs, hd, sn, sub, ab, col, dd, k0, k1, k2, k3, k5, nid, lC, c1, d1, es, m, sl, lN, sb, lE, lNe⟩ := hc.ob
  obtain ⟨of, lf, cf⟩ := hc.fn
  have KI := I.kIn
  obtain ⟨mN, hn, e1, e2⟩ : ∃ mN : Str → Option Value, s.heap.Ns N mN ∧ mN "__eq__" = some (.ref f) ∧ mN "__ne__" = none := ⟨_, ns_at KI lN sb, find_some lN lE, find_none lN lNe⟩
  have XX : s.heap.OwnEqNoNe a C f "object" [.type "object"] :=
    ⟨_, of, nm, qn, N, bs, hd, sn, sub, ab, col, dd, k0, k1, k2, k3, k5, nid, mN, _, J.at_, J.cls, KI _ _ lC, hn, e1, KI _ _ lf, cf, rfl, rfl, e2⟩
  have e0 := I.env0
  have sp1 : spEq R [.ref a, .ref b] H (fun v H' => v = .bl true ∧ Ext H H') E := ⟨a, b, rfl, hR, fun H' e => ⟨rfl, e⟩⟩
  have ln := G.len _ _ _ _ sp1
  have vals : Vals [V.ref a, V.ref b] [Value.ref a, Value.ref b] := .cons rfl (.cons rfl .nil)
  have hr1 : Room n X.A.in1 := hr.in1
  have f0 : Env0 X.prog X.w X.K X.mg X.base X.A.in1 X.stack s H := ⟨e0.frames, e0.mod, e0.bs, e0.bsz, e0.funs, e0.frf, e0.hok, e0.bare⟩
  have bd := hb s [.ref a, .ref b] KI (by simpa using ln)
  obtain ⟨hp, g, dr, tk, os⟩ := s
  refine compareOp_ne_ownEq F.cmp_object XX J1.at_ J1.cls (hu_of hr) ?_
  refine wpAny_call (codeAny_mono (G.run X.A.in1 X.stack _ H ⟨[.ref a, .ref b], []⟩ [.ref a, .ref b] [.ref a, .ref b] _ E hr1 f0 (by simpa using bd) vals sp1) fun r s1 hq1 => ?_)
  cases r with
  | error e => exact hx pins σ H _ e s1 I hq1
  | ok fl =>
    cases fl with
    | ret w1 =>
      obtain ⟨z, H1, I1, rz, ez, ex⟩ := I.after hq1
      subst ez
      cases rz
      exact ⟨true, rfl, .bl false, H1, I1, rfl, q H1 ex⟩
    | next => exact False.elim hq1
    | brk => exact False.elim hq1
    | cont => exact False.elim hq1
end
end KpR

namespace KpR
open PySem PySem.Spec PyProof.Rows L2
section
variable {prog : Program} {w : World} {A : Around} {E : Value → Shared → Prop} {s : Shared} {K : PySem.W.Frag} {x C f : Addr} {ox : Obj} {od : Option Obj}
theorem dec_tup {l : Addr} {its : Array Value} {n : Nat} {dd : Option Addr} {sl : Array (Option Value)} {Q : Value → Shared → Prop} (hl : s.heap.get? l = some { cls := .type "tuple", dict := dd, data := .seq its n, slots := sl })
    (hx : s.heap.get? x = some ox) (hc : ox.cls = .ref C) (hs : PySem.W.Looks (model prog w) s.heap (isSubtype (.ref C) (.type "tuple")) false) (q : Q .notImplemented s) :
    wpAny (model prog w) A (call (.builtin "tuple.__eq__") [.ref l, .ref x]) Q E s := by
  refine GQ.call_here F.slot_tuple_eq ⟨_, hl, rfl⟩ F.entry_tuple_eq (F.args_tuple_eq_2 _ _) ?_
  obtain ⟨hp, g, d, tk, os⟩ := s
  wp_walk using PySem.AutoSeq1.wpAny_loadPart' hx
  rw [hc]
  refine hs.at ?_
  wp_walk
  exact q
theorem dec_int {i : Int} {t : Tok} {Q : Value → Shared → Prop}
    (hx : s.heap.get? x = some ox) (hd : ∀ p, ox.data ≠ .prim p) (q : Q .notImplemented s) :
    wpAny (model prog w) A (call (.builtin "int.__eq__") [.int i t, .ref x]) Q E s := by
  refine GQ.call_here F.slot_int_eq (typeIs_int s i t) F.entry_int_eq (F.args_int_eq_2 _ _) ?_
  obtain ⟨hp, g, d, tk, os⟩ := s
  wp_walk using PySem.AutoSeq1.wpAny_loadPart' hx, wpAny_load hx
  split
  · rename_i i' t' e
    exact absurd e (hd _)
  · wp_walk
    exact q
theorem dec_non {Q : Value → Shared → Prop} (q : Q .notImplemented s) :
    wpAny (model prog w) A (call (.builtin "NoneType.__eq__") [.none, .ref x]) Q E s :=
  call_gives F.slot_NoneType_eq rfl F.entry_NoneType_eq (F.args_NoneType_eq_2 _ _) (SeqAt.NoneType___eq___none_ref_0 x) q
/-- a value that declines, then the own == of the other side -/
theorem rc_behind {v : Value} {T id : String} {Q : Value → Shared → Prop} (tv : s.TypeIs v T) (X : K.In s.heap) (I : PySem.W.InstAt s.heap x ox C od) (hsub : PySem.W.subIn K (.ref C) (.type T) = some false)
    (h1 : Slot T "__eq__" id) (dec : ∀ Q' : Value → Shared → Prop, Q' .notImplemented s → wpAny (model prog w) A (call (.builtin id) [v, .ref x]) Q' E s) (hs : PySem.W.findIn K (.ref C) "__eq__" = some (some (.ref f))) (hf : PySem.W.isFn K (.ref f) = true)
    (hu : A.units < cLine) (h : wpAny (model prog w) A (call (.ref f) [.ref x, v]) (PySem.W.CmpBack Q) E s) : wpAny (model prog w) A (richCompare .Eq v (.ref x)) Q E s := by
  have one : wpAny (model prog w) A (tryCompare (.ref x) "__eq__" v) (fun r s' => ∃ z, r = some z ∧ Q z s') E s := by
    unfold tryCompare
    refine wpAny_bind (PySem.W.ifBound_K X I hs hf (wpAny_mono h (fun z s' hz => ?_) fun _ _ e => e))
    cases z with
    | notImplemented => exact False.elim hz
    | _ => exact wpAny_pure ⟨_, rfl, hz⟩
  have nz : (Value.type T != Value.ref C) = true := rfl
  simp only [richCompare, cmpInfo_Eq, tv.oneThing_none]
  refine wpAny_holding (wpAny_bind (wpAny_cRoomFor hu ?_))
  refine wpAny_bind (wpAny_typeOf tv (wpAny_bind (I.type.here ?_)))
  rw [if_pos nz]
  refine wpAny_bind ((PySem.W.looks_subIn X hsub).here ?_)
  rw [if_neg Bool.false_ne_true]
  refine wpAny_bind (m := tryCompare v _ (.ref x)) (wpAny_tryCompare_declines tv h1 (dec _ ⟨rfl, ?_⟩))
  rw [if_pos (show (!false) = true from rfl)]
  refine wpAny_bind (m := tryCompare (.ref x) _ v) (wpAny_mono one (fun r s' z => ?_) fun _ _ e => e)
  obtain ⟨z, rfl, hq⟩ := z
  exact wpAny_pure hq
end
/-- an own == that answers b where R says so, and only makes objects -/
def spEqB (R : Addr → V → Bool → Hp → Prop) : Sp := fun vs H Q _ => ∃ a y b, vs = [.ref a, y] ∧ R a y b H ∧ ∀ H', Ext H H' → Q (.bl b) H'
/-- either answer, by the abstract heap -/
abbrev EqvB := V → V → Bool → Hp → Prop
def EqB (X : Cx) (n : Nat) (D : EqvB) : Prop :=
  ∀ (B : Around) (pins : List (Addr × Obj)) (s : Shared) (σ : L2.St) (H : Hp) (x y : V) (b : Bool) (u v : Value), Sub X n B → Inv X pins σ H s → RelV x u → RelV y v → D x y b H →
    wpAny (model X.prog X.w) B (eqBool u v) (fun r s' => r = b ∧ LoopI X pins σ H s') X.xe s
def RcB (X : Cx) (n : Nat) (D : EqvB) : Prop :=
  ∀ (B : Around) (pins : List (Addr × Obj)) (s : Shared) (σ : L2.St) (H : Hp) (x y : V) (b : Bool) (u v : Value), Sub X n B → Inv X pins σ H s → RelV x u → RelV y v → D x y b H →
    wpAny (model X.prog X.w) B (richCompare .Eq u v) (fun r s' => r = .bool b ∧ LoopI X pins σ H s') X.xe s
/-- what the written part says of a class with an own == -/
structure EqCls (K : PySem.W.Frag) (C f : Addr) : Prop where
  hs : PySem.W.findIn K (.ref C) "__eq__" = some (some (.ref f))
  hf : PySem.W.isFn K (.ref f) = true
/-- both are instances, the second of no class below the first one's -/
def DInsB (K : PySem.W.Frag) (C : Addr) (R : Addr → V → Bool → Hp → Prop) : EqvB := fun x y b H => ∃ a c C' dx dy fs gs, x = .ref a ∧ y = .ref c ∧ H a = some (.ins C dx fs) ∧ H c = some (.ins C' dy gs) ∧ PySem.W.notFirst K C (.ref C') = true ∧ R a (.ref c) b H
/-- the first one is none of the class -/
inductive Alien (K : PySem.W.Frag) (C : Addr) (H : Hp) : V → Prop
  | non (h : PySem.W.subIn K (.ref C) (.type "NoneType") = some false) : Alien K C H .non
  | int {i : Int} (h : PySem.W.subIn K (.ref C) (.type "int") = some false) : Alien K C H (.int i)
  | tup {a : Addr} {xs : List V} (h : PySem.W.subIn K (.ref C) (.type "tuple") = some false) (e : H a = some (.tup xs)) : Alien K C H (.ref a)
  | lst {a : Addr} {xs : List V} (h : PySem.W.subIn K (.ref C) (.type "list") = some false) (e : H a = some (.lst xs)) : Alien K C H (.ref a)
def DBehB (K : PySem.W.Frag) (C : Addr) (R : Addr → V → Bool → Hp → Prop) : EqvB := fun x y b H => ∃ a dx fs, y = .ref a ∧ H a = some (.ins C dx fs) ∧ Alien K C H x ∧ R a x b H
section
variable {prog : Program} {w : World} {A : Around} {E : Value → Shared → Prop} {s : Shared} {x C : Addr} {ox : Obj}
theorem dec_lst {l : Addr} {its : Array Value} {n : Nat} {dd : Option Addr} {sl : Array (Option Value)} {Q : Value → Shared → Prop} (hl : s.heap.get? l = some { cls := .type "list", dict := dd, data := .seq its n, slots := sl })
    (hx : s.heap.get? x = some ox) (hc : ox.cls = .ref C) (hs : PySem.W.Looks (model prog w) s.heap (isSubtype (.ref C) (.type "list")) false) (q : Q .notImplemented s) :
    wpAny (model prog w) A (call (.builtin "list.__eq__") [.ref l, .ref x]) Q E s := by
  refine GQ.call_here F.slot_list_eq ⟨_, hl, rfl⟩ F.entry_list_eq (F.args_list_eq_2 _ _) ?_
  obtain ⟨hp, g, d, tk, os⟩ := s
  wp_walk using PySem.AutoSeq1.wpAny_loadPart' hx
  rw [hc]
  refine hs.at ?_
  wp_walk
  exact q
end
section
variable {X : Cx} {CX : CXT} {n : Nat} {C f : Addr} {fd : FuncData} {ps : List Str} {R : Addr → V → Bool → Hp → Prop} {E : XK} {pins : List (Addr × Obj)} {σ : L2.St} {H : Hp} {s : Shared} {B : Around}
theorem own_runB (G : FnOk X.prog X.w X.K X.mg X.base CX n f fd ps (spEqB R)) (hb : Binds X.K fd ps []) (hx : Passes CX X E) (sb : Sub X n B) (I : Inv X pins σ H s) {a : Addr} {y : V} {v : Value} {b : Bool} (ry : RelV y v) (hr : R a y b H) :
    wpAny (model X.prog X.w) B (call (.ref f) [.ref a, v]) (PySem.W.CmpBack fun r s' => r = .bool b ∧ LoopI X pins σ H s') X.xe s := by
  have sp1 : spEqB R [.ref a, y] H (fun z H' => z = .bl b ∧ Ext H H') E := ⟨a, y, b, rfl, hr, fun H' e => ⟨rfl, e⟩⟩
  have e0 := I.env0
  have ln := G.len _ _ _ _ sp1
  have vals : Vals [V.ref a, y] [Value.ref a, v] := .cons rfl (.cons ry .nil)
  have f0 : Env0 X.prog X.w X.K X.mg X.base B X.stack s H := ⟨by rw [sb.fr]; exact e0.frames, e0.mod, e0.bs, e0.bsz, e0.funs, e0.frf, e0.hok, e0.bare⟩
  have bd := hb s [.ref a, v] I.kIn (by simpa using ln)
  refine wpAny_call (codeAny_mono (G.run B X.stack s H ⟨[.ref a, v], []⟩ [.ref a, v] [.ref a, y] _ E sb.room f0 (by simpa using bd) vals sp1) fun r s1 hq1 => ?_)
  cases r with
  | error e => exact hx pins σ H s e s1 I hq1
  | ok fl =>
    cases fl with
    | ret w1 =>
      obtain ⟨z, H1, I1, rz, ez, ex⟩ := I.after hq1
      subst ez
      cases rz
      exact ⟨rfl, H1, I1, ex⟩
    | next => exact False.elim hq1
    | brk => exact False.elim hq1
    | cont => exact False.elim hq1
theorem rcB_ins (hc : EqCls X.K C f) (G : FnOk X.prog X.w X.K X.mg X.base CX n f fd ps (spEqB R)) (hb : Binds X.K fd ps []) (hx : Passes CX X E) : RcB X n (DInsB X.K C R) := by
  intro B pins s σ H x y b u v sb I rx ry hd
  obtain ⟨a, c, C', dx, dy, fs, gs, rfl, rfl, ha, hc1, nf, hr⟩ := hd
  cases rx
  cases ry
  obtain ⟨mA, J, _⟩ := ins_get I.hok ha
  obtain ⟨mC, J1, _⟩ := ins_get I.hok hc1
  obtain ⟨od, J, _⟩ := J.look
  obtain ⟨od1, J1, _⟩ := J1.look
  obtain ⟨m, hF⟩ := I.fr
  exact PySem.W.cmp_K (op := .Eq) (tb := .ref C') sb.room.units0 hF I.ok.mod.kin J J1.type nf hc.hs hc.hf (own_runB (y := .ref c) (v := .ref c) G hb hx sb I rfl hr)
theorem rcB_beh (hc : EqCls X.K C f) (G : FnOk X.prog X.w X.K X.mg X.base CX n f fd ps (spEqB R)) (hb : Binds X.K fd ps []) (hx : Passes CX X E) : RcB X n (DBehB X.K C R) := by
  intro B pins s σ H x y b u v sb I rx ry hd
  obtain ⟨a, dx, fs, rfl, ha, al, hr⟩ := hd
  cases ry
  obtain ⟨mA, J, _⟩ := ins_get I.hok ha
  obtain ⟨od, J, _⟩ := J.look
  have go := fun {v : Value} (rv : RelV x v) => own_runB G hb hx sb I rv hr
  cases al with
  | non h =>
    cases (show u = Value.none from rx)
    exact rc_behind rfl I.kIn J h F.slot_NoneType_eq (fun _ q => dec_non q) hc.hs hc.hf sb.room.units0 (go rfl)
  | int h =>
    obtain ⟨t, e⟩ := (show ∃ t, u = Value.int _ t from rx)
    cases e
    exact rc_behind (typeIs_int s _ t) I.kIn J h F.slot_int_eq (fun _ q => dec_int J.at_ (fun _ z => nomatch z) q) hc.hs hc.hf sb.room.units0 (go ⟨t, rfl⟩)
  | tup h e =>
    cases (show u = Value.ref _ from rx)
    obtain ⟨its, r, ⟨⟨cl, dd, dt, sl⟩, e1, e2, k, e3⟩, _⟩ := I.tuple (SqT.of e)
    simp only at e2 e3
    subst e2 e3
    exact rc_behind ⟨_, e1, rfl⟩ I.kIn J h F.slot_tuple_eq (fun _ q => dec_tup e1 J.at_ rfl (PySem.W.looks_subIn I.kIn h) q) hc.hs hc.hf sb.room.units0 (go rfl)
  | lst h e =>
    cases (show u = Value.ref _ from rx)
    obtain ⟨z, its, k, r, e1⟩ := I.hok _ _ e
    exact rc_behind ⟨_, e1, rfl⟩ I.kIn J h F.slot_list_eq (fun _ q => dec_lst e1 J.at_ rfl (PySem.W.looks_subIn I.kIn h) q) hc.hs hc.hf sb.room.units0 (go rfl)
end
section
variable {X : Cx} {n m : Nat} {D D' : EqvB}
theorem RcB.or (h : RcB X n D) (h' : RcB X n D') : RcB X n (fun x y b H => D x y b H ∨ D' x y b H) := fun B pins s σ H x y b u v sb I rx ry d =>
  d.elim (h B pins s σ H x y b u v sb I rx ry) (h' B pins s σ H x y b u v sb I rx ry)
theorem EqB.or (h : EqB X n D) (h' : EqB X n D') : EqB X n (fun x y b H => D x y b H ∨ D' x y b H) := fun B pins s σ H x y b u v sb I rx ry d =>
  d.elim (h B pins s σ H x y b u v sb I rx ry) (h' B pins s σ H x y b u v sb I rx ry)
theorem RcB.mono (h : RcB X n D) (k : n ≤ m) : RcB X m D := fun B pins s σ H x y b u v sb => h B pins s σ H x y b u v (sb.mono k)
/-- inside a list or a tuple: the same object is itself -/
theorem RcB.eqB (h : RcB X n D) (hr : ∀ x y b H, D x y b H → (∃ c, x = .ref c ∧ ∃ a, y = .ref a ∧ (c = a → b = true)) ∨ ((x = .non ∨ ∃ i, x = .int i) ∧ ∃ a, y = .ref a)) : EqB X n D := by
  intro B pins s σ H x y b u v sb I rx ry d
  have go : u ≠ v → (∀ p q, ¬ (u = .float p q)) → wpAny (model X.prog X.w) B (eqBool u v) (fun r s' => r = b ∧ LoopI X pins σ H s') X.xe s := by
    intro ne nf
    unfold eqBool
    refine wpAny_holding ?_
    refine wpAny_ite_split (fun e => absurd (eq_of_beq e) ne) (fun _ => ?_)
    have k := h B pins s σ H x y b u v sb I rx ry d
    have k2 : wpAny (model X.prog X.w) B (do truthOfDropped (← richCompare .Eq u v)) (fun r s' => r = b ∧ LoopI X pins σ H s') X.xe s := by
      refine wpAny_bind (wpAny_mono k (fun z s' q => ?_) fun _ _ e => e)
      obtain ⟨rfl, q⟩ := q
      exact wpAny_truthy_bool ⟨rfl, q⟩
    cases u with
    | float p q => exact absurd rfl (nf p q)
    | _ => exact k2
  rcases hr x y b H d with ⟨c, rfl, a, rfl, q⟩ | ⟨hx, a, rfl⟩
  · cases (show u = Value.ref c from rx)
    cases (show v = Value.ref a from ry)
    by_cases e : c = a
    · have eb := q e
      subst e
      subst eb
      exact SeqAt.EqAt.same (A := B) (s := s) (.ref c) X.prog X.w X.xe _ ⟨rfl, H, I, Ext.rfl'⟩
    · exact go (fun z => e (Value.ref.inj z)) (fun _ _ z => nomatch z)
  · cases (show v = Value.ref a from ry)
    rcases hx with rfl | ⟨i, rfl⟩
    · cases (show u = Value.none from rx)
      exact go (fun z => nomatch z) (fun _ _ z => nomatch z)
    · obtain ⟨t, e⟩ := (show ∃ t, u = Value.int i t from rx)
      cases e
      exact go (fun z => nomatch z) (fun _ _ z => nomatch z)
/-- x == y -/
def rEqB (D : EqvB) : R2 := fun x y H Q => ∃ b, D x y b H ∧ ∀ H', Ext H H' → Q (.bl b) H'
theorem op_eqB (h : RcB X n D) (hr : Room n X.A) : OpR X (compareOp .Eq) (rEqB D) := by
  intro pins s σ H x y v u Q I rx ry hq
  obtain ⟨b, d, q⟩ := hq
  show wpAny (model X.prog X.w) X.A (richCompare .Eq v u) (EP X pins σ Q) X.xe s
  refine wpAny_mono (h X.A pins s σ H x y b v u ⟨hr, rfl⟩ I rx ry d) (fun r s1 z => ?_) fun _ _ e => e
  obtain ⟨rfl, H1, I1, e⟩ := z
  exact ⟨.bl b, H1, I1, rfl, q H1 e⟩
/-- x in a list none of whose items is equal to it -/
def rOutB (D : EqvB) : R2 := fun x y H Q => ∃ l ys, y = .ref l ∧ (∀ H', Ext H H' → H' l = some (.lst ys)) ∧ (∀ z, z ∈ ys → ∀ H', Ext H H' → D z x false H') ∧ ∀ H', Ext H H' → Q (.bl false) H'
theorem has_none (h : EqB X n D) {B : Around} (sb : Sub X (n + 1) B) {pins : List (Addr × Obj)} {σ : L2.St} {H : Hp} {x : V} {v : Value} {l : Addr} {ys : List V} (rx : RelV x v) (hl : ∀ H', Ext H H' → H' l = some (.lst ys)) (hd : ∀ z, z ∈ ys → ∀ H', Ext H H' → D z x false H')
    {Q : Value → Shared → Prop} (fin : ∀ s', LoopI X pins σ H s' → Q (.bool false) s') (k : Nat) : ∀ i : Nat, ys.length - i = k → ∀ s, LoopI X pins σ H s →
      wpAny (model X.prog X.w) B.in1 (Builtin.«list.__contains__.loop» ⟨[.ref l, v, rawInt i], []⟩) (GQ.FinOf X.prog X.w B (wants Q X.xe)) (fun e s' => wants Q X.xe (.error e) s') s := by
  induction k with
  | zero =>
    intro i hi s hs
    obtain ⟨H1, I1, e1⟩ := id hs
    obtain ⟨z, its, kk, r, eo⟩ := I1.hok _ _ (hl H1 e1)
    have out := fin s hs
    have no : its.toArray[((i : Nat) : Int).toNat]? = none := by
      have q := r.length
      simp
      omega
    obtain ⟨hp, g, d, tk, os⟩ := s
    wp_walk using PySem.AutoSeq1.wpAny_loadPart' eo
    rw [no]
    wp_walk
    exact out
  | succ k ih =>
    intro i hi s hs
    obtain ⟨H1, I1, e1⟩ := id hs
    obtain ⟨z, its, kk, r, eo⟩ := I1.hok _ _ (hl H1 e1)
    have lt : i < ys.length := by omega
    have lt2 : i < its.length := by rw [← r.length] <;> exact lt
    have so : its.toArray[((i : Nat) : Int).toNat]? = some its[i] := by simp [lt2]
    obtain ⟨u, hu, ru⟩ := r.get (List.getElem?_eq_getElem lt)
    have eu : its[i] = u := by
      rw [List.getElem?_eq_getElem lt2] at hu
      exact Option.some.inj hu
    have turn := h B.in1 pins s σ H1 _ x false u v sb.in1 I1 ru rx (hd _ (List.getElem_mem lt) H1 e1)
    obtain ⟨hp, g, d, tk, os⟩ := s
    wp_walk using PySem.AutoSeq1.wpAny_loadPart' eo
    rw [so, eu]
    refine wpAny_bind (wpAny_mono turn (fun rr s2 q => ?_) fun _ _ e => e)
    obtain ⟨rfl, H2, I2, e2⟩ := q
    have next := ih (i + 1) (by omega) s2 ⟨H2, I2, e1.trans e2⟩
    have up : ((i : Int) + 1) = ((i + 1 : Nat) : Int) := by omega
    obtain ⟨hp2, g2, d2, tk2, os2⟩ := s2
    wp_walk
    rw [up]
    exact ⟨plainId_quiet MeetsSeq.plain_contains_loop _, codeAny_builtin MeetsSeq.entry_contains_loop (by
      rw [Around.under_plainId MeetsSeq.plain_contains_loop _]
      exact next)⟩
theorem op_outB (h : EqB X n D) (hr : Room (n + 1) X.A) : OpR X (compareOp .In) (rOutB D) := by
  intro pins s σ H x y v u Q I rx ry hq
  obtain ⟨l, ys, rfl, hl, hd, q⟩ := hq
  cases (show u = Value.ref l from ry)
  obtain ⟨z, its, kk, r, eo⟩ := I.hok _ _ (hl H Ext.rfl')
  show wpAny (model X.prog X.w) X.A (do return .bool (← contains (.ref l) v)) (EP X pins σ Q) X.xe s
  have end_ : ∀ s', LoopI X pins σ H s' → EP X pins σ Q (.bool false) s' := fun s' ⟨H1, I1, e1⟩ => ⟨.bl false, H1, I1, rfl, q H1 e1⟩
  have run := has_none (B := X.A) h ⟨hr, rfl⟩ rx hl hd (Q := fun r s' => r = .bool false ∧ LoopI X pins σ H s') (fun s' z => ⟨rfl, z⟩) _ 0 rfl s ⟨H, I, Ext.rfl'⟩
  refine wpAny_bind (wpAny_contains_slot (id := "list.__contains__") ⟨_, eo, rfl⟩ F.slot_list_contains (wpAny_mono (GQ.call_here (Q := fun r s' => r = .bool false ∧ LoopI X pins σ H s') F.slot_list_contains ⟨_, eo, rfl⟩ F.entry_list_contains (F.args_list_contains_2 _ _) ?_) (fun r s' z => ?_) fun _ _ e => e))
  · obtain ⟨hp, g, d, tk, os⟩ := s
    wp_walk
    exact ⟨plainId_quiet MeetsSeq.plain_contains_loop _, codeAny_builtin MeetsSeq.entry_contains_loop (by
      rw [Around.under_plainId MeetsSeq.plain_contains_loop _]
      exact run)⟩
  · obtain ⟨rfl, z⟩ := z
    exact wpAny_truthy_bool (wpAny_pure (end_ s' z))
end
end KpR

namespace KpR
open PySem PySem.Spec PyProof.Rows L2
/-- a callee of which nothing comes -/
theorem passF {X : Cx} : Passes (L2.CX X.prog X.w) X (fun _ _ _ => False) := fun _ _ _ _ _ _ _ ⟨_, _, _, _, _, _, _, _, _, _, _, _, z⟩ => z.elim
/-- what a callee in a try's body may raise: whatever the locals are -/
def anyL (n : Nat) (W : WX) : XK := fun cls d H => ∀ σ : L2.St, σ.length = n → W cls d σ H
theorem passL {X : Cx} {W : WX} {n : Nat} (tk : Takes X W) (hn : X.N.length = n) : Passes (L2.CX X.prog X.w) X (anyL n W) := fun _ σ _ _ e s' I c => tk e s' (XE.of_call I (fun _ _ _ h => h σ (by rw [← hn] <;> exact I.len)) c)
/-- a call by keywords of a def without defaults -/
theorem kbOf {K : PySem.W.Frag} {fd : FuncData} {ps ks : List Str} {n : Nat} {g : List Value → List Value → List Value} {gV : List V → List V → List V}
    (h : ∀ us ws : List Value, us.length = n → ws.length = ks.length → bindArgs fd ⟨us, ks.zip ws⟩ = pure (ps.zip (g us ws))) (r : ∀ {vs : List V} {us : List Value} {zs : List V} {ws : List Value}, Vals vs us → Vals zs ws → Vals (gV vs zs) (g us ws)) : KBn K fd ps n ks g gV :=
  ⟨fun s us ws _ l1 l2 => .of_eq (h us ws l1 l2), r⟩
/-- a builtin's type against an own class -/
theorem kit_tc {K : PySem.W.Frag} {T : String} {C : Addr} {b : Bool} (h1 : PySem.W.isClsIn K C = true) (h2 : PySem.W.typeIn K (.ref C) = some (.type "type")) (h3 : PySem.W.subIn K (.type T) (.ref C) = some b) : PySem.W.kitOne K (.type T) (.ref C) = some b := by
  have ne : ¬ (Value.type T == Value.ref C) = true := fun z => nomatch eq_of_beq z
  unfold PySem.W.kitOne
  rw [if_neg ne]
  show (if ((PySem.W.clsIn K C).isSome && PySem.W.typeIn K (.ref C) == some (.type "type")) = true then PySem.W.subIn K (.type T) (.ref C) else none) = some b
  rw [show (PySem.W.clsIn K C).isSome = true from h1, h2, if_pos (by rfl)]
  exact h3
/-- the first clause takes it -/
def wFst (K : PySem.W.Frag) (c : Value) (i : Nat) (tz : Addr → Value → Option Addr → TS) (D : Ends) : WX := fun cls d σ H =>
  PySem.W.exmOne K cls c = some true ∧ ∀ a, H a = none → tz a cls d ⟨fun τ G => D.nx (τ.set i none) G, D.rt, fun τ G => D.bk (τ.set i none) G, fun τ G => D.ct (τ.set i none) G⟩ (σ.set i (some (.ref a))) H
section
variable {X : Cx} {x n : Str} {c : Value} {i : Nat} {body rest : List Stmt} {z₀ : Stmt} {more : List ExceptHandler} {pn pt pw : Pos} {tb : WX → TS} {tz : Addr → Value → Option Addr → TS}
theorem ps_try_fst (st : X.stack = X.env :: X.outer) (fr : X.env.frame = some X.env.locals) (nd : X.N.Nodup) (at_ : X.N[i]? = some n) (lo : X.env.kindOf n = some .local) (nm : Names X x c)
    (bd : ∀ (W : WX) (qn : List (Addr × Obj)) (xe : Value → Shared → Prop), Takes (X.tr qn xe) W → PassesOwn (model X.prog X.w) X.A X.env xe → PSs (X.tr qn xe) body (tb W))
    (su : ∀ (e : Addr) (oe : Obj) (cls : Value) (d : Option Addr) (qn : List (Addr × Obj)), Zc cls d oe → (∃ fs, oe.data = .fields fs) → PSs (X.suite e ((e, oe) :: qn)) (z₀ :: rest) (tz e cls d)) :
    PS X (.Try body (.ExceptHandler (some (.Name x pn)) (some n) (z₀ :: rest) pw :: more) [] [] pt) (fun D σ H => tb (wFst X.K c i tz D) D σ H) := by
  refine ⟨fun pins s σ H D I hyp => ?_⟩
  have okX := I.ok
  have afr : X.A.frames = some (X.env :: X.outer) := by rw [okX.frames, st]
  have lcl : Loc X.env.scope n := .inl lo
  let hs := ExceptHandler.ExceptHandler (some (.Name x pn)) (some n) (z₀ :: rest) pw :: more
  refine wpAny_Try_except ?_
  refine wpAny_mono ((bd (wFst X.K c i tz D) (X.pn ++ pins) (fun e t1 => wpAny (model X.prog X.w) X.A (noteFrame e X.env) (fun _ t2 => wpAny (model X.prog X.w) X.A (setFlight e none) (fun _ t3 =>
    wpAny (model X.prog X.w) X.A (handleBy e X.env hs) (SP X pins D) X.xe t3) X.xe t2) X.xe t1) (fun u t air => ?_) PassesOwn.looking).run [] s σ H D (I.toTry _) hyp) (fun f t done => ?_) (fun _ _ air => air)
  · obtain ⟨e, G, sI, pq, τ, H1, cls, d, rfl, J0, near, upS, sky0, free, osE, bare, hit, go⟩ := air
    have J : Inv X pins τ H1 sI := J0.ofTry okX
    have sky : Sky G (X.env :: X.outer) e (Zc cls d) X.env.locals t.heap := by rw [← st] <;> exact sky0
    show wpAny (model X.prog X.w) X.A (noteFrame (.ref e) X.env) _ _ _
    refine Sky.land Zc.steady afr fr sky fun hp1 fly1 up1 => ?_
    have J1 : Inv X pins τ H1 { t with heap := hp1 } := J.landed near fly1.1 (upS.trans up1) osE bare
    obtain ⟨o1, fs1, at1, z1, dat1⟩ := fly1.there
    have off : e ∉ frs (X.env :: X.outer) := fun mem => by
      obtain ⟨_, o2, at2, no2⟩ := fly1.2.2.1.mem mem
      have q : o1 = o2 := Option.some.inj (at1.symm.trans at2)
      subst q
      exact no2 _ dat1
    have offL : e ≠ X.env.locals := fun q => off (List.mem_filterMap.mpr ⟨X.env, List.mem_cons_self, by rw [fr, q]⟩)
    have offF : e ∉ X.fs := fun mem => by
      obtain ⟨y, hy, q⟩ := List.mem_filterMap.mp mem
      exact off (List.mem_filterMap.mpr ⟨y, List.mem_cons_of_mem _ hy, q⟩)
    have S1 := J1.suite at1 dat1 free offL offF
    refine wpAny_handleBy_cons (codeAny_handlers_test ?_) (fun q => nomatch q)
    have ty : PySem.W.Looks (model X.prog X.w) hp1 (typeOf (.ref e)) cls := fun A Q E s k q => wpAny_typeOf_ref (k _ _ at1) (by rw [z1.1] <;> exact q)
    have mt := PySem.W.exm_one (M := model X.prog X.w) (J1.kIn) ty hit
    have look : ∀ {Q : Value → Shared → Prop} {E : Value → Shared → Prop}, Q c { t with heap := hp1 } → wpAny (model X.prog X.w) (X.A.mark (some (.ref e))) (eval (.Name x pn) X.env) Q E { t with heap := hp1 } := fun {Q E} q => by
      obtain ⟨gl, nd2, own | ⟨none_, boot, nn⟩⟩ := nm
      · exact ld_glob (X := X.suite e ((e, o1) :: (X.pn ++ pins))) S1 gl own q nd2
      · exact ld_blt (X := X.suite e ((e, o1) :: (X.pn ++ pins))) S1 gl none_ boot q nn nd2
    refine look (mt.here ?_)
    refine codeAny_handlers_suite_as ?_
    refine HandSPX.lands_againZ fly1 fun hp2 fly2 up2 => ?_
    have J2 : Inv X pins τ H1 { t with heap := hp2 } := J.landed near fly2.1 ((upS.trans up1).trans up2) osE bare
    obtain ⟨o2, fs2, at2, z2, dat2⟩ := fly2.there
    have S2 := J2.suite at2 dat2 free offL offF
    refine store_ok (X := X.suite e ((e, o2) :: (X.pn ++ pins))) (v := .ref e) S2 nd at_ lcl rfl (fun t2 S3 => ?_) (.inr lo)
    refine wpAny_mono ((su e o2 cls d (X.pn ++ pins) z2 ⟨_, dat2⟩).run [] t2 _ H1 _ S3 (go e free)) (fun f t3 out => ?_) (fun _ _ q => False.elim q)
    have fin : ∀ {τ1 : L2.St} {H2 : Hp} {R : Shared → Prop}, Inv (X.suite e ((e, o2) :: (X.pn ++ pins))) [] τ1 H2 t3 → (∀ t4, Inv X pins (τ1.set i none) H2 t4 → R t4) →
        wpAny (model X.prog X.w) X.A (do bindName X.env n .none; unbindBehindTheSuite X.env n pw) (fun _ t4 => R t4) X.xe t3 := fun {τ1 H2 R} S4 q => gone_ok (S4.unsuite okX) nd at_ lo q
    match f, out with
    | .next, ⟨_, _, S4, q⟩ => exact fin S4 fun _ J4 => ⟨_, _, J4, q⟩
    | .brk, ⟨_, _, S4, q⟩ => exact fin S4 fun _ J4 => ⟨_, _, J4, q⟩
    | .cont, ⟨_, _, S4, q⟩ => exact fin S4 fun _ J4 => ⟨_, _, J4, q⟩
    | .ret u, ⟨_, _, _, S4, ru, q⟩ => exact fin S4 fun _ J4 => ⟨_, _, _, J4, ru, q⟩
  · match f, done with
    | .next, ⟨_, _, J4, q⟩ => exact wpAny_execs_nil ⟨_, _, J4.ofTry okX, q⟩
    | .brk, ⟨_, _, J4, q⟩ => exact ⟨_, _, J4.ofTry okX, q⟩
    | .cont, ⟨_, _, J4, q⟩ => exact ⟨_, _, J4.ofTry okX, q⟩
    | .ret u, ⟨_, _, _, J4, ru, q⟩ => exact ⟨_, _, _, J4.ofTry okX, ru, q⟩
end
/-- what the written part says of a class with an own == and the != of object, anywhere below object -/
structure NeK (K : PySem.W.Frag) (C f : Addr) : Prop where
  hn : PySem.W.findIn K (.ref C) "__ne__" = some (some (.builtin "object.__ne__"))
  hm : PySem.W.mroIn K C (.type "object") = some true
  hs : PySem.W.findIn K (.ref C) "__eq__" = some (some (.ref f))
  hf : PySem.W.isFn K (.ref f) = true
section
variable {prog : Program} {w : World} {A : Around} {E : Value → Shared → Prop} {s : Shared} {K : PySem.W.Frag} {x y C f : Addr} {ox oy : Obj} {od : Option Obj}
theorem objNe_own {Q : Fin → Shared → Prop} (X : K.In s.heap) (I : PySem.W.InstAt s.heap x ox C od) (c : NeK K C f) (hu : A.units < cLine)
    (h : wpAny (model prog w) A (call (.ref f) [.ref x, .ref y]) (fun v s1 => ∃ b, v = .bool b ∧ Q (.done (.ret (.bool (!b)))) s1) E s) : wpAny (model prog w) A (Builtin.«object.__ne__» ⟨[.ref x, .ref y], []⟩) Q E s := by
  have one : wpAny (model prog w) A (callSpecialIfBound? (.ref x) "__eq__" [.ref y]) (fun r s1 => ∃ b, r = some (.bool b) ∧ Q (.done (.ret (.bool (!b)))) s1) E s :=
    PySem.W.ifBound_K X I c.hs c.hf (wpAny_mono h (fun v s1 ⟨b, e, q⟩ => ⟨b, congrArg some e, q⟩) fun _ _ e => e)
  obtain ⟨hp, g, d, tk, os⟩ := s
  unfold Builtin.«object.__ne__»
  repeat (first
    | with_reducible refine wpAny_cRoomFor hu ?_
    | (refine wpAny_bind (m := callSpecialIfBound? (.ref x) (Str.ofString "__eq__") [.ref y]) (wpAny_mono one (fun r s1 hr => by
          obtain ⟨b, rfl, hq⟩ := hr
          repeat (first | exact hq | exact wpAny_pure hq | exact wpAny_truthy_bool hq | (refine wpAny_bind (m := truthy (.bool _)) (wpAny_truthy_bool ?_)) | wp_step)) fun _ _ e => e))
    | wp_step)
theorem call_objNe {Q : Value → Shared → Prop} (X : K.In s.heap) (I : PySem.W.InstAt s.heap x ox C od) (c : NeK K C f) (hu : A.in1.units < cLine)
    (h : wpAny (model prog w) A.in1 (call (.ref f) [.ref x, .ref y]) (fun v s1 => ∃ b, v = .bool b ∧ Q (.bool (!b)) s1) E s) : wpAny (model prog w) A (call (.builtin "object.__ne__") [.ref x, .ref y]) Q E s :=
  wpAny_call (codeAny_call_builtin F.cmp_object.ne.plain F.cmpEntry_ne (PySem.W.check_slot F.cmpKind_ne F.cmpSplit_ne (I.type.andThen (PySem.W.looks_mroIn X c.hm)) (F.cmpArgs_ne _ _) (objNe_own X I c hu h)))
theorem rc_neK {Q : Value → Shared → Prop} (X : K.In s.heap) (I : PySem.W.InstAt s.heap x ox C od) (c : NeK K C f) (hy : s.heap.get? y = some oy) (cy : oy.cls = .ref C) (hu : A.units + 1 < cLine)
    (h : wpAny (model prog w) A.in1 (call (.ref f) [.ref x, .ref y]) (fun v s1 => ∃ b, v = .bool b ∧ Q (.bool (!b)) s1) E s) : wpAny (model prog w) A (richCompare .NotEq (.ref x) (.ref y)) Q E s := by
  have hu0 : A.units < cLine := Nat.lt_of_succ_lt hu
  have run : wpAny (model prog w) A (callSpecialIfBound? (.ref x) "__ne__" [.ref y]) (fun r s1 => ∃ b, r = some (.bool b) ∧ Q (.bool b) s1) E s := by
    simp only [callSpecialIfBound?, bindSpecialIfBound?]
    refine wpAny_holding (wpAny_bind (wpAny_bind (wpAny_bind (I.type.here ((PySem.W.looks_findIn X c.hn).here ?_)))))
    refine wpAny_bind (wpAny_askSetting (wpAny_ite ?_))
    have fin : wpAny (model prog w) A (call (.builtin "object.__ne__") ([.ref x] ++ [.ref y]) >>= fun v => pure (some v)) (fun r s1 => ∃ b, r = some (.bool b) ∧ Q (.bool b) s1) E s :=
      wpAny_bind (wpAny_mono (call_objNe (Q := fun v s1 => ∃ b, v = .bool b ∧ Q (.bool b) s1) X I c hu (wpAny_mono h (fun v s1 ⟨b, e, q⟩ => ⟨b, e, _, rfl, q⟩) fun _ _ e => e)) (fun v s1 ⟨b, e, q⟩ => wpAny_pure ⟨b, congrArg some e, q⟩) fun _ _ e => e)
    split
    · exact wpAny_bind (wpAny_of_eq (F.cmp_object.ne.bind _) (wpAny_pure (by exact fin)))
    · exact wpAny_tryCatch (wpAny_bind (wpAny_of_eq (F.cmp_object.ne.bind _) (wpAny_pure (by exact fin))))
  have one : wpAny (model prog w) A (tryCompare (.ref x) "__ne__" (.ref y)) (fun r s1 => ∃ b, r = some (.bool b) ∧ Q (.bool b) s1) E s := by
    unfold tryCompare
    refine wpAny_bind (wpAny_mono run (fun r s1 z => ?_) fun _ _ e => e)
    obtain ⟨b, rfl, q⟩ := z
    exact wpAny_pure ⟨b, rfl, q⟩
  unfold richCompare
  simp only [oneThing_ref]
  refine wpAny_holding (wpAny_bind (wpAny_cRoomFor hu0 ?_))
  rw [cmpInfo_NotEq]
  dsimp only
  refine wpAny_bind (I.type.here (wpAny_bind (wpAny_typeOf_ref hy ?_)))
  rw [cy, show (Value.ref C != Value.ref C) = false from by simp]
  simp only [Bool.false_eq_true, if_false]
  refine wpAny_bind (wpAny_pure ?_)
  simp only [Bool.false_eq_true, if_false]
  refine wpAny_bind (wpAny_mono one (fun r s1 z => ?_) fun _ _ e => e)
  obtain ⟨b, rfl, q⟩ := z
  exact wpAny_pure q
end
section
variable {X : Cx} {CX : CXT} {n : Nat} {C f : Addr} {fd : FuncData} {ps : List Str} {R : Addr → V → Bool → Hp → Prop} {E : XK}
/-- x != y of two instances of one such class -/
def rNeK (C : Addr) (R : Addr → V → Bool → Hp → Prop) : R2 := fun x y H Q => ∃ a c b dx dy fs gs, x = .ref a ∧ y = .ref c ∧ H a = some (.ins C dx fs) ∧ H c = some (.ins C dy gs) ∧ R a (.ref c) b H ∧ ∀ H', Ext H H' → Q (.bl (!b)) H'
theorem op_neK (G : FnOk X.prog X.w X.K X.mg X.base CX n f fd ps (spEqB R)) (hc : NeK X.K C f) (hb : Binds X.K fd ps []) (hx : Passes CX X E) (hr : Room (n + 1) X.A) : OpR X (compareOp .NotEq) (rNeK C R) := by
  intro pins s σ H x y v u Q I rx ry hq
  obtain ⟨a, c, b, dx, dy, fs, gs, rfl, rfl, ha, hc1, hR, q⟩ := hq
  cases rx
  cases ry
  obtain ⟨mA, J, _⟩ := ins_get I.hok ha
  obtain ⟨mC, J1, _⟩ := ins_get I.hok hc1
  obtain ⟨od, J, _⟩ := J.look
  obtain ⟨od1, J1, _⟩ := J1.look
  have r1 : Room n X.A.in1 := hr.in1
  have go := own_runB (B := X.A.in1) (y := .ref c) (v := .ref c) G hb hx ⟨r1, rfl⟩ I rfl hR
  show wpAny (model X.prog X.w) X.A (richCompare .NotEq (.ref a) (.ref c)) (EP X pins σ Q) X.xe s
  refine rc_neK I.kIn J hc J1.at_ J1.cls (hu_of hr) (wpAny_mono go (fun r s1 z => ?_) fun _ _ e => e)
  cases r with
  | notImplemented => exact False.elim z
  | bool b' =>
    obtain ⟨e, H1, I1, ex⟩ := z
    cases e
    exact ⟨_, rfl, .bl _, H1, I1, rfl, q H1 ex⟩
  | _ => exact (nomatch z.1)
end
end KpR

namespace KpR
open PySem PySem.Spec PyProof.Rows L2
open PySem.AutoSeq1 (wpAny_loadPart')
section
variable {prog : Program} {w : World} {A : Around} {R : Result → Shared → Prop}
/-- up to the first pair that is unlike -/
theorem tup_either (l b : Addr) (us vs : Array Value) (n n2 : Nat) (dd dd2 : Option Addr) (sl sl2 : Array (Option Value)) (ans : Nat → Bool) (J : Shared → Prop)
    (turn : ∀ i (h1 : i < us.size) (h2 : i < vs.size) s, J s → wpAny (model prog w) A.in1 (eqBool us[i] vs[i]) (fun r s' => r = ans i ∧ J s') (fun e s' => R (.error e) s') s)
    (no : ∀ i, i < us.size → i < vs.size → ans i = false → ∀ s, J s → R (.ok (.ret (.bool false))) s)
    (fin : (∀ i, i < us.size → i < vs.size → ans i = true) → ∀ s, J s → R (.ok (.ret (.bool (us.size == vs.size)))) s) {s : Shared}
    (hl : s.heap.get? l = some { cls := .type "tuple", dict := dd, data := .seq us n, slots := sl }) (hb : s.heap.get? b = some { cls := .type "tuple", dict := dd2, data := .seq vs n2, slots := sl2 }) (h : J s) :
    wpAny (model prog w) A.in1 (Builtin.«tuple.__eq__» ⟨[.ref l, .ref b], []⟩) (GQ.FinOf prog w A R) (fun e s' => R (.error e) s') s := by
  have f2 := AutoSeq1.sub_tuple_tuple
  have zl : (us.toList.zip vs.toList).length = min us.size vs.size := by simp
  have h0 := h
  obtain ⟨hp, g, d, tk, os⟩ := s
  wp_walk using wpAny_loadPart' hl, wpAny_loadPart' hb, wpAny_forIn_list _ (fun rest q s' => q.1 = none ∧ J s' ∧ ∃ i, rest = (us.toList.zip vs.toList).drop i ∧ i ≤ min us.size vs.size ∧ ∀ j, j < i → ans j = true) _
  case turn =>
    rintro ⟨y, x⟩ rest q s' ⟨hq, hJ, i, hz, hi, before⟩
    have lt : i < (us.toList.zip vs.toList).length := by
      rcases Nat.lt_or_ge i (us.toList.zip vs.toList).length with c | c
      · exact c
      · rw [List.drop_of_length_le c] at hz
        cases hz
    have lm := Nat.lt_min.mp (zl ▸ lt)
    rw [List.drop_eq_getElem_cons lt] at hz
    injection hz with hp1 hrest
    have ey : y = us[i]'lm.1 := by simpa using congrArg Prod.fst hp1
    have ex : x = vs[i]'lm.2 := by simpa using congrArg Prod.snd hp1
    subst ey ex
    refine wpAny_bind (wpAny_mono (turn i lm.1 lm.2 s' hJ) (fun r s2 z => ?_) fun _ _ e => e)
    obtain ⟨rfl, J2⟩ := z
    cases c : ans i with
    | true =>
      wp_walk
      refine ⟨rfl, J2, i + 1, hrest, Nat.lt_min.mpr lm, fun j hj => ?_⟩
      by_cases e : j = i
      · rw [e]
        exact c
      · exact before j (by omega)
    | false =>
      have out := no i lm.1 lm.2 c s2 J2
      wp_walk
      exact out
  case fin =>
    rintro ⟨q1, q2⟩ s' ⟨hq, hJ, i, hz, hi, before⟩
    simp only at hq
    subst hq
    have ge : min us.size vs.size ≤ i := by
      rcases Nat.lt_or_ge i (us.toList.zip vs.toList).length with c | c
      · rw [List.drop_eq_getElem_cons c] at hz
        cases hz
      · exact zl ▸ c
    have out := fin (fun j h1 h2 => before j (Nat.lt_of_lt_of_le (Nat.lt_min.mpr ⟨h1, h2⟩) ge)) s' hJ
    wp_walk
    simpa [Builtin.Tuple.tupleCompareSizes] using out
  case h =>
    exact ⟨rfl, h0, 0, rfl, Nat.zero_le _, fun j hj => absurd hj (Nat.not_lt_zero _)⟩
end
/-- pair by pair; the answer is that of all of them, and of the lengths -/
def DTupB (K : PySem.W.Frag) (D : EqvB) : EqvB := fun x y b H => ∃ a c xs ys, ∃ an : Nat → Bool, x = .ref a ∧ y = .ref c ∧ SqT K H a xs ∧ SqT K H c ys ∧
  (∀ i u v, xs[i]? = some u → ys[i]? = some v → ∀ H', Ext H H' → D u v (an i) H') ∧ (b = true ↔ xs.length = ys.length ∧ ∀ i, i < xs.length → an i = true)
section
variable {X : Cx} {n : Nat} {D : EqvB}
theorem rcB_tup (h : EqB X n D) : RcB X (n + 1) (DTupB X.K D) := by
  intro B pins s σ H x y b u v sb I rx ry hd
  obtain ⟨a, c, xs, ys, an, rfl, rfl, ha, hc, hp, hb⟩ := hd
  cases rx
  cases ry
  obtain ⟨us, r1, ⟨⟨cl, dd, dt, sl⟩, e1, e2, k, e3⟩, _⟩ := I.tuple ha
  obtain ⟨vs, r2, ⟨⟨cl2, dd2, dt2, sl2⟩, g1, g2, k2, g3⟩, _⟩ := I.tuple hc
  simp only at e2 e3 g2 g3
  subst e2 e3 g2 g3
  have l1 : us.toArray.size = xs.length := by rw [List.size_toArray, r1.length]
  have l2 : vs.toArray.size = ys.length := by rw [List.size_toArray, r2.length]
  refine wpAny_richCompare_same_room (op := .Eq) ⟨_, e1, rfl⟩ ⟨_, g1, rfl⟩ F.slot_tuple_eq (GQ.call_here F.slot_tuple_eq ⟨_, e1, rfl⟩ F.entry_tuple_eq (F.args_tuple_eq_2 _ _) ?_) sb.room.units0
  refine tup_either (R := wants (fun r s' => r ≠ .notImplemented ∧ (r = .bool b ∧ LoopI X pins σ H s')) X.xe) a c us.toArray vs.toArray k k2 dd dd2 sl sl2 an (LoopI X pins σ H) (fun i h1 h2 s1 hJ => ?_) (fun i h1 h2 no s1 hJ => ?_) (fun all s1 hJ => ?_) e1 g1 ⟨H, I, Ext.rfl'⟩
  · obtain ⟨H1, I1, x1⟩ := hJ
    have i1 : i < xs.length := by omega
    have i2 : i < ys.length := by omega
    obtain ⟨p, hp1, rp⟩ := r1.get (List.getElem?_eq_getElem i1)
    obtain ⟨q, hq1, rq⟩ := r2.get (List.getElem?_eq_getElem i2)
    have ep : us.toArray[i] = p := by
      obtain ⟨_, z⟩ := List.getElem?_eq_some_iff.mp hp1
      simpa using z
    have eq : vs.toArray[i] = q := by
      obtain ⟨_, z⟩ := List.getElem?_eq_some_iff.mp hq1
      simpa using z
    rw [ep, eq]
    refine wpAny_mono (h B.in1 pins s1 σ H1 _ _ (an i) p q sb.in1 I1 rp rq (hp i _ _ (List.getElem?_eq_getElem i1) (List.getElem?_eq_getElem i2) H1 x1)) (fun r s2 z => ?_) fun _ _ e => e
    obtain ⟨er, H2, I2, x2⟩ := z
    exact ⟨er, H2, I2, x1.trans x2⟩
  · have eb : b = false := by
      cases b with
      | false => rfl
      | true =>
        have z := (hb.mp rfl).2 i (by omega)
        rw [no] at z
        cases z
    subst eb
    exact ⟨(fun z => nomatch z), rfl, hJ⟩
  · have eb : (us.toArray.size == vs.toArray.size) = b := by
      rw [l1, l2]
      cases b with
      | true => exact beq_iff_eq.mpr (hb.mp rfl).1
      | false =>
        refine beq_eq_false_iff_ne.mpr fun e => ?_
        have z := hb.mpr ⟨e, fun i hi => all i (by omega) (by omega)⟩
        cases z
    rw [eb]
    exact ⟨(fun z => nomatch z), rfl, hJ⟩
end
end KpR

namespace KpR
open PySem PySem.Spec PyProof.Rows L2
open PySem.AutoSeq1 (wpAny_loadPart')
section
variable {prog : Program} {w : World} {A : Around} {R : Result → Shared → Prop}
theorem tup_ne_like (l b : Addr) (us vs : Array Value) (n n2 : Nat) (dd dd2 : Option Addr) (sl sl2 : Array (Option Value)) (sz : us.size = vs.size) (J : Shared → Prop)
    (turn : ∀ i (h1 : i < us.size) (h2 : i < vs.size) s, J s → wpAny (model prog w) A.in1 (eqBool us[i] vs[i]) (fun r s' => r = true ∧ J s') (fun e s' => R (.error e) s') s)
    (fin : ∀ s, J s → R (.ok (.ret (.bool false))) s) {s : Shared}
    (hl : s.heap.get? l = some { cls := .type "tuple", dict := dd, data := .seq us n, slots := sl }) (hb : s.heap.get? b = some { cls := .type "tuple", dict := dd2, data := .seq vs n2, slots := sl2 }) (h : J s) :
    wpAny (model prog w) A.in1 (Builtin.«tuple.__ne__» ⟨[.ref l, .ref b], []⟩) (GQ.FinOf prog w A R) (fun e s' => R (.error e) s') s := by
  have f2 := AutoSeq1.sub_tuple_tuple
  have zl : (us.toList.zip vs.toList).length = us.size := by simp [sz]
  have h0 := h
  obtain ⟨hp, g, d, tk, os⟩ := s
  wp_walk using wpAny_loadPart' hl, wpAny_loadPart' hb, wpAny_forIn_list _ (fun rest q s' => q.1 = none ∧ J s' ∧ ∃ i, rest = (us.toList.zip vs.toList).drop i ∧ i ≤ us.size) _
  case turn =>
    rintro ⟨y, x⟩ rest q s' ⟨hq, hJ, i, hz, hi⟩
    have lt : i < (us.toList.zip vs.toList).length := by
      rcases Nat.lt_or_ge i (us.toList.zip vs.toList).length with c | c
      · exact c
      · rw [List.drop_of_length_le c] at hz
        cases hz
    have l1 : i < us.size := zl ▸ lt
    have l2 : i < vs.size := sz ▸ l1
    rw [List.drop_eq_getElem_cons lt] at hz
    injection hz with hp1 hrest
    have ey : y = us[i] := by simpa using congrArg Prod.fst hp1
    have ex : x = vs[i] := by simpa using congrArg Prod.snd hp1
    subst ey ex
    refine wpAny_bind (wpAny_mono (turn i l1 l2 s' hJ) (fun r s2 z => ?_) fun _ _ e => e)
    obtain ⟨rfl, J2⟩ := z
    wp_walk
    exact ⟨rfl, J2, i + 1, hrest, l1⟩
  case fin =>
    rintro ⟨q1, q2⟩ s' ⟨hq, hJ, i, hz, hi⟩
    simp only at hq
    subst hq
    have out := fin s' hJ
    wp_walk
    simpa [Builtin.Tuple.tupleCompareSizes, sz] using out
  case h =>
    exact ⟨rfl, h0, 0, rfl, Nat.zero_le _⟩
end
section
variable {X : Cx} {n : Nat} {D : EqvB}
/-- x != y, two tuples that are equal pair by pair -/
def rNeTup (K : PySem.W.Frag) (D : EqvB) : R2 := fun x y H Q => ∃ (a c : Addr) (xs ys : List V), x = .ref a ∧ y = .ref c ∧ SqT K H a xs ∧ SqT K H c ys ∧ xs.length = ys.length ∧
  (∀ (i : Nat) (u v : V), xs[i]? = some u → ys[i]? = some v → ∀ H' : Hp, Ext H H' → D u v true H') ∧ ∀ H' : Hp, Ext H H' → Q (.bl false) H'
theorem op_neTup (h : EqB X n D) (hr : Room (n + 1) X.A) : OpR X (compareOp .NotEq) (rNeTup X.K D) := by
  intro pins s σ H x y u v Q I rx ry hd
  obtain ⟨a, c, xs, ys, rfl, rfl, ha, hc, hlen, hp, q⟩ := hd
  cases rx
  cases ry
  obtain ⟨us, r1, ⟨⟨cl, dd, dt, sl⟩, e1, e2, k, e3⟩, _⟩ := I.tuple ha
  obtain ⟨vs, r2, ⟨⟨cl2, dd2, dt2, sl2⟩, g1, g2, k2, g3⟩, _⟩ := I.tuple hc
  simp only at e2 e3 g2 g3
  subst e2 e3 g2 g3
  have l1 : us.toArray.size = xs.length := by rw [List.size_toArray, r1.length]
  have l2 : vs.toArray.size = ys.length := by rw [List.size_toArray, r2.length]
  have sb : Sub X (n + 1) X.A := ⟨hr, rfl⟩
  show wpAny (model X.prog X.w) X.A (richCompare .NotEq (.ref a) (.ref c)) (EP X pins σ Q) X.xe s
  refine wpAny_richCompare_same_room (op := .NotEq) ⟨_, e1, rfl⟩ ⟨_, g1, rfl⟩ F.slot_tuple_ne (GQ.call_here F.slot_tuple_ne ⟨_, e1, rfl⟩ F.entry_tuple_ne (F.args_tuple_ne_2 _ _) ?_) hr.units0
  refine tup_ne_like (R := wants (fun r s' => r ≠ .notImplemented ∧ EP X pins σ Q r s') X.xe) a c us.toArray vs.toArray k k2 dd dd2 sl sl2 (by omega) (LoopI X pins σ H) (fun i h1 h2 s1 hJ => ?_) (fun s1 hJ => ?_) e1 g1 ⟨H, I, Ext.rfl'⟩
  · obtain ⟨H1, I1, x1⟩ := hJ
    have i1 : i < xs.length := by omega
    have i2 : i < ys.length := by omega
    obtain ⟨p, hp1, rp⟩ := r1.get (List.getElem?_eq_getElem i1)
    obtain ⟨q1, hq1, rq⟩ := r2.get (List.getElem?_eq_getElem i2)
    have ep : us.toArray[i] = p := by
      obtain ⟨_, z⟩ := List.getElem?_eq_some_iff.mp hp1
      simpa using z
    have eq : vs.toArray[i] = q1 := by
      obtain ⟨_, z⟩ := List.getElem?_eq_some_iff.mp hq1
      simpa using z
    rw [ep, eq]
    refine wpAny_mono (h X.A.in1 pins s1 σ H1 _ _ true p q1 sb.in1 I1 rp rq (hp i _ _ (List.getElem?_eq_getElem i1) (List.getElem?_eq_getElem i2) H1 x1)) (fun r s2 z => ?_) fun _ _ e => e
    obtain ⟨er, H2, I2, x2⟩ := z
    exact ⟨er, H2, I2, x1.trans x2⟩
  · obtain ⟨H1, I1, x1⟩ := hJ
    exact ⟨(fun z => nomatch z), .bl false, H1, I1, rfl, q H1 x1⟩
end
end KpR

namespace KpR
open PySem PySem.Spec PyProof.Rows L2
section
variable {α : Type} {K : PySem.W.Frag} {H : Hp} {f : α → PyData}
theorem dp_map {R : V → α → Prop} (h : ∀ t x, R t x → Dp K H t (f x)) : ∀ {ts : List V} {l : List α}, A2 R ts l → DpAll K H ts (l.map f)
  | [], [], _ => .nil
  | _ :: _, _ :: _, k => .cons (h _ _ k.1) (dp_map h k.2)
  | [], _ :: _, k => k.elim
  | _ :: _, [], k => k.elim
theorem lay_map : ∀ {l : List α}, (∀ x ∈ l, (f x).canLay0 = true) → PyData.canLayAll0 (l.map f) = true
  | [], _ => by simp [PyData.canLayAll0]
  | x :: l, h => by
    simp only [List.map_cons, PyData.canLayAll0, h x (List.mem_cons_self ..), Bool.true_and]
    exact lay_map fun y hy => h y (List.mem_cons_of_mem _ hy)
theorem dep_map {n : Nat} : ∀ {l : List α}, (∀ x ∈ l, (f x).depth ≤ n) → PyData.depthAll (l.map f) ≤ n
  | [], _ => by simp [PyData.depthAll]
  | x :: l, h => by
    simp only [List.map_cons, PyData.depthAll]
    exact Nat.max_le.mpr ⟨h x (List.mem_cons_self ..), dep_map fun y hy => h y (List.mem_cons_of_mem _ hy)⟩
theorem eqv_map [DecidableEq α] (h : ∀ x y, (f x).eqv (f y) = decide (x = y)) : ∀ {l m : List α}, PyData.eqvAll (l.map f) (m.map f) = decide (l = m)
  | [], [] => by simp [PyData.eqvAll]
  | [], _ :: _ => by simp [PyData.eqvAll]
  | _ :: _, [] => by simp [PyData.eqvAll]
  | x :: l, y :: m => by
    simp only [List.map_cons, PyData.eqvAll, h, eqv_map h (l := l) (m := m)]
    by_cases h1 : x = y
    · by_cases h2 : l = m <;> simp [h1, h2]
    · simp [h1]
/-- what can be compared: of no great depth -/
structure Flat (n : Nat) (d : PyData) : Prop where
  lay : d.canLay0 = true
  dep : d.depth ≤ n
theorem Flat.sh {n : Nat} {d : PyData} (h : Flat n d) (hn : n ≤ 64) : SeqAt.shaped d = true := by
  unfold SeqAt.shaped
  rw [h.lay, decide_eq_true (Nat.le_trans h.dep hn)]
  rfl
theorem Flat.list {n : Nat} {l : List α} (h : ∀ x ∈ l, Flat n (f x)) : Flat (n + 1) (.list (l.map f)) :=
  ⟨by simp only [PyData.canLay0]; exact lay_map fun x hx => (h x hx).lay, by simp only [PyData.depth]; exact Nat.succ_le_succ (dep_map fun x hx => (h x hx).dep)⟩
theorem Flat.tup {n : Nat} {l : List α} (h : ∀ x ∈ l, Flat n (f x)) : Flat (n + 1) (.tuple (l.map f)) :=
  ⟨by simp only [PyData.canLay0]; exact lay_map fun x hx => (h x hx).lay, by simp only [PyData.depth]; exact Nat.succ_le_succ (dep_map fun x hx => (h x hx).dep)⟩
theorem Flat.int {n : Nat} {i : Int} : Flat n (.int i) := ⟨rfl, Nat.zero_le _⟩
theorem Flat.bl {n : Nat} {b : Bool} : Flat n (.bool b) := ⟨rfl, Nat.zero_le _⟩
theorem Flat.non {n : Nat} : Flat n .none := ⟨rfl, Nat.zero_le _⟩
theorem Flat.str {n : Nat} {x : Str} (h : (PyData.str x).canLay0 = true) : Flat n (.str x) := ⟨h, Nat.zero_le _⟩
theorem Flat.mono {n m : Nat} {d : PyData} (h : Flat n d) (k : n ≤ m) : Flat m d := ⟨h.lay, Nat.le_trans h.dep k⟩
theorem eqv_int {i j : Int} : PyData.eqv (.int i) (.int j) = decide (i = j) := by
  simp only [PyData.eqv]
  by_cases h : i = j <;> simp [h]
/-- != and == of data -/
theorem neD {x y : V} {d e : PyData} {Q : VK} (h1 : Dp K H x d) (h2 : Dp K H y e) (f1 : Flat 60 d) (f2 : Flat 60 e) (q : Q (.bl (!PyData.eqv d e)) H) : rNeD K x y H Q := ⟨d, e, h1, h2, f1.sh (by decide), f2.sh (by decide), q⟩
theorem eqD {x y : V} {d e : PyData} {Q : VK} (h1 : Dp K H x d) (h2 : Dp K H y e) (f1 : Flat 60 d) (f2 : Flat 60 e) (q : Q (.bl (PyData.eqv d e)) H) : rEqD K x y H Q := ⟨d, e, h1, h2, f1.sh (by decide), f2.sh (by decide), q⟩
end
end KpR

namespace KpR
open PySem PySem.Spec PyProof.Rows L2
section
variable {prog : Program} {w : World} {A : Around} {E : Value → Shared → Prop} {s : Shared} {K : PySem.W.Frag} {x y C C' f : Addr} {ox oy : Obj} {od : Option Obj}
theorem rc_neX {Q : Value → Shared → Prop} (X : K.In s.heap) (I : PySem.W.InstAt s.heap x ox C od) (c : NeK K C f) (hy : s.heap.get? y = some oy) (cy : oy.cls = .ref C') (nf : PySem.W.notFirst K C (.ref C') = true) (hu : A.units + 1 < cLine)
    (h : wpAny (model prog w) A.in1 (call (.ref f) [.ref x, .ref y]) (fun v s1 => ∃ b, v = .bool b ∧ Q (.bool (!b)) s1) E s) : wpAny (model prog w) A (richCompare .NotEq (.ref x) (.ref y)) Q E s := by
  by_cases ne : C' = C
  · exact rc_neK X I c hy (by rw [cy, ne]) hu h
  have hsub : PySem.W.subIn K (.ref C') (.ref C) = some false := by
    unfold PySem.W.notFirst at nf
    rcases Bool.or_eq_true_iff.mp nf with k | k
    · exact absurd (Value.ref.inj (eq_of_beq k)) ne
    · exact eq_of_beq k
  have hu0 : A.units < cLine := Nat.lt_of_succ_lt hu
  have run : wpAny (model prog w) A (callSpecialIfBound? (.ref x) "__ne__" [.ref y]) (fun r s1 => ∃ b, r = some (.bool b) ∧ Q (.bool b) s1) E s := by
    simp only [callSpecialIfBound?, bindSpecialIfBound?]
    refine wpAny_holding (wpAny_bind (wpAny_bind (wpAny_bind (I.type.here ((PySem.W.looks_findIn X c.hn).here ?_)))))
    refine wpAny_bind (wpAny_askSetting (wpAny_ite ?_))
    have fin : wpAny (model prog w) A (call (.builtin "object.__ne__") ([.ref x] ++ [.ref y]) >>= fun v => pure (some v)) (fun r s1 => ∃ b, r = some (.bool b) ∧ Q (.bool b) s1) E s :=
      wpAny_bind (wpAny_mono (call_objNe (Q := fun v s1 => ∃ b, v = .bool b ∧ Q (.bool b) s1) X I c hu (wpAny_mono h (fun v s1 ⟨b, e, q⟩ => ⟨b, e, _, rfl, q⟩) fun _ _ e => e)) (fun v s1 ⟨b, e, q⟩ => wpAny_pure ⟨b, congrArg some e, q⟩) fun _ _ e => e)
    split
    · exact wpAny_bind (wpAny_of_eq (F.cmp_object.ne.bind _) (wpAny_pure (by exact fin)))
    · exact wpAny_tryCatch (wpAny_bind (wpAny_of_eq (F.cmp_object.ne.bind _) (wpAny_pure (by exact fin))))
  have one : wpAny (model prog w) A (tryCompare (.ref x) "__ne__" (.ref y)) (fun r s1 => ∃ b, r = some (.bool b) ∧ Q (.bool b) s1) E s := by
    unfold tryCompare
    refine wpAny_bind (wpAny_mono run (fun r s1 z => ?_) fun _ _ e => e)
    obtain ⟨b, rfl, q⟩ := z
    exact wpAny_pure ⟨b, rfl, q⟩
  unfold richCompare
  simp only [oneThing_ref]
  refine wpAny_holding (wpAny_bind (wpAny_cRoomFor hu0 ?_))
  rw [cmpInfo_NotEq]
  dsimp only
  refine wpAny_bind (I.type.here (wpAny_bind (wpAny_typeOf_ref hy ?_)))
  have nb : (Value.ref C != Value.ref C') = true := by
    rw [bne_iff_ne]
    exact fun z => ne (Value.ref.inj z).symm
  rw [cy, nb]
  simp only [if_true]
  refine wpAny_bind ((PySem.W.looks_subIn X hsub).here ?_)
  simp only [Bool.false_eq_true, if_false]
  refine wpAny_bind (wpAny_mono one (fun r s1 z => ?_) fun _ _ e => e)
  obtain ⟨b, rfl, q⟩ := z
  exact wpAny_pure q
end
section
variable {X : Cx} {CX : CXT} {n : Nat} {C f : Addr} {fd : FuncData} {ps : List Str} {R : Addr → V → Bool → Hp → Prop} {E : XK}
/-- x != y of two instances, the second of no class below the first one's -/
def rNeX (K : PySem.W.Frag) (C : Addr) (R : Addr → V → Bool → Hp → Prop) : R2 := fun x y H Q => ∃ b, DInsB K C R x y b H ∧ ∀ H', Ext H H' → Q (.bl (!b)) H'
theorem op_neX (G : FnOk X.prog X.w X.K X.mg X.base CX n f fd ps (spEqB R)) (hc : NeK X.K C f) (hb : Binds X.K fd ps []) (hx : Passes CX X E) (hr : Room (n + 1) X.A) : OpR X (compareOp .NotEq) (rNeX X.K C R) := by
  intro pins s σ H x y v u Q I rx ry hq
  obtain ⟨b, ⟨a, c, C', dx, dy, fs, gs, rfl, rfl, ha, hc1, nf, hR⟩, q⟩ := hq
  cases rx
  cases ry
  obtain ⟨mA, J, _⟩ := ins_get I.hok ha
  obtain ⟨mC, J1, _⟩ := ins_get I.hok hc1
  obtain ⟨od, J, _⟩ := J.look
  obtain ⟨od1, J1, _⟩ := J1.look
  have r1 : Room n X.A.in1 := hr.in1
  have go := own_runB (B := X.A.in1) (y := .ref c) (v := .ref c) G hb hx ⟨r1, rfl⟩ I rfl hR
  show wpAny (model X.prog X.w) X.A (richCompare .NotEq (.ref a) (.ref c)) (EP X pins σ Q) X.xe s
  refine rc_neX I.kIn J hc J1.at_ J1.cls nf (hu_of hr) (wpAny_mono go (fun r s1 z => ?_) fun _ _ e => e)
  cases r with
  | notImplemented => exact False.elim z
  | bool b' =>
    obtain ⟨e, H1, I1, ex⟩ := z
    cases e
    exact ⟨_, rfl, .bl _, H1, I1, rfl, q H1 ex⟩
  | _ => cases z.1
/-- x == y, two lists equal pair by pair -/
def DAll (D : EqvB) : Eqv := fun x y H => ∀ H', Ext H H' → D x y true H'
theorem mon_all (D : EqvB) : Mon (DAll D) := fun _ _ _ _ e d H' e' => d H' (e.trans e')
theorem eqG_all {D : EqvB} (h : EqB X n D) : EqG X n (DAll D) := fun B pins s σ H x y u v sb I rx ry d => h B pins s σ H x y true u v sb I rx ry (d H Ext.rfl')
/-- x != y, two lists of just the same objects -/
def rNeSame (K : PySem.W.Frag) : R2 := fun x y H Q => ∃ a c xs, x = .ref a ∧ y = .ref c ∧ H a = some (.lst xs) ∧ H c = some (.lst xs) ∧ (∀ z ∈ xs, ∃ p, z = V.ref p) ∧ Q (.bl false) H
theorem refs_same : ∀ {xs : List V} {us vs : List Value}, (∀ z ∈ xs, ∃ p, z = V.ref p) → Vals xs us → Vals xs vs → us = vs
  | [], _, _, _, .nil, .nil => rfl
  | x :: xs, _, _, h, .cons r1 k1, .cons r2 k2 => by
    obtain ⟨p, rfl⟩ := h x (List.mem_cons_self ..)
    cases r1
    cases r2
    rw [refs_same (fun z hz => h z (List.mem_cons_of_mem _ hz)) k1 k2]
theorem op_neSame (hu : X.A.units < cLine) : OpR X (compareOp .NotEq) (rNeSame X.K) := by
  intro pins s σ H x y v u Q I rx ry hq
  obtain ⟨a, c, xs, rfl, rfl, ha, hc, hr, q⟩ := hq
  cases rx
  cases ry
  obtain ⟨z, its, k, r, e⟩ := I.hok a _ ha
  obtain ⟨z2, its2, k2, r2, e2⟩ := I.hok c _ hc
  obtain rfl := refs_same hr r r2
  show wpAny (model X.prog X.w) X.A (richCompare .NotEq (.ref a) (.ref c)) (EP X pins σ Q) X.xe s
  refine wpAny_richCompare_same_room (op := .NotEq) ⟨_, e, rfl⟩ ⟨_, e2, rfl⟩ F.slot_list_ne (GQ.call_here F.slot_list_ne ⟨_, e, rfl⟩ F.entry_list_ne (F.args_list_ne_2 _ _) ?_) hu
  refine SeqAt.list_neAt a c its.toArray its.toArray k k2 none none #[] #[] rfl (fun _ => true) X.prog X.w X.A (wants (fun v s' => v ≠ .notImplemented ∧ EP X pins σ Q v s') X.xe) s ⟨e, e2, fun j h1 h2 => SeqAt.EqAt.same _, ?_⟩
  have al : (List.range its.toArray.size).all (fun _ => true) = true := by simp
  rw [al]
  exact ⟨(fun z => nomatch z), .bl false, H, I, rfl, q⟩
end
section
variable {prog : Program} {w : World} {A : Around} {E : Value → Shared → Prop} {s : Shared}
/-- a tuple's items, taken over into a list of their own -/
theorem collect_tup {l : Addr} {o : Obj} {n : Nat} {vs : List Value} {Q : List Value → Shared → Prop} (ho : s.heap.get? l = some o) (hc : o.cls = .type "tuple") (hd : o.data = .seq vs.toArray n)
    (h : Q vs { s with heap := (s.heap.push (seqObj "list" #[] 0)).update s.heap.objs.size (Obj.mapSeq (· ++ vs.toArray)) }) (hsz : vs.length ≤ sizeLine) : wpAny (model prog w) A (collect (.ref l)) Q E s := by
  have new : (s.heap.push (seqObj "list" #[] 0)).get? s.heap.objs.size = some (seqObj "list" #[] 0) := Heap.get?_push_size _ rfl
  have old : (s.heap.push (seqObj "list" #[] 0)).get? l = some o := Heap.get?_push_of_some _ ho
  unfold collect
  refine wpAny_bind (wpAny_runValue (codeAny_builtin entry_proto_collect' (show wpAny _ _ (do again (.builtin "list.__iadd__" ⟨[← newList [], .ref l], []⟩)) _ _ s from wpAny_bind (wpAny_newList (wpAny_pure ⟨Code.quiet_builtin _ (by decide +kernel), codeAny_builtin entry_list_iadd' ?_⟩)))))
  show wpAny _ _ (Builtin.List.listExtendWith (.ref s.heap.objs.size) (.ref l) (.ref s.heap.objs.size)) _ _ { s with heap := s.heap.push (seqObj "list" #[] 0) }
  unfold Builtin.List.listExtendWith
  have tt : (Value.type "tuple" == Value.type "tuple") = true := rfl
  refine wpAny_bind (wpAny_typeOf (T := "tuple") ⟨o, old, hc⟩ ?_)
  rw [if_pos (by rw [tt]; simp)]
  refine wpAny_bind (listItems_at old hd (wpAny_bind (listItems_at (xs := #[]) (n := 0) new rfl ?_)))
  rw [if_neg (by simp)]
  refine wpAny_bind (listUpdate_at (xs := #[]) (n := 0) new rfl (wpAny_pure ?_) (Nat.zero_le _) (by show (#[] ++ vs.toArray).size ≤ sizeLine + 1; simp only [Array.size_append, List.size_toArray, List.length_nil]; omega))
  refine (show wpAny (model prog w) A (load s.heap.objs.size >>= fun o => match o.data with | .seq xs _ => pure xs.toList | _ => unsupported "internal:collect") Q E _ from wpAny_bind (wpAny_load (get?_update_seq new _) ?_))
  show wpAny _ _ (pure ((#[] : Array Value) ++ vs.toArray).toList) Q E _
  rw [show ((#[] : Array Value) ++ vs.toArray).toList = vs by simp]
  exact wpAny_pure h
theorem sorted_tup {l : Addr} {o : Obj} {n : Nat} {vs : List Value} {ns : List Int} {Q : Value → Shared → Prop} (ho : s.heap.get? l = some o) (hc : o.cls = .type "tuple") (hd : o.data = .seq vs.toArray n) (hI : IntsAre vs ns) (h64 : vs.length < 64)
    (h : ∀ (out : Array Value) (ns' : List Int), IntsAre out.toList ns' → ns'.Perm ns → ns'.Pairwise (· ≤ ·) → Q (.ref (s.heap.objs.size + 1)) { s with heap := sortedAll s.heap vs out }) :
    wpAny (model prog w) A (call (.builtin "sorted") [.ref l]) Q E s := by
  refine Calls.call_function_entry kind_sorted plain_sorted entry_sorted (args_sorted1 _) ?_
  unfold Builtin.«sorted»
  refine wpAny_bind (m := checkCount "sorted" 1 1 _) (wpAny_pure (wpAny_bind (collect_tup ho hc hd (wpAny_bind (wpAny_newList ?_)) (small64 h64))))
  have sz : ((s.heap.push (seqObj "list" #[] 0)).update s.heap.objs.size (Obj.mapSeq (· ++ vs.toArray))).objs.size = s.heap.objs.size + 1 := by rw [Heap.size_update, size_push']
  have at2 : (((s.heap.push (seqObj "list" #[] 0)).update s.heap.objs.size (Obj.mapSeq (· ++ vs.toArray))).push (seqObj "list" vs.toArray 0)).get? (s.heap.objs.size + 1) = some (seqObj "list" vs.toArray 0) := sz ▸ Heap.get?_push_size _ rfl
  show wpAny _ _ _ _ _ { s with heap := ((s.heap.push (seqObj "list" #[] 0)).update s.heap.objs.size (Obj.mapSeq (· ++ vs.toArray))).push (seqObj "list" vs.toArray 0) }
  rw [sz]
  exact wpAny_bind (wpAny_holding (wpAny_call_entry slot_list_sort ⟨_, at2, rfl⟩ entry_list_sort (list_sort_tree at2 hI h64 fun out ns' a1 a2 a3 => ⟨_, rfl, wpAny_pure ⟨_, rfl, h out ns' a1 a2 a3⟩⟩) (args_list_sort _)))
end
section
variable {X : Cx}
/-- sorted(t), t a tuple or a list of ints -/
def rSrt (K : PySem.W.Frag) : List V → Hp → VK → Prop := fun vs H Q => ∃ (a : Addr) (ns : List Int), vs = [V.ref a] ∧ (SqL K H a (ns.map V.int) ∨ SqT K H a (ns.map V.int)) ∧ ns.length < 64 ∧
  ∀ (ns' : List Int) (p : Addr), ns'.Perm ns → ns'.Pairwise (· ≤ ·) → H p = none → Q (.ref p) (upd H p (.lst (ns'.map V.int)))
theorem cr_srt : CallR X (.builtin "sorted") (rSrt X.K) := by
  intro pins s σ H vs us Q I r h
  obtain ⟨a, ns, rfl, hs, h64, q⟩ := h
  rcases hs with hs | hs
  · exact cr_sorted pins s σ H _ us Q I r ⟨a, ns, rfl, hs, h64, q⟩
  obtain ⟨its, rv, ⟨o, ho, hc, n, hd⟩, _⟩ := I.tuple hs
  rw [Vals.ref1 r]
  have hi := rv.ints
  refine sorted_tup ho hc hd hi (by rw [hi.length]; exact h64) fun out ns' h1 h2 h3 => ?_
  obtain ⟨ep, he'⟩ := PyProof.Rows.sortedAll_at s.heap its out
  have hlen : (ns'.map V.int).length ≤ sizeLine := by rw [List.length_map, h2.length_eq]; exact small64 h64
  exact ⟨.ref _, upd H (s.heap.objs.size + 1) (.lst (ns'.map V.int)), I.laid (t' := s.toks) (fun _ _ => PyProof.Rows.sortedAll_old) (Nat.le_succ _) ⟨hlen, out.toList, ep, vals_of_ints h1, he'⟩, rfl, q ns' _ h2 h3 (I.hok.fresh (Nat.le_succ _))⟩
end
end KpR




namespace Kp
/-! bounds, over plain things -/
inductive Bd where
  | most (g : List Int) (n : Int) | least (g : List Int) (n : Int) | apart (g h : List Int) (n : Int)
  deriving DecidableEq
theorem srt_uniq : ∀ {l m : List Int}, l.Perm m → l.Pairwise (· ≤ ·) → m.Pairwise (· ≤ ·) → l = m
  | [], m, p, _, _ => (List.Perm.nil_eq p)
  | x :: l, [], p, _, _ => absurd p.length_eq (by simp)
  | x :: l, y :: m, p, hl, hm => by
    have h1 := List.pairwise_cons.mp hl
    have h2 := List.pairwise_cons.mp hm
    have e : x = y := by
      have a : x ≤ y := by
        rcases List.mem_cons.mp (p.mem_iff.mpr (List.mem_cons_self ..)) with k | k
        · omega
        · exact h1.1 y k
      have b : y ≤ x := by
        rcases List.mem_cons.mp (p.mem_iff.mp (List.mem_cons_self ..)) with k | k
        · omega
        · exact h2.1 x k
      omega
    subst e
    rw [srt_uniq (List.Perm.cons_inv p) h1.2 h2.2]
open PySem PySem.Spec PyProof.Rows L2 KpR
def topS (i : Nat) : Stmt := PySem.Challenge.pw_wholedrops_k31_lots_loads_and_worths.main.body.getD i (.Pass ⟨0, 0, 0, 0⟩)
abbrev sMostInit : Stmt := inClass (topS 2) 0
abbrev sLeastInit : Stmt := inClass (topS 3) 0
abbrev sApartInit : Stmt := inClass (topS 4) 0
abbrev sMostEq : Stmt := inClass (topS 2) 1
abbrev sLeastEq : Stmt := inClass (topS 3) 1
abbrev sApartEq : Stmt := inClass (topS 4) 1
abbrev sloadof : Stmt := topS 5
abbrev sworthof : Stmt := topS 6
abbrev sload : Stmt := topS 7
abbrev sworth : Stmt := topS 8
abbrev sLstate : Stmt := topS 11
abbrev sLdigit : Stmt := topS 12
abbrev sLgroup : Stmt := topS 13
abbrev sLnumber : Stmt := topS 14
abbrev sLfacts : Stmt := topS 15
abbrev sLmade : Stmt := topS 16
abbrev sLfieldsright : Stmt := topS 17
abbrev sLrises : Stmt := topS 18
abbrev sLsum : Stmt := topS 19
abbrev sLfloor : Stmt := topS 20
abbrev sLgroupkept : Stmt := topS 21
abbrev slaw : Stmt := topS 22
theorem scMostInit : FnScope ["self", "group", "number"] ["self", "group", "number"] (defScope sMostInit) := ⟨rfl, rfl, rfl, by decide +kernel, rfl, by decide +kernel, by decide +kernel⟩
theorem scLeastInit : FnScope ["self", "group", "number"] ["self", "group", "number"] (defScope sLeastInit) := ⟨rfl, rfl, rfl, by decide +kernel, rfl, by decide +kernel, by decide +kernel⟩
theorem scApartInit : FnScope ["self", "ours", "theirs", "number"] ["self", "ours", "theirs", "number"] (defScope sApartInit) := ⟨rfl, rfl, rfl, by decide +kernel, rfl, by decide +kernel, by decide +kernel⟩
theorem scMostEq : FnScope ["self", "other"] ["self", "other"] (defScope sMostEq) := ⟨rfl, rfl, rfl, by decide +kernel, rfl, by decide +kernel, by decide +kernel⟩
theorem scLeastEq : FnScope ["self", "other"] ["self", "other"] (defScope sLeastEq) := ⟨rfl, rfl, rfl, by decide +kernel, rfl, by decide +kernel, by decide +kernel⟩
theorem scApartEq : FnScope ["self", "other"] ["self", "other"] (defScope sApartEq) := ⟨rfl, rfl, rfl, by decide +kernel, rfl, by decide +kernel, by decide +kernel⟩
theorem scloadof : FnScope ["bound", "jar"] ["bound", "jar"] (defScope sloadof) := ⟨rfl, rfl, rfl, by decide +kernel, rfl, by decide +kernel, by decide +kernel⟩
theorem scworthof : FnScope ["bound"] ["bound"] (defScope sworthof) := ⟨rfl, rfl, rfl, by decide +kernel, rfl, by decide +kernel, by decide +kernel⟩
theorem scload : FnScope ["lot", "jar", "bound"] ["lot", "jar"] (defScope sload) := ⟨rfl, rfl, rfl, by decide +kernel, rfl, by decide +kernel, by decide +kernel⟩
theorem scworth : FnScope ["lot", "bound"] ["lot"] (defScope sworth) := ⟨rfl, rfl, rfl, by decide +kernel, rfl, by decide +kernel, by decide +kernel⟩
theorem scLstate : FnScope ["_law_source"] ["_law_source"] (defScope sLstate) := ⟨rfl, rfl, rfl, by decide +kernel, rfl, by decide +kernel, by decide +kernel⟩
theorem scLdigit : FnScope ["_law_state_here", "_law_base", "_law_found", "_law_mixed"] ["_law_state_here", "_law_base"] (defScope sLdigit) := ⟨rfl, rfl, rfl, by decide +kernel, rfl, by decide +kernel, by decide +kernel⟩
theorem scLgroup : FnScope ["_law_s", "_law_jars", "_law_jar"] ["_law_s", "_law_jars"] (defScope sLgroup) := ⟨rfl, rfl, rfl, by decide +kernel, rfl, by decide +kernel, by decide +kernel⟩
theorem scLnumber : FnScope ["_law_s"] ["_law_s"] (defScope sLnumber) := ⟨rfl, rfl, rfl, by decide +kernel, rfl, by decide +kernel, by decide +kernel⟩
theorem scLfacts : FnScope ["_law_s", "_law_jars", "_law_word"] ["_law_s", "_law_jars"] (defScope sLfacts) := ⟨rfl, rfl, rfl, by decide +kernel, rfl, by decide +kernel, by decide +kernel⟩
theorem scLmade : FnScope ["_law_facts_here"] ["_law_facts_here"] (defScope sLmade) := ⟨rfl, rfl, rfl, by decide +kernel, rfl, by decide +kernel, by decide +kernel⟩
theorem scLfieldsright : FnScope ["_law_bound", "_law_facts_here"] ["_law_bound", "_law_facts_here"] (defScope sLfieldsright) := ⟨rfl, rfl, rfl, by decide +kernel, rfl, by decide +kernel, by decide +kernel⟩
theorem scLrises : FnScope ["_law_facts_here", "_law_jar"] ["_law_facts_here", "_law_jar"] (defScope sLrises) := ⟨rfl, rfl, rfl, by decide +kernel, rfl, by decide +kernel, by decide +kernel⟩
theorem scLsum : FnScope ["_law_facts_here", "_law_start", "_law_jar"] ["_law_facts_here", "_law_start"] (defScope sLsum) := ⟨rfl, rfl, rfl, by decide +kernel, rfl, by decide +kernel, by decide +kernel⟩
theorem scLfloor : FnScope ["_law_facts_here"] ["_law_facts_here"] (defScope sLfloor) := ⟨rfl, rfl, rfl, by decide +kernel, rfl, by decide +kernel, by decide +kernel⟩
theorem scLgroupkept : FnScope ["_law_s", "_law_jars", "_law_group_here", "_law_handed", "_law_some", "_law_one"] ["_law_s", "_law_jars"] (defScope sLgroupkept) := ⟨rfl, rfl, rfl, by decide +kernel, rfl, by decide +kernel, by decide +kernel⟩
theorem sclaw : FnScope ["_law_script", "_law_number_here", "_law_s", "_law_jars", "_law_some", "_law_k", "_law_lot", "_law_facts_here", "_law_kept", "_law_loads", "_law_jar", "_law_due", "_law_one", "_law_j", "_law_share", "_law_start"] ["_law_script"] (defScope slaw) := ⟨rfl, rfl, rfl, by decide +kernel, rfl, by decide +kernel, by decide +kernel⟩
structure TyIns (K : PySem.W.Frag) (C : Addr) : Prop where
  ha : PySem.W.findIn K (.ref C) "__class__" = some (some (.builtin "object.__class__"))
  hn : PySem.W.specialIn K (.builtin "object.__class__") "__get__" = some (some (.builtin "getset_descriptor.__get__"))
  ht : PySem.W.takesIn K (.builtin "object.__class__") = some true
  hm : PySem.W.mroIn K C (.type "object") = some true
structure Tx (K : PySem.W.Frag) (mg : Str → Option Value) : Type where
  cMost : Addr
  cLeast : Addr
  cApart : Addr
  cBound : Addr
  aMostInit : Addr
  dMostInit : FuncData
  aLeastInit : Addr
  dLeastInit : FuncData
  aApartInit : Addr
  dApartInit : FuncData
  aMostEq : Addr
  dMostEq : FuncData
  aLeastEq : Addr
  dLeastEq : FuncData
  aApartEq : Addr
  dApartEq : FuncData
  aloadof : Addr
  dloadof : FuncData
  aworthof : Addr
  dworthof : FuncData
  aload : Addr
  dload : FuncData
  aworth : Addr
  dworth : FuncData
  aLstate : Addr
  dLstate : FuncData
  aLdigit : Addr
  dLdigit : FuncData
  aLgroup : Addr
  dLgroup : FuncData
  aLnumber : Addr
  dLnumber : FuncData
  aLfacts : Addr
  dLfacts : FuncData
  aLmade : Addr
  dLmade : FuncData
  aLfieldsright : Addr
  dLfieldsright : FuncData
  aLrises : Addr
  dLrises : FuncData
  aLsum : Addr
  dLsum : FuncData
  aLfloor : Addr
  dLfloor : FuncData
  aLgroupkept : Addr
  dLgroupkept : FuncData
  alaw : Addr
  dlaw : FuncData
  fMostInit : Fun K "__init__" "Most.__init__" sMostInit aMostInit dMostInit
  bMostInit : Binds K dMostInit ["self", "group", "number"] []
  fLeastInit : Fun K "__init__" "Least.__init__" sLeastInit aLeastInit dLeastInit
  bLeastInit : Binds K dLeastInit ["self", "group", "number"] []
  fApartInit : Fun K "__init__" "Apart.__init__" sApartInit aApartInit dApartInit
  bApartInit : Binds K dApartInit ["self", "ours", "theirs", "number"] []
  fMostEq : Fun K "__eq__" "Most.__eq__" sMostEq aMostEq dMostEq
  bMostEq : Binds K dMostEq ["self", "other"] []
  eMostEq : PySem.W.findIn K (.ref cMost) "__eq__" = some (some (.ref aMostEq))
  eiMostEq : PySem.W.isFn K (.ref aMostEq) = true
  fLeastEq : Fun K "__eq__" "Least.__eq__" sLeastEq aLeastEq dLeastEq
  bLeastEq : Binds K dLeastEq ["self", "other"] []
  eLeastEq : PySem.W.findIn K (.ref cLeast) "__eq__" = some (some (.ref aLeastEq))
  eiLeastEq : PySem.W.isFn K (.ref aLeastEq) = true
  fApartEq : Fun K "__eq__" "Apart.__eq__" sApartEq aApartEq dApartEq
  bApartEq : Binds K dApartEq ["self", "other"] []
  eApartEq : PySem.W.findIn K (.ref cApart) "__eq__" = some (some (.ref aApartEq))
  eiApartEq : PySem.W.isFn K (.ref aApartEq) = true
  floadof : Fun K "load_of" "load_of" sloadof aloadof dloadof
  bloadof : Binds K dloadof ["bound", "jar"] []
  gloadof : mg "load_of" = some (.ref aloadof)
  fworthof : Fun K "worth_of" "worth_of" sworthof aworthof dworthof
  bworthof : Binds K dworthof ["bound"] []
  gworthof : mg "worth_of" = some (.ref aworthof)
  fload : Fun K "load" "load" sload aload dload
  bload : Binds K dload ["lot", "jar"] []
  gload : mg "load" = some (.ref aload)
  fworth : Fun K "worth" "worth" sworth aworth dworth
  bworth : Binds K dworth ["lot"] []
  gworth : mg "worth" = some (.ref aworth)
  fLstate : Fun K "_law_state" "_law_state" sLstate aLstate dLstate
  bLstate : Binds K dLstate ["_law_source"] []
  gLstate : mg "_law_state" = some (.ref aLstate)
  fLdigit : Fun K "_law_digit" "_law_digit" sLdigit aLdigit dLdigit
  bLdigit : Binds K dLdigit ["_law_state_here", "_law_base"] []
  gLdigit : mg "_law_digit" = some (.ref aLdigit)
  fLgroup : Fun K "_law_group" "_law_group" sLgroup aLgroup dLgroup
  bLgroup : Binds K dLgroup ["_law_s", "_law_jars"] []
  gLgroup : mg "_law_group" = some (.ref aLgroup)
  fLnumber : Fun K "_law_number" "_law_number" sLnumber aLnumber dLnumber
  bLnumber : Binds K dLnumber ["_law_s"] []
  gLnumber : mg "_law_number" = some (.ref aLnumber)
  fLfacts : Fun K "_law_facts" "_law_facts" sLfacts aLfacts dLfacts
  bLfacts : Binds K dLfacts ["_law_s", "_law_jars"] []
  gLfacts : mg "_law_facts" = some (.ref aLfacts)
  fLmade : Fun K "_law_made" "_law_made" sLmade aLmade dLmade
  bLmade : Binds K dLmade ["_law_facts_here"] []
  gLmade : mg "_law_made" = some (.ref aLmade)
  fLfieldsright : Fun K "_law_fields_right" "_law_fields_right" sLfieldsright aLfieldsright dLfieldsright
  bLfieldsright : Binds K dLfieldsright ["_law_bound", "_law_facts_here"] []
  gLfieldsright : mg "_law_fields_right" = some (.ref aLfieldsright)
  fLrises : Fun K "_law_rises" "_law_rises" sLrises aLrises dLrises
  bLrises : Binds K dLrises ["_law_facts_here", "_law_jar"] []
  gLrises : mg "_law_rises" = some (.ref aLrises)
  fLsum : Fun K "_law_sum" "_law_sum" sLsum aLsum dLsum
  bLsum : Binds K dLsum ["_law_facts_here", "_law_start"] []
  gLsum : mg "_law_sum" = some (.ref aLsum)
  fLfloor : Fun K "_law_floor" "_law_floor" sLfloor aLfloor dLfloor
  bLfloor : Binds K dLfloor ["_law_facts_here"] []
  gLfloor : mg "_law_floor" = some (.ref aLfloor)
  fLgroupkept : Fun K "_law_group_kept" "_law_group_kept" sLgroupkept aLgroupkept dLgroupkept
  bLgroupkept : Binds K dLgroupkept ["_law_s", "_law_jars"] []
  gLgroupkept : mg "_law_group_kept" = some (.ref aLgroupkept)
  flaw : Fun K "law" "law" slaw alaw dlaw
  blaw : Binds K dlaw ["_law_script"] []
  glaw : mg "law" = some (.ref alaw)
  mMost : mg "Most" = some (.ref cMost)
  lMost : Cls K cMost
  kMost : Mk K cMost aMostInit
  nMost_group : NoAttr K cMost "group"
  nMost_number : NoAttr K cMost "number"
  mLeast : mg "Least" = some (.ref cLeast)
  lLeast : Cls K cLeast
  kLeast : Mk K cLeast aLeastInit
  nLeast_group : NoAttr K cLeast "group"
  nLeast_number : NoAttr K cLeast "number"
  mApart : mg "Apart" = some (.ref cApart)
  lApart : Cls K cApart
  kApart : Mk K cApart aApartInit
  nApart_ours : NoAttr K cApart "ours"
  nApart_theirs : NoAttr K cApart "theirs"
  nApart_number : NoAttr K cApart "number"
  mBound : mg "Bound" = some (.ref cBound)
  lBound : Cls K cBound
  yApart : TyIns K cApart
  yLeast : TyIns K cLeast
  yMost : TyIns K cMost
  iMost_Most : PySem.W.kitOne K (.ref cMost) (.ref cMost) = some true
  iMost_Least : PySem.W.kitOne K (.ref cMost) (.ref cLeast) = some false
  iMost_Apart : PySem.W.kitOne K (.ref cMost) (.ref cApart) = some false
  iMost_Bound : PySem.W.kitOne K (.ref cMost) (.ref cBound) = some true
  iLeast_Most : PySem.W.kitOne K (.ref cLeast) (.ref cMost) = some false
  iLeast_Least : PySem.W.kitOne K (.ref cLeast) (.ref cLeast) = some true
  iLeast_Apart : PySem.W.kitOne K (.ref cLeast) (.ref cApart) = some false
  iLeast_Bound : PySem.W.kitOne K (.ref cLeast) (.ref cBound) = some true
  iApart_Most : PySem.W.kitOne K (.ref cApart) (.ref cMost) = some false
  iApart_Least : PySem.W.kitOne K (.ref cApart) (.ref cLeast) = some false
  iApart_Apart : PySem.W.kitOne K (.ref cApart) (.ref cApart) = some true
  iApart_Bound : PySem.W.kitOne K (.ref cApart) (.ref cBound) = some true
  nfMost_Least : PySem.W.notFirst K cMost (.ref cLeast) = true
  nfMost_Apart : PySem.W.notFirst K cMost (.ref cApart) = true
  nfLeast_Most : PySem.W.notFirst K cLeast (.ref cMost) = true
  nfLeast_Apart : PySem.W.notFirst K cLeast (.ref cApart) = true
  nfApart_Most : PySem.W.notFirst K cApart (.ref cMost) = true
  nfApart_Least : PySem.W.notFirst K cApart (.ref cLeast) = true
  neMost : NeK K cMost aMostEq
  neLeast : NeK K cLeast aLeastEq
  neApart : NeK K cApart aApartEq
  nabs : mg "abs" = none
  nint : mg "int" = none
  nisinstance : mg "isinstance" = none
  nlen : mg "len" = none
  nlist : mg "list" = none
  nrange : mg "range" = none
  nsorted : mg "sorted" = none
  nsum : mg "sum" = none
  ntuple : mg "tuple" = none
/-! ### fields -/
theorem lk1 {a : Str} {x : V} {r : List (Str × V)} : List.lookup a ((a, x) :: r) = some x := by simp [List.lookup]
theorem lk2 {a b : Str} {x y : V} {r : List (Str × V)} (h : ¬ b = a) : List.lookup b ((a, x) :: (b, y) :: r) = some y := by
  have : (b == a) = false := by simpa using h
  simp [List.lookup, this]
theorem lk3 {a b c : Str} {x y z : V} (h : ¬ c = a) (h2 : ¬ c = b) : List.lookup c [(a, x), (b, y), (c, z)] = some z := by
  have e1 : (c == a) = false := by simpa using h
  have e2 : (c == b) = false := by simpa using h2
  simp [List.lookup, e1, e2]
def f2s (a : Str) (x : V) (b : Str) (y : V) : List (Str × V) := [(a, x), (b, y)]
def f3s (a : Str) (x : V) (b : Str) (y : V) (c : Str) (z : V) : List (Str × V) := [(a, x), (b, y), (c, z)]
theorem put2 {a b : Str} {u v : V} (h : ¬ a = b) : putF b v (putF a u []) = f2s a u b v := by
  show (if a = b then [(a, v)] else (a, u) :: putF b v []) = [(a, u), (b, v)]
  rw [if_neg h]
  rfl
theorem put3 {a b c : Str} {u v w : V} (h : ¬ a = b) (h1 : ¬ a = c) (h2 : ¬ b = c) : putF c w (putF b v (putF a u [])) = f3s a u b v c w := by
  rw [put2 h]
  show (if a = c then (a, w) :: [(b, v)] else (a, u) :: (if b = c then (b, w) :: [] else (b, v) :: putF c w [])) = [(a, u), (b, v), (c, w)]
  rw [if_neg h1, if_neg h2]
  rfl
def Bd.gs : Bd → List Int
  | .most g _ => g
  | .least g _ => g
  | .apart g _ _ => g
def Bd.hs : Bd → List Int
  | .most g _ => g
  | .least g _ => g
  | .apart _ h _ => h
def Bd.num : Bd → Int
  | .most _ n => n
  | .least _ n => n
  | .apart _ _ n => n
def Bd.word : Bd → Str
  | .most _ _ => "most"
  | .least _ _ => "least"
  | .apart _ _ _ => "apart"
def Bd.tp (t u : V) : Bd → List V
  | .most _ n => [.str "most", t, .int n]
  | .least _ n => [.str "least", t, .int n]
  | .apart _ _ n => [.str "apart", t, u, .int n]
def Bd.fs (t u : V) : Bd → List (Str × V)
  | .most _ n => f2s "group" t "number" (.int n)
  | .least _ n => f2s "group" t "number" (.int n)
  | .apart _ _ n => f3s "ours" t "theirs" u "number" (.int n)
/-- groups that are drawn -/
structure Bd.Ok (b : Bd) : Prop where
  g : b.gs.Pairwise (· < ·)
  h : b.hs.Pairwise (· < ·)
  lg : b.gs.length ≤ 6
  lh : b.hs.length ≤ 6
section
variable {K : PySem.W.Frag} {mg : Str → Option Value}
def Bd.cls (T : Tx K mg) : Bd → Addr
  | .most _ _ => T.cMost
  | .least _ _ => T.cLeast
  | .apart _ _ _ => T.cApart
def BoundAt (T : Tx K mg) (H : Hp) (v : V) (b : Bd) : Prop := ∃ p dx t u, v = .ref p ∧ H p = some (.ins (b.cls T) dx (b.fs (.ref t) (.ref u))) ∧ H t = some (.tup (vi b.gs)) ∧ H u = some (.tup (vi b.hs))
def FactAt (H : Hp) (v : V) (b : Bd) : Prop := ∃ p t u, v = .ref p ∧ H p = some (.tup (b.tp (.ref t) (.ref u))) ∧ H t = some (.tup (vi b.gs)) ∧ H u = some (.tup (vi b.hs))
theorem BoundAt.same {T : Tx K mg} {H H' : Hp} {v : V} {d : Bd} (e : Same H H') (h : BoundAt T H v d) : BoundAt T H' v d := by
  obtain ⟨p, dx, t, u, rfl, h1, h2, h3⟩ := h
  exact ⟨p, dx, t, u, rfl, e _ _ h1, e _ _ h2, e _ _ h3⟩
theorem BoundAt.ext {T : Tx K mg} {H H' : Hp} {v : V} {d : Bd} (e : Ext H H') (h : BoundAt T H v d) : BoundAt T H' v d := h.same fun b o q => e b o q
theorem FactAt.same {H H' : Hp} {v : V} {d : Bd} (e : Same H H') (h : FactAt H v d) : FactAt H' v d := by
  obtain ⟨p, t, u, rfl, h1, h2, h3⟩ := h
  exact ⟨p, t, u, rfl, e _ _ h1, e _ _ h2, e _ _ h3⟩
/-- a list: what a def may change -/
def Blank (o : HO) : Prop := ∃ ws, o = .lst ws
theorem bl_l {ws : List V} : Blank (.lst ws) := ⟨ws, rfl⟩
theorem nbT {xs : List V} : ¬ Blank (.tup xs) := by
  rintro ⟨_, z⟩
  cases z
theorem nbI {C dx : Addr} {fs : List (Str × V)} : ¬ Blank (.ins C dx fs) := by
  rintro ⟨_, z⟩
  cases z
theorem fr_no {w : Addr} {H H' : Hp} {u : HO} {b : Addr} {o : HO} (e : Fr w H H') (hw : H w = some u) (hb : Blank u) (h : H b = some o) (n : ¬ Blank o) : H' b = some o :=
  e b o (fun z => by rw [z, hw] at h; cases h; exact n hb) h
theorem BoundAt.fr {T : Tx K mg} {w : Addr} {H H' : Hp} {o : HO} {v : V} {d : Bd} (e : Fr w H H') (hw : H w = some o) (hb : Blank o) (h : BoundAt T H v d) : BoundAt T H' v d := by
  obtain ⟨p, dx, t, u, rfl, h1, h2, h3⟩ := h
  exact ⟨p, dx, t, u, rfl, fr_no e hw hb h1 nbI, fr_no e hw hb h2 nbT, fr_no e hw hb h3 nbT⟩
theorem FactAt.fr {w : Addr} {H H' : Hp} {o : HO} {v : V} {d : Bd} (e : Fr w H H') (hw : H w = some o) (hb : Blank o) (h : FactAt H v d) : FactAt H' v d := by
  obtain ⟨p, t, u, rfl, h1, h2, h3⟩ := h
  exact ⟨p, t, u, rfl, fr_no e hw hb h1 nbT, fr_no e hw hb h2 nbT, fr_no e hw hb h3 nbT⟩
theorem made_same {H H' : Hp} {x dx : Addr} {o1 o2 : HO} (hx : H x = none) (hdx : H dx = none) (fr : Fr x (upd (upd H dx o1) x o2) H') : Same H H' := fun b o e => by
  have n1 := ne_of_none e hx
  have n2 := ne_of_none e hdx
  exact fr b o n1 (by rw [upd_ne n1, upd_ne n2]; exact e)
def SeqI (H : Hp) (a : Addr) (g : List Int) : Prop := H a = some (.lst (vi g)) ∨ H a = some (.tup (vi g))
theorem SeqI.same {H H' : Hp} {a : Addr} {g : List Int} (e : Same H H') (h : SeqI H a g) : SeqI H' a g := h.elim (fun h => .inl (e _ _ h)) (fun h => .inr (e _ _ h))
theorem SeqI.fr {w : Addr} {H H' : Hp} {a : Addr} {g : List Int} (e : Fr w H H') (n : a ≠ w) (h : SeqI H a g) : SeqI H' a g := h.elim (fun h => .inl (e _ _ n h)) (fun h => .inr (e _ _ n h))
theorem SeqI.ne {H : Hp} {a p C dx : Addr} {g : List Int} {fs : List (Str × V)} (h : SeqI H a g) (k : H p = some (.ins C dx fs)) : a ≠ p := fun z => by
  rcases h with h | h <;> rw [z, k] at h <;> cases h
theorem SeqI.sq {H : Hp} {a : Addr} {g : List Int} (h : SeqI H a g) : SqL K H a (vi g) ∨ SqT K H a (vi g) := h.elim (fun h => .inl (SqL.of h)) (fun h => .inr (SqT.of h))
structure Grp (g : List Int) : Prop where
  up : g.Pairwise (· < ·)
  len : g.length ≤ 6
theorem Grp.srt {g ns : List Int} (h : Grp g) (p : ns.Perm g) (q : ns.Pairwise (· ≤ ·)) : ns = g := srt_uniq p q (h.up.imp fun h => Int.le_of_lt h)
def sp2 (C : Addr) : Sp := fun vs H Q _ => ∃ (p dx a : Addr) (g : List Int) (n : Int), vs = [.ref p, .ref a, .int n] ∧ H p = some (.ins C dx []) ∧ SeqI H a g ∧ Grp g ∧
  ∀ (H' : Hp) (t : Addr), H' p = some (.ins C dx (f2s "group" (.ref t) "number" (.int n))) → H' t = some (.tup (vi g)) → Fr p H H' → Q .non H'
def spMostInit (T : Tx K mg) : Sp := sp2 T.cMost
def spLeastInit (T : Tx K mg) : Sp := sp2 T.cLeast
def spApartInit (T : Tx K mg) : Sp := fun vs H Q _ => ∃ (p dx a c : Addr) (g h : List Int) (n : Int), vs = [.ref p, .ref a, .ref c, .int n] ∧ H p = some (.ins T.cApart dx []) ∧ SeqI H a g ∧ Grp g ∧ SeqI H c h ∧ Grp h ∧
  ∀ (H' : Hp) (t u : Addr), H' p = some (.ins T.cApart dx (f3s "ours" (.ref t) "theirs" (.ref u) "number" (.int n))) → H' t = some (.tup (vi g)) → H' u = some (.tup (vi h)) → Fr p H H' → Q .non H'
end
section
variable {P : Program} {w : World} {K : PySem.W.Frag} {mg : Str → Option Value} {base : Heap}
theorem okMostInit (T : Tx K mg) : FnOk P w K mg base CX0 1 T.aMostInit T.dMostInit ["self", "group", "number"] (spMostInit T) := by
  refine T.fMostInit.ok scMostInit (fun vs H Q E h => ?_) (fun cdv A outer s H vs Q E hr h => ?_)
  · obtain ⟨p, dx, a, g, n, rfl, _⟩ := h
    rfl
  · obtain ⟨p, dx, a, g, n, rfl, hp, hS, hG, hq⟩ := h
    refine ⟨_, (pss_cons (ps_fld (pv 0) (pe_callTy call_tuple_of rfl T.ntuple (by decide +kernel) (pa_cons (pe_callB cr_srt rfl T.nsorted (by decide +kernel) (pa_cons (pv 1) pa_nil)) pa_nil)) rfl)
      (pss_one (ps_fld (pv 0) (pv 2) rfl))), ?_⟩
    have lg := hG.len
    refine ⟨_, rfl, a, g, rfl, hS.sq, by omega, fun ns q pe pw hq0 => ?_⟩
    obtain rfl := hG.srt pe pw
    have np : p ≠ q := ne_of_none hp hq0
    refine ⟨q, _, rfl, .inl ⟨SqL.of upd_same, fun t ht => ?_⟩⟩
    have nt : p ≠ t := ne_of_none (o := .ins T.cMost dx []) (by rw [upd_ne np]; exact hp) ht
    refine ⟨_, rfl, p, _, dx, _, rfl, (by rw [upd_ne nt, upd_ne np]; exact hp), T.lMost, T.nMost_group, (by show 0 < 1000; decide), ?_⟩
    refine ⟨_, rfl, _, rfl, p, _, dx, _, rfl, upd_same, T.lMost, T.nMost_number, (by show 1 < 1000; decide), ?_⟩
    refine hq _ t ?_ ?_ (fr_mut (fr_mut (fr_new (fr_new (Fr.refl _ _) hq0) ?_)))
    · rw [upd_same, put2 (by decide +kernel)]
    · rw [upd_ne nt.symm, upd_ne nt.symm]
      exact upd_same
    · exact Classical.byContradiction fun z => by
        cases e : H t with
        | none => exact z e
        | some o =>
          have := (same_new (o := HO.lst (ns.map V.int)) hq0) _ _ e
          rw [ht] at this
          cases this
end
end Kp

namespace Kp
open PySem PySem.Spec PyProof.Rows L2 KpR
section
variable {P : Program} {w : World} {K : PySem.W.Frag} {mg : Str → Option Value} {base : Heap}
theorem okLeastInit (T : Tx K mg) : FnOk P w K mg base CX0 1 T.aLeastInit T.dLeastInit ["self", "group", "number"] (spLeastInit T) := by
  refine T.fLeastInit.ok scLeastInit (fun vs H Q E h => ?_) (fun cdv A outer s H vs Q E hr h => ?_)
  · obtain ⟨p, dx, a, g, n, rfl, _⟩ := h
    rfl
  · obtain ⟨p, dx, a, g, n, rfl, hp, hS, hG, hq⟩ := h
    refine ⟨_, (pss_cons (ps_fld (pv 0) (pe_callTy call_tuple_of rfl T.ntuple (by decide +kernel) (pa_cons (pe_callB cr_srt rfl T.nsorted (by decide +kernel) (pa_cons (pv 1) pa_nil)) pa_nil)) rfl)
      (pss_one (ps_fld (pv 0) (pv 2) rfl))), ?_⟩
    have lg := hG.len
    refine ⟨_, rfl, a, g, rfl, hS.sq, by omega, fun ns q pe pw hq0 => ?_⟩
    obtain rfl := hG.srt pe pw
    have np : p ≠ q := ne_of_none hp hq0
    refine ⟨q, _, rfl, .inl ⟨SqL.of upd_same, fun t ht => ?_⟩⟩
    have nt : p ≠ t := ne_of_none (o := .ins T.cLeast dx []) (by rw [upd_ne np]; exact hp) ht
    refine ⟨_, rfl, p, _, dx, _, rfl, (by rw [upd_ne nt, upd_ne np]; exact hp), T.lLeast, T.nLeast_group, (by show 0 < 1000; decide), ?_⟩
    refine ⟨_, rfl, _, rfl, p, _, dx, _, rfl, upd_same, T.lLeast, T.nLeast_number, (by show 1 < 1000; decide), ?_⟩
    refine hq _ t ?_ ?_ (fr_mut (fr_mut (fr_new (fr_new (Fr.refl _ _) hq0) ((same_new hq0).free ht))))
    · rw [upd_same, put2 (by decide +kernel)]
    · rw [upd_ne nt.symm, upd_ne nt.symm]
      exact upd_same
theorem okApartInit (T : Tx K mg) : FnOk P w K mg base CX0 1 T.aApartInit T.dApartInit ["self", "ours", "theirs", "number"] (spApartInit T) := by
  refine T.fApartInit.ok scApartInit (fun vs H Q E h => ?_) (fun cdv A outer s H vs Q E hr h => ?_)
  · obtain ⟨p, dx, a, c, g, h, n, rfl, _⟩ := h
    rfl
  · obtain ⟨p, dx, a, c, g, h, n, rfl, hp, hS, hG, hS2, hG2, hq⟩ := h
    refine ⟨_, (pss_cons (ps_fld (pv 0) (pe_callTy call_tuple_of rfl T.ntuple (by decide +kernel) (pa_cons (pe_callB cr_srt rfl T.nsorted (by decide +kernel) (pa_cons (pv 1) pa_nil)) pa_nil)) rfl)
      (pss_cons (ps_fld (pv 0) (pe_callTy call_tuple_of rfl T.ntuple (by decide +kernel) (pa_cons (pe_callB cr_srt rfl T.nsorted (by decide +kernel) (pa_cons (pv 2) pa_nil)) pa_nil)) rfl)
      (pss_one (ps_fld (pv 0) (pv 3) rfl)))), ?_⟩
    have lg := hG.len
    have lh := hG2.len
    refine ⟨_, rfl, a, g, rfl, hS.sq, by omega, fun ns q pe pw hq0 => ?_⟩
    obtain rfl := hG.srt pe pw
    have np : p ≠ q := ne_of_none hp hq0
    have s1 : Same H (upd H q (.lst (ns.map V.int))) := same_new hq0
    refine ⟨q, _, rfl, .inl ⟨SqL.of upd_same, fun t ht => ?_⟩⟩
    have nt : p ≠ t := ne_of_none (s1 _ _ hp) ht
    have s2 := s1.trans (same_new (o := .tup (ns.map V.int)) ht)
    have t2 : (upd (upd H q (.lst (ns.map V.int))) t (.tup (ns.map V.int))) t = some (.tup (vi ns)) := upd_same
    generalize (upd (upd H q (.lst (ns.map V.int))) t (.tup (ns.map V.int))) = H2 at s2 t2 ⊢
    refine ⟨_, rfl, p, _, dx, _, rfl, s2 _ _ hp, T.lApart, T.nApart_ours, (by show 0 < 1000; decide), ?_⟩
    have f3 : Fr p H2 (upd H2 p (.ins T.cApart dx (putF "ours" (.ref t) []))) := fr_mut (Fr.refl _ _)
    have p3 : (upd H2 p (.ins T.cApart dx (putF "ours" (.ref t) []))) p = some (.ins T.cApart dx (putF "ours" (.ref t) [])) := upd_same
    have pc := hS2.ne hp
    have c3 : SeqI (upd H2 p (.ins T.cApart dx (putF "ours" (.ref t) []))) c h := (hS2.same s2).fr f3 pc
    have nt2 : t ≠ p := fun z => by rw [z, s2 _ _ hp] at t2; cases t2
    have t3 : (upd H2 p (.ins T.cApart dx (putF "ours" (.ref t) []))) t = some (.tup (vi ns)) := by rw [upd_ne nt2]; exact t2
    have fr3 : Fr p H (upd H2 p (.ins T.cApart dx (putF "ours" (.ref t) []))) := (Fr.of s2).trans f3
    generalize (upd H2 p (.ins T.cApart dx (putF "ours" (.ref t) []))) = H3 at p3 c3 t3 fr3 ⊢
    refine ⟨_, rfl, c, h, rfl, c3.sq, by omega, fun ms q2 pe2 pw2 hq2 => ?_⟩
    obtain rfl := hG2.srt pe2 pw2
    have s4 : Same H3 (upd H3 q2 (.lst (ms.map V.int))) := same_new hq2
    refine ⟨q2, _, rfl, .inl ⟨SqL.of upd_same, fun u hu => ?_⟩⟩
    have s5 := s4.trans (same_new (o := .tup (ms.map V.int)) hu)
    have u5 : (upd (upd H3 q2 (.lst (ms.map V.int))) u (.tup (ms.map V.int))) u = some (.tup (vi ms)) := upd_same
    generalize (upd (upd H3 q2 (.lst (ms.map V.int))) u (.tup (ms.map V.int))) = H5 at s5 u5 ⊢
    refine ⟨_, rfl, p, _, dx, _, rfl, s5 _ _ p3, T.lApart, T.nApart_theirs, (by show 1 < 1000; decide), ?_⟩
    refine ⟨_, rfl, _, rfl, p, _, dx, _, rfl, upd_same, T.lApart, T.nApart_number, (by show 2 < 1000; decide), ?_⟩
    have nu : u ≠ p := fun z => by rw [z, s5 _ _ p3] at u5; cases u5
    refine hq _ t u ?_ ?_ ?_ (fr_mut (fr_mut (fr3.trans (Fr.of s5))))
    · rw [upd_same, put3 (by decide +kernel) (by decide +kernel) (by decide +kernel)]
    · rw [upd_ne nt2, upd_ne nt2]
      exact s5 _ _ t3
    · rw [upd_ne nu, upd_ne nu]
      exact u5
end
end Kp

namespace Kp
open PySem PySem.Spec PyProof.Rows L2 KpR
def pdI (l : List Int) : List PyData := l.map PyData.int
section
variable {K : PySem.W.Frag} {H : Hp}
theorem dpI : ∀ l : List Int, DpAll K H (vi l) (pdI l)
  | [] => .nil
  | i :: l => .cons (.int i) (dpI l)
theorem flat_t (l : List Int) : Flat 1 (.tuple (pdI l)) := Flat.tup fun _ _ => Flat.int
theorem flat_l (l : List Int) : Flat 1 (.list (pdI l)) := Flat.list fun _ _ => Flat.int
theorem eqv_i (l m : List Int) : PyData.eqvAll (pdI l) (pdI m) = decide (l = m) := eqv_map fun _ _ => eqv_int
theorem eq_tupsB {a b : Addr} {l m : List Int} {Q : VK} (h1 : SqT K H a (vi l)) (h2 : SqT K H b (vi m)) (q : Q (.bl (decide (l = m))) H) : rEqD K (.ref a) (.ref b) H Q := by
  refine eqD (.tup h1 (dpI l)) (.tup h2 (dpI m)) ((flat_t l).mono (by decide)) ((flat_t m).mono (by decide)) ?_
  simp only [PyData.eqv, eqv_i]
  exact q
theorem ne_ints {a b : Addr} {l m : List Int} {Q : VK} (h1 : SqL K H a (vi l)) (h2 : SqL K H b (vi m)) (e : l = m) (q : Q (.bl false) H) : rNeD K (.ref a) (.ref b) H Q := by
  refine neD (.lst h1 (dpI l)) (.lst h2 (dpI m)) ((flat_l l).mono (by decide)) ((flat_l m).mono (by decide)) ?_
  simp only [PyData.eqv, eqv_i, decide_eq_true e]
  exact q
theorem ne_tups {a b : Addr} {l m : List Int} {Q : VK} (h1 : SqT K H a (vi l)) (h2 : SqT K H b (vi m)) (e : l = m) (q : Q (.bl false) H) : rNeD K (.ref a) (.ref b) H Q := by
  refine neD (.tup h1 (dpI l)) (.tup h2 (dpI m)) ((flat_t l).mono (by decide)) ((flat_t m).mono (by decide)) ?_
  simp only [PyData.eqv, eqv_i, decide_eq_true e]
  exact q
end
def Bd.isMost : Bd → Bool
  | .most _ _ => true
  | _ => false
def Bd.isLeast : Bd → Bool
  | .least _ _ => true
  | _ => false
def Bd.isApart : Bd → Bool
  | .apart _ _ _ => true
  | _ => false
section
variable {K : PySem.W.Frag} {mg : Str → Option Value}
theorem ty_bd {T : Tx K mg} {H : Hp} {p dx : Addr} {d : Bd} {fs : List (Str × V)} (h : H p = some (.ins (d.cls T) dx fs)) : TyX K H (.ref p) (.ref (d.cls T)) := by
  refine .base ?_
  cases d
  · exact .ins h T.lMost T.yMost.ha T.yMost.hn T.yMost.ht T.yMost.hm
  · exact .ins h T.lLeast T.yLeast.ha T.yLeast.hn T.yLeast.ht T.yLeast.hm
  · exact .ins h T.lApart T.yApart.ha T.yApart.hn T.yApart.ht T.yApart.hm
theorem is_most (T : Tx K mg) (d : Bd) : PySem.W.kitOne K (.ref (d.cls T)) (.ref T.cMost) = some d.isMost := by
  cases d
  · exact T.iMost_Most
  · exact T.iLeast_Most
  · exact T.iApart_Most
theorem is_least (T : Tx K mg) (d : Bd) : PySem.W.kitOne K (.ref (d.cls T)) (.ref T.cLeast) = some d.isLeast := by
  cases d
  · exact T.iMost_Least
  · exact T.iLeast_Least
  · exact T.iApart_Least
theorem is_apart (T : Tx K mg) (d : Bd) : PySem.W.kitOne K (.ref (d.cls T)) (.ref T.cApart) = some d.isApart := by
  cases d
  · exact T.iMost_Apart
  · exact T.iLeast_Apart
  · exact T.iApart_Apart
theorem is_bound (T : Tx K mg) (d : Bd) : PySem.W.kitOne K (.ref (d.cls T)) (.ref T.cBound) = some true := by
  cases d
  · exact T.iMost_Bound
  · exact T.iLeast_Bound
  · exact T.iApart_Bound
def RBd (T : Tx K mg) (k : Bd → Bool) (a : Addr) (y : V) (b : Bool) (H : Hp) : Prop := ∃ d e, k d = true ∧ BoundAt T H (.ref a) d ∧ BoundAt T H y e ∧ b = decide (d = e)
end
section
variable {P : Program} {w : World} {K : PySem.W.Frag} {mg : Str → Option Value} {base : Heap}
def spMostEq (T : Tx K mg) : Sp := spEqB (RBd T Bd.isMost)
theorem okMostEq (T : Tx K mg) : FnOk P w K mg base CX0 1 T.aMostEq T.dMostEq ["self", "other"] (spMostEq T) := by
  refine T.fMostEq.ok scMostEq (fun vs H Q E h => ?_) (fun cdv A outer s H vs Q E hr h => ?_)
  · obtain ⟨a, y, b, rfl, _⟩ := h
    rfl
  · obtain ⟨a, y, b, rfl, ⟨d, e, k, h1, h2, rfl⟩, hq⟩ := h
    refine ⟨_, (pss_one (ps_ret (pe_and (pe_callB call_isi rfl T.nisinstance (by decide +kernel) (pa_cons (pv 1) (pa_cons (pe_glob (v := .ref T.cMost) rfl T.mMost rfl) pa_nil))) (pe_and (pe_cmpR (r := rEqD K) (op_eqD hr.units) (pe_fld (pv 0) rfl) (pe_fld (pv 1) rfl) (nomark _)) (pe_one (pe_cmpR op_eq (pe_fld (pv 0) rfl) (pe_fld (pv 1) rfl) (nomark _))))))), ?_⟩
    cases d with
    | most g n =>
      obtain ⟨p, dx, t, u, e1, h1, ht, hu⟩ := h1
      cases e1
      obtain ⟨q, dy, t2, u2, rfl, g1, gt, gu⟩ := h2
      refine ⟨_, rfl, .ref q, .ref T.cMost, _, _, _, rfl, .own _, ty_bd g1, is_most T e, _, rfl, ?_⟩
      cases e with
      | most g2 n2 =>
        refine ifT rfl ⟨_, rfl, a, _, dx, _, _, rfl, h1, T.lMost, T.nMost_group, lk1, _, rfl, q, _, dy, _, _, rfl, g1, T.lMost, T.nMost_group, lk1, ?_⟩
        refine eq_tupsB (SqT.of ht) (SqT.of gt) ⟨_, rfl, ?_⟩
        by_cases eg : g = g2
        · refine ifT (decide_eq_true eg) ⟨_, rfl, a, _, dx, _, _, rfl, h1, T.lMost, T.nMost_number, lk2 (by decide +kernel), _, rfl, q, _, dy, _, _, rfl, g1, T.lMost, T.nMost_number, lk2 (by decide +kernel), rfl, ?_⟩
          refine (congrArg (fun c => Q (V.bl c) H) (decide_eq_decide.mpr ?_)).mpr (hq _ Ext.rfl')
          subst eg
          exact ⟨fun z => by injection z with z; rw [z], fun z => by injection z with _ z; rw [z]⟩
        · refine ifF (decide_eq_false eg) ?_
          refine (congrArg (fun c => Q (V.bl c) H) ?_).mp (hq _ Ext.rfl')
          exact decide_eq_false fun z => eg (by injection z)
      | least _ _ => exact ifF rfl (hq _ Ext.rfl')
      | apart _ _ _ => exact ifF rfl (hq _ Ext.rfl')
    | least _ _ => cases k
    | apart _ _ _ => cases k
def spLeastEq (T : Tx K mg) : Sp := spEqB (RBd T Bd.isLeast)
theorem okLeastEq (T : Tx K mg) : FnOk P w K mg base CX0 1 T.aLeastEq T.dLeastEq ["self", "other"] (spLeastEq T) := by
  refine T.fLeastEq.ok scLeastEq (fun vs H Q E h => ?_) (fun cdv A outer s H vs Q E hr h => ?_)
  · obtain ⟨a, y, b, rfl, _⟩ := h
    rfl
  · obtain ⟨a, y, b, rfl, ⟨d, e, k, h1, h2, rfl⟩, hq⟩ := h
    refine ⟨_, (pss_one (ps_ret (pe_and (pe_callB call_isi rfl T.nisinstance (by decide +kernel) (pa_cons (pv 1) (pa_cons (pe_glob (v := .ref T.cLeast) rfl T.mLeast rfl) pa_nil))) (pe_and (pe_cmpR (r := rEqD K) (op_eqD hr.units) (pe_fld (pv 0) rfl) (pe_fld (pv 1) rfl) (nomark _)) (pe_one (pe_cmpR op_eq (pe_fld (pv 0) rfl) (pe_fld (pv 1) rfl) (nomark _))))))), ?_⟩
    cases d with
    | least g n =>
      obtain ⟨p, dx, t, u, e1, h1, ht, hu⟩ := h1
      cases e1
      obtain ⟨q, dy, t2, u2, rfl, g1, gt, gu⟩ := h2
      refine ⟨_, rfl, .ref q, .ref T.cLeast, _, _, _, rfl, .own _, ty_bd g1, is_least T e, _, rfl, ?_⟩
      cases e with
      | least g2 n2 =>
        refine ifT rfl ⟨_, rfl, a, _, dx, _, _, rfl, h1, T.lLeast, T.nLeast_group, lk1, _, rfl, q, _, dy, _, _, rfl, g1, T.lLeast, T.nLeast_group, lk1, ?_⟩
        refine eq_tupsB (SqT.of ht) (SqT.of gt) ⟨_, rfl, ?_⟩
        by_cases eg : g = g2
        · refine ifT (decide_eq_true eg) ⟨_, rfl, a, _, dx, _, _, rfl, h1, T.lLeast, T.nLeast_number, lk2 (by decide +kernel), _, rfl, q, _, dy, _, _, rfl, g1, T.lLeast, T.nLeast_number, lk2 (by decide +kernel), rfl, ?_⟩
          refine (congrArg (fun c => Q (V.bl c) H) (decide_eq_decide.mpr ?_)).mpr (hq _ Ext.rfl')
          subst eg
          exact ⟨fun z => by injection z with z; rw [z], fun z => by injection z with _ z; rw [z]⟩
        · refine ifF (decide_eq_false eg) ?_
          refine (congrArg (fun c => Q (V.bl c) H) ?_).mp (hq _ Ext.rfl')
          exact decide_eq_false fun z => eg (by injection z)
      | most _ _ => exact ifF rfl (hq _ Ext.rfl')
      | apart _ _ _ => exact ifF rfl (hq _ Ext.rfl')
    | most _ _ => cases k
    | apart _ _ _ => cases k
def spApartEq (T : Tx K mg) : Sp := spEqB (RBd T Bd.isApart)
theorem okApartEq (T : Tx K mg) : FnOk P w K mg base CX0 1 T.aApartEq T.dApartEq ["self", "other"] (spApartEq T) := by
  refine T.fApartEq.ok scApartEq (fun vs H Q E h => ?_) (fun cdv A outer s H vs Q E hr h => ?_)
  · obtain ⟨a, y, b, rfl, _⟩ := h
    rfl
  · obtain ⟨a, y, b, rfl, ⟨d, e, k, h1, h2, rfl⟩, hq⟩ := h
    refine ⟨_, (pss_cons (ps_if (pt_not (pt_val (pe_callB call_isi rfl T.nisinstance (by decide +kernel) (pa_cons (pv 1) (pa_cons (pe_glob (v := .ref T.cApart) rfl T.mApart rfl) pa_nil))))) (pss_one (ps_ret pe_bl)) pss_nil)
      (pss_one (ps_ret (pe_and (pe_cmpR (r := rEqD K) (op_eqD hr.units) (pe_fld (pv 0) rfl) (pe_fld (pv 1) rfl) (nomark _)) (pe_and (pe_cmpR (r := rEqD K) (op_eqD hr.units) (pe_fld (pv 0) rfl) (pe_fld (pv 1) rfl) (nomark _)) (pe_one (pe_cmpR op_eq (pe_fld (pv 0) rfl) (pe_fld (pv 1) rfl) (nomark _)))))))), ?_⟩
    cases d with
    | apart g g' n =>
      obtain ⟨p, dx, t, u, e1, h1, ht, hu⟩ := h1
      cases e1
      obtain ⟨q, dy, t2, u2, rfl, g1, gt, gu⟩ := h2
      refine ⟨_, rfl, .ref q, .ref T.cApart, _, _, _, rfl, .own _, ty_bd g1, is_apart T e, _, rfl, ?_⟩
      cases e with
      | apart g2 g2' n2 =>
        refine ifF rfl ⟨_, rfl, a, _, dx, _, _, rfl, h1, T.lApart, T.nApart_ours, lk1, _, rfl, q, _, dy, _, _, rfl, g1, T.lApart, T.nApart_ours, lk1, ?_⟩
        refine eq_tupsB (SqT.of ht) (SqT.of gt) ⟨_, rfl, ?_⟩
        by_cases eg : g = g2
        · refine ifT (decide_eq_true eg) ⟨_, rfl, a, _, dx, _, _, rfl, h1, T.lApart, T.nApart_theirs, lk2 (by decide +kernel), _, rfl, q, _, dy, _, _, rfl, g1, T.lApart, T.nApart_theirs, lk2 (by decide +kernel), ?_⟩
          refine eq_tupsB (SqT.of hu) (SqT.of gu) ⟨_, rfl, ?_⟩
          by_cases eh : g' = g2'
          · refine ifT (decide_eq_true eh) ⟨_, rfl, a, _, dx, _, _, rfl, h1, T.lApart, T.nApart_number, lk3 (by decide +kernel) (by decide +kernel), _, rfl, q, _, dy, _, _, rfl, g1, T.lApart, T.nApart_number, lk3 (by decide +kernel) (by decide +kernel), rfl, ?_⟩
            refine (congrArg (fun c => Q (V.bl c) H) (decide_eq_decide.mpr ?_)).mpr (hq _ Ext.rfl')
            subst eg
            subst eh
            exact ⟨fun z => by injection z with z; rw [z], fun z => by injection z with _ _ z; rw [z]⟩
          · refine ifF (decide_eq_false eh) ?_
            refine (congrArg (fun c => Q (V.bl c) H) ?_).mp (hq _ Ext.rfl')
            exact decide_eq_false fun z => eh (by injection z)
        · refine ifF (decide_eq_false eg) ?_
          refine (congrArg (fun c => Q (V.bl c) H) ?_).mp (hq _ Ext.rfl')
          exact decide_eq_false fun z => eg (by injection z)
      | least _ _ => exact ifT rfl (hq _ Ext.rfl')
      | most _ _ => exact ifT rfl (hq _ Ext.rfl')
    | least _ _ => cases k
    | most _ _ => cases k
end
end Kp

namespace Kp
open PySem PySem.Spec PyProof.Rows L2 KpR
theorem vi_inj : ∀ {l m : List Int}, vi l = vi m → l = m
  | [], [], _ => rfl
  | [], _ :: _, h => by cases h
  | _ :: _, [], h => by cases h
  | i :: l, j :: m, h => by
    have h : V.int i :: vi l = V.int j :: vi m := h
    injection h with h1 h2
    injection h1 with h1
    rw [h1, vi_inj h2]
section
variable {X : Cx} {K : PySem.W.Frag} {mg : Str → Option Value}
def QBd (T : Tx K mg) : EqvB := fun x y b H => DInsB K T.cMost (RBd T Bd.isMost) x y b H ∨ DInsB K T.cLeast (RBd T Bd.isLeast) x y b H ∨ DInsB K T.cApart (RBd T Bd.isApart) x y b H
def rNeQ3 (T : Tx K mg) : R2 := fun x y H Q => rNeX K T.cMost (RBd T Bd.isMost) x y H Q ∨ rNeX K T.cLeast (RBd T Bd.isLeast) x y H Q ∨ rNeX K T.cApart (RBd T Bd.isApart) x y H Q
theorem nf_self {K : PySem.W.Frag} {C : Addr} : PySem.W.notFirst K C (.ref C) = true := by simp [PySem.W.notFirst]
theorem QBd.refs {T : Tx K mg} {x y : V} {b : Bool} {H : Hp} (h : QBd T x y b H) : ∃ c, x = .ref c ∧ ∃ a, y = .ref a ∧ (c = a → b = true) := by
  have one : ∀ {C : Addr} {k : Bd → Bool}, DInsB K C (RBd T k) x y b H → ∃ c, x = .ref c ∧ ∃ a, y = .ref a ∧ (c = a → b = true) := fun {C k} h => by
    obtain ⟨a, c, C', dx, dy, fs, gs, rfl, rfl, ha, hc, nf, d, e, _, h1, h2, rfl⟩ := h
    refine ⟨a, rfl, c, rfl, fun z => decide_eq_true ?_⟩
    subst z
    obtain ⟨p, dx1, t1, u1, e1, k1, k2, k3⟩ := h1
    cases e1
    obtain ⟨q, dx2, t2, u2, e2, l1, l2, l3⟩ := h2
    cases e2
    rw [k1] at l1
    injection l1 with l1
    injection l1 with z1 z2 z3
    have mm := is_most T d
    rw [z1, is_most T e] at mm
    have ll := is_least T d
    rw [z1, is_least T e] at ll
    injection mm with mm
    injection ll with ll
    cases d with
    | most g n =>
      cases e with
      | most g2 n2 =>
        simp only [Bd.fs, f2s, List.cons.injEq, Prod.mk.injEq, V.ref.injEq, V.int.injEq, true_and, and_true] at z3
        obtain ⟨w1, w2⟩ := z3
        subst w1
        subst w2
        rw [k2] at l2
        injection l2 with l2
        injection l2 with l2
        have l2 := vi_inj l2
        simp only [Bd.gs] at l2
        rw [l2]
      | least _ _ => cases mm
      | apart _ _ _ => cases mm
    | least g n =>
      cases e with
      | least g2 n2 =>
        simp only [Bd.fs, f2s, List.cons.injEq, Prod.mk.injEq, V.ref.injEq, V.int.injEq, true_and, and_true] at z3
        obtain ⟨w1, w2⟩ := z3
        subst w1
        subst w2
        rw [k2] at l2
        injection l2 with l2
        injection l2 with l2
        have l2 := vi_inj l2
        simp only [Bd.gs] at l2
        rw [l2]
      | most _ _ => cases mm
      | apart _ _ _ => cases ll
    | apart g g' n =>
      cases e with
      | apart g2 g2' n2 =>
        simp only [Bd.fs, f3s, List.cons.injEq, Prod.mk.injEq, V.ref.injEq, V.int.injEq, true_and, and_true] at z3
        obtain ⟨w1, w3, w2⟩ := z3
        subst w1
        subst w3
        subst w2
        rw [k2] at l2
        injection l2 with l2
        injection l2 with l2
        rw [k3] at l3
        injection l3 with l3
        injection l3 with l3
        have l2 := vi_inj l2
        have l3 := vi_inj l3
        simp only [Bd.gs, Bd.hs] at l2 l3
        rw [l2, l3]
      | most _ _ => cases mm
      | least _ _ => cases ll
  rcases h with h | h | h
  · exact one h
  · exact one h
  · exact one h
theorem eqB_bounds (T : Tx K mg) (hK : X.K = K := by rfl) (hm : X.mg = mg := by rfl) : RcB X 1 (QBd T) := by
  subst hK
  subst hm
  exact RcB.or (rcB_ins (E := E0) ⟨T.eMostEq, T.eiMostEq⟩ (okMostEq T) T.bMostEq pass0) (RcB.or (rcB_ins (E := E0) ⟨T.eLeastEq, T.eiLeastEq⟩ (okLeastEq T) T.bLeastEq pass0) (rcB_ins (E := E0) ⟨T.eApartEq, T.eiApartEq⟩ (okApartEq T) T.bApartEq pass0))
theorem opEqBounds (T : Tx K mg) (hr : Room 1 X.A) (hK : X.K = K := by rfl) (hm : X.mg = mg := by rfl) : OpR X (compareOp .Eq) (rEqB (QBd T)) := op_eqB (n := 1) (eqB_bounds T hK hm) hr
theorem opNeBounds (T : Tx K mg) (hr : Room 2 X.A) (hK : X.K = K := by rfl) (hm : X.mg = mg := by rfl) : OpR X (compareOp .NotEq) (rNeQ3 T) := by
  subst hK
  subst hm
  exact OpR.or (op_neX (E := E0) (okMostEq T) T.neMost T.bMostEq pass0 hr) (OpR.or (op_neX (E := E0) (okLeastEq T) T.neLeast T.bLeastEq pass0 hr) (op_neX (E := E0) (okApartEq T) T.neApart T.bApartEq pass0 hr))
theorem opEqLists (T : Tx K mg) (hr : Room 2 X.A) (hK : X.K = K := by rfl) (hm : X.mg = mg := by rfl) : OpR X (compareOp .Eq) (rEqG (DList (DAll (QBd T)))) :=
  op_eqG (n := 2) (rcG_list (n := 1) (mon_all _) (eqG_all ((eqB_bounds T hK hm).eqB fun _ _ _ _ h => .inl (QBd.refs h)))) hr
theorem opNeLists (T : Tx K mg) (hr : Room 2 X.A) (hK : X.K = K := by rfl) (hm : X.mg = mg := by rfl) : OpR X (compareOp .NotEq) (rNeSame K) := by
  subst hK
  exact op_neSame (Nat.lt_of_succ_lt (hu_of hr))
theorem QBd_of {T : Tx K mg} {H : Hp} {x y : V} {d e : Bd} (h1 : BoundAt T H x d) (h2 : BoundAt T H y e) : QBd T x y (decide (d = e)) H := by
  obtain ⟨p, dx, t, u, rfl, k1, k2, k3⟩ := id h1
  obtain ⟨q, dy, t2, u2, rfl, l1, l2, l3⟩ := id h2
  cases d with
  | most g n => exact .inl ⟨p, q, _, dx, dy, _, _, rfl, rfl, k1, l1, (by cases e <;> first | exact nf_self | exact T.nfMost_Least | exact T.nfMost_Apart), _, e, rfl, h1, h2, rfl⟩
  | least g n => exact .inr (.inl ⟨p, q, _, dx, dy, _, _, rfl, rfl, k1, l1, (by cases e <;> first | exact nf_self | exact T.nfLeast_Most | exact T.nfLeast_Apart), _, e, rfl, h1, h2, rfl⟩)
  | apart g g' n => exact .inr (.inr ⟨p, q, _, dx, dy, _, _, rfl, rfl, k1, l1, (by cases e <;> first | exact nf_self | exact T.nfApart_Most | exact T.nfApart_Least), _, e, rfl, h1, h2, rfl⟩)
theorem eqBd {T : Tx K mg} {H : Hp} {x y : V} {d e : Bd} {Q : VK} (h1 : BoundAt T H x d) (h2 : BoundAt T H y e) (q : ∀ H', Ext H H' → Q (.bl (decide (d = e))) H') : rEqB (QBd T) x y H Q := ⟨_, QBd_of h1 h2, q⟩
theorem neBd {T : Tx K mg} {H : Hp} {x y : V} {d e : Bd} {Q : VK} (h1 : BoundAt T H x d) (h2 : BoundAt T H y e) (q : ∀ H', Ext H H' → Q (.bl (!decide (d = e))) H') : rNeQ3 T x y H Q := by
  rcases QBd_of h1 h2 with h | h | h
  · exact .inl ⟨_, h, q⟩
  · exact .inr (.inl ⟨_, h, q⟩)
  · exact .inr (.inr ⟨_, h, q⟩)
theorem eqLists {T : Tx K mg} {H : Hp} {a c : Addr} {us vs : List V} {ds : List Bd} {Q : VK} (ha : H a = some (.lst us)) (hc : H c = some (.lst vs)) (h1 : A2 (BoundAt T H) us ds) (h2 : A2 (BoundAt T H) vs ds) (q : ∀ H', Ext H H' → Q (.bl true) H') : rEqG (DList (DAll (QBd T))) (.ref a) (.ref c) H Q := by
  refine ⟨⟨a, c, us, vs, rfl, rfl, ha, hc, by rw [h1.len, h2.len], fun i x y hx hy H' e => ?_⟩, q⟩
  obtain ⟨d, hd, r1⟩ := h1.get hx
  obtain ⟨d2, hd2, r2⟩ := h2.get hy
  rw [hd] at hd2
  cases hd2
  have z := QBd_of (r1.ext e) (r2.ext e)
  rw [decide_eq_true rfl] at z
  exact z
end
end Kp

namespace Kp
open PySem PySem.Spec PyProof.Rows L2 KpR
/-- whether a jar stands in a group, as a number -/
def cnt (g : List Int) (j : Int) : Int := if inV (.int j) (vi g) = true then 1 else 0
theorem flat_vi : ∀ g : List Int, (vi g).all flatV = true
  | [] => rfl
  | i :: g => flat_vi g
def Bd.load (j : Int) : Bd → Int
  | .most g _ => -cnt g j
  | .least g _ => cnt g j
  | .apart g h _ => cnt g j - cnt h j
def Bd.worth : Bd → Int
  | .most _ n => -n
  | .least _ n => n
  | .apart _ _ n => n
def loadOf (j : Int) (bs : List Bd) : Int := (bs.map (Bd.load j)).sum
def worthOf (bs : List Bd) : Int := (bs.map Bd.worth).sum
section
variable {K : PySem.W.Frag} {mg : Str → Option Value}
def sploadof (T : Tx K mg) : Sp := fun vs H Q _ => ∃ (v : V) (b : Bd) (j : Int), vs = [v, .int j] ∧ BoundAt T H v b ∧ Q (.int (b.load j)) H
def spworthof (T : Tx K mg) : Sp := fun vs H Q _ => ∃ (v : V) (b : Bd), vs = [v] ∧ BoundAt T H v b ∧ Q (.int b.worth) H
def sploadOf (T : Tx K mg) (S : Hp → Addr → List V → Prop) : Sp := fun vs H Q _ => ∃ (l : Addr) (us : List V) (bs : List Bd) (j : Int), vs = [.ref l, .int j] ∧ S H l us ∧ A2 (BoundAt T H) us bs ∧ bs.length ≤ 60 ∧ ∀ H', Same H H' → Q (.int (loadOf j bs)) H'
def spworthOf (T : Tx K mg) (S : Hp → Addr → List V → Prop) : Sp := fun vs H Q _ => ∃ (l : Addr) (us : List V) (bs : List Bd), vs = [.ref l] ∧ S H l us ∧ A2 (BoundAt T H) us bs ∧ bs.length ≤ 60 ∧ ∀ H', Same H H' → Q (.int (worthOf bs)) H'
def spload (T : Tx K mg) : Sp := sploadOf T fun H a us => H a = some (.lst us) ∨ H a = some (.tup us)
def spworth (T : Tx K mg) : Sp := spworthOf T fun H a us => H a = some (.lst us) ∨ H a = some (.tup us)
end
section
variable {P : Program} {w : World} {K : PySem.W.Frag} {mg : Str → Option Value} {base : Heap}
theorem FnOk.or {CX : CXT} {k : Nat} {f : Addr} {fd : FuncData} {ps : List Str} {s1 s2 s3 : Sp} (F : FnOk P w K mg base CX k f fd ps s1) (G : FnOk P w K mg base CX k f fd ps s2) (h : ∀ vs H Q E, s3 vs H Q E → s1 vs H Q E ∨ s2 vs H Q E) : FnOk P w K mg base CX k f fd ps s3 :=
  ⟨fun vs H Q E q => (h _ _ _ _ q).elim (F.len vs H Q E) (G.len vs H Q E), fun A outer s H args us vs Q E hr he hb hv hs => (h _ _ _ _ hs).elim (F.run A outer s H args us vs Q E hr he hb hv) (G.run A outer s H args us vs Q E hr he hb hv)⟩
theorem okloadof (T : Tx K mg) : FnOk P w K mg base CX0 1 T.aloadof T.dloadof ["bound", "jar"] (sploadof T) := by
  refine T.floadof.ok scloadof (fun vs H Q E h => ?_) (fun cdv A outer s H vs Q E hr h => ?_)
  · obtain ⟨v, b, j, rfl, _⟩ := h
    rfl
  · obtain ⟨v, b, j, rfl, hB, hq⟩ := h
    refine ⟨_, (pss_cons (ps_if (pt_val (pe_callB call_isi rfl T.nisinstance (by decide +kernel) (pa_cons (pv 0) (pa_cons (pe_glob (v := .ref T.cApart) rfl T.mApart rfl) pa_nil)))) (pss_one (ps_ret (pe_op op_sub (pe_callTy call_int1 rfl T.nint (by decide +kernel) (pa_cons (pe_cmpR (r := rIn K false) op_in_seq (pv 1) (pe_fld (pv 0) rfl) (by rfl)) pa_nil)) (pe_callTy call_int1 rfl T.nint (by decide +kernel) (pa_cons (pe_cmpR (r := rIn K false) op_in_seq (pv 1) (pe_fld (pv 0) rfl) (by rfl)) pa_nil))))) pss_nil)
      (pss_cons (ps_if (pt_val (pe_callB call_isi rfl T.nisinstance (by decide +kernel) (pa_cons (pv 0) (pa_cons (pe_glob (v := .ref T.cLeast) rfl T.mLeast rfl) pa_nil)))) (pss_one (ps_ret (pe_callTy call_int1 rfl T.nint (by decide +kernel) (pa_cons (pe_cmpR (r := rIn K false) op_in_seq (pv 1) (pe_fld (pv 0) rfl) (by rfl)) pa_nil)))) pss_nil)
      (pss_one (ps_ret (pe_un un_neg (pe_callTy call_int1 rfl T.nint (by decide +kernel) (pa_cons (pe_cmpR (r := rIn K false) op_in_seq (pv 1) (pe_fld (pv 0) rfl) (by rfl)) pa_nil))))))), ?_⟩
    obtain ⟨p, dx, t, u, rfl, h1, ht, hu⟩ := id hB
    have ty := ty_bd h1
    refine ⟨_, rfl, .ref p, .ref T.cApart, _, _, _, rfl, .own _, ty, is_apart T b, _, rfl, ?_⟩
    cases b with
    | apart g g' n =>
      refine ifT rfl ⟨_, rfl, _, rfl, p, _, dx, _, _, rfl, h1, T.lApart, T.nApart_ours, lk1, t, _, rfl, .inr (SqT.of ht), rfl, flat_vi _, .inr ⟨_, rfl, ?_⟩⟩
      exact ⟨_, rfl, _, rfl, p, _, dx, _, _, rfl, h1, T.lApart, T.nApart_theirs, lk2 (by decide +kernel), u, _, rfl, .inr (SqT.of hu), rfl, flat_vi _, .inr ⟨_, rfl, _, _, rfl, rfl, hq⟩⟩
    | least g n =>
      refine ifF rfl ⟨_, rfl, .ref p, .ref T.cLeast, _, _, _, rfl, .own _, ty, T.iLeast_Least, _, rfl, ifT rfl ?_⟩
      exact ⟨_, rfl, _, rfl, p, _, dx, _, _, rfl, h1, T.lLeast, T.nLeast_group, lk1, t, _, rfl, .inr (SqT.of ht), rfl, flat_vi _, .inr ⟨_, rfl, hq⟩⟩
    | most g n =>
      refine ifF rfl ⟨_, rfl, .ref p, .ref T.cLeast, _, _, _, rfl, .own _, ty, T.iMost_Least, _, rfl, ifF rfl ?_⟩
      exact ⟨_, rfl, _, rfl, p, _, dx, _, _, rfl, h1, T.lMost, T.nMost_group, lk1, t, _, rfl, .inr (SqT.of ht), rfl, flat_vi _, .inr ⟨_, rfl, _, rfl, hq⟩⟩
theorem okworthof (T : Tx K mg) : FnOk P w K mg base CX0 1 T.aworthof T.dworthof ["bound"] (spworthof T) := by
  refine T.fworthof.ok scworthof (fun vs H Q E h => ?_) (fun cdv A outer s H vs Q E hr h => ?_)
  · obtain ⟨v, b, rfl, _⟩ := h
    rfl
  · obtain ⟨v, b, rfl, hB, hq⟩ := h
    refine ⟨_, (pss_cons (ps_if (pt_val (pe_callB call_isi rfl T.nisinstance (by decide +kernel) (pa_cons (pv 0) (pa_cons (pe_glob (v := .ref T.cMost) rfl T.mMost rfl) pa_nil)))) (pss_one (ps_ret (pe_un un_neg (pe_fld (pv 0) rfl)))) pss_nil)
      (pss_one (ps_ret (pe_fld (pv 0) rfl)))), ?_⟩
    obtain ⟨p, dx, t, u, rfl, h1, ht, hu⟩ := id hB
    have ty := ty_bd h1
    refine ⟨_, rfl, .ref p, .ref T.cMost, _, _, _, rfl, .own _, ty, is_most T b, _, rfl, ?_⟩
    cases b with
    | most g n => exact ifT rfl ⟨_, rfl, p, _, dx, _, _, rfl, h1, T.lMost, T.nMost_number, lk2 (by decide +kernel), _, rfl, hq⟩
    | least g n => exact ifF rfl ⟨_, rfl, p, _, dx, _, _, rfl, h1, T.lLeast, T.nLeast_number, lk2 (by decide +kernel), hq⟩
    | apart g g' n => exact ifF rfl ⟨_, rfl, p, _, dx, _, _, rfl, h1, T.lApart, T.nApart_number, lk3 (by decide +kernel) (by decide +kernel), hq⟩
theorem okloadL (T : Tx K mg) : FnOk P w K mg base CX0 2 T.aload T.dload ["lot", "jar"] (sploadOf T fun H a us => H a = some (.lst us)) := by
  refine T.fload.ok scload (fun vs H Q E h => ?_) (fun cdv A outer s H vs Q E hr h => ?_)
  · obtain ⟨l, us, bs, j, rfl, _⟩ := h
    rfl
  · obtain ⟨l, us, bs, j, rfl, hS, hA, l60, hq⟩ := h
    refine ⟨_, (pss_one (ps_ret (pe_callB (cr_sum rfl) rfl T.nsum (by decide +kernel) (pa_cons (pe_lc (own := [("bound", 2)]) rfl scload.nd (pi_list (pv 0)) (blkOk_by (own := [("bound", 2)]) (N := ["lot", "jar", "bound"]) (sc := defScope sload) (by decide +kernel)) (fun _ _ _ _ _ => (pg_name (i := 2) scload.nd rfl (by first | exact Or.inl rfl | exact Or.inr rfl))) (fun _ _ _ _ _ => pts_nil) (fun _ _ _ _ _ => (pe_call (okloadof T) (hr.mono (by decide)) rfl T.gloadof T.floadof.kp T.bloadof .nil pass0 (pa_cons (pv 2) (pa_cons (pv 1) pa_nil))))) pa_nil)))), ?_⟩
    refine ⟨_, rfl, l, rfl, ⟨_, SqL.of hS⟩, fun D1 hD1 => ?_⟩
    refine lc_list (K := K) (a := l) (xs := us) (fun i H' => H' D1 = some (.lst (vi ((bs.take i).map (Bd.load j)))) ∧ Same H H') ⟨upd_same, same_new hD1⟩ (fun i H' _ h => h.2.seq (SqL.of hS)) ?_ ?_
    · rintro i y H' hi ⟨g, sm⟩
      obtain ⟨b, hb, hy⟩ := hA.get hi
      refine ⟨rfl, _, rfl, _, rfl, y, b, j, rfl, hy.same sm, _, g, Nat.lt_of_lt_of_le (by rw [List.length_map, List.length_map, List.length_take]; omega : _ < 100) (by decide), ?_, same_mut sm hD1⟩
      rw [upd_same, List.take_add_one, hb]
      simp [vi]
    · rintro H' ⟨g, sm⟩
      rw [hA.len, List.take_length] at g
      exact ⟨D1, _, rfl, SqL.of g, hq _ sm⟩
theorem okloadT (T : Tx K mg) : FnOk P w K mg base CX0 2 T.aload T.dload ["lot", "jar"] (sploadOf T fun H a us => H a = some (.tup us)) := by
  refine T.fload.ok scload (fun vs H Q E h => ?_) (fun cdv A outer s H vs Q E hr h => ?_)
  · obtain ⟨l, us, bs, j, rfl, _⟩ := h
    rfl
  · obtain ⟨l, us, bs, j, rfl, hS, hA, l60, hq⟩ := h
    refine ⟨_, (pss_one (ps_ret (pe_callB (cr_sum rfl) rfl T.nsum (by decide +kernel) (pa_cons (pe_lc (own := [("bound", 2)]) rfl scload.nd (pi_tup (pv 0)) (blkOk_by (own := [("bound", 2)]) (N := ["lot", "jar", "bound"]) (sc := defScope sload) (by decide +kernel)) (fun _ _ _ _ _ => (pg_name (i := 2) scload.nd rfl (by first | exact Or.inl rfl | exact Or.inr rfl))) (fun _ _ _ _ _ => pts_nil) (fun _ _ _ _ _ => (pe_call (okloadof T) (hr.mono (by decide)) rfl T.gloadof T.floadof.kp T.bloadof .nil pass0 (pa_cons (pv 2) (pa_cons (pv 1) pa_nil))))) pa_nil)))), ?_⟩
    refine ⟨_, rfl, l, rfl, ⟨_, SqT.of hS⟩, fun D1 hD1 => ?_⟩
    refine lc_tup (K := K) (a := l) (xs := us) (fun i H' => H' D1 = some (.lst (vi ((bs.take i).map (Bd.load j)))) ∧ Same H H') ⟨upd_same, same_new hD1⟩ (fun i H' _ h => (SqT.ext (SqT.of hS) fun b o q => h.2 b o q)) ?_ ?_
    · rintro i y H' hi ⟨g, sm⟩
      obtain ⟨b, hb, hy⟩ := hA.get hi
      refine ⟨rfl, _, rfl, _, rfl, y, b, j, rfl, hy.same sm, _, g, Nat.lt_of_lt_of_le (by rw [List.length_map, List.length_map, List.length_take]; omega : _ < 100) (by decide), ?_, same_mut sm hD1⟩
      rw [upd_same, List.take_add_one, hb]
      simp [vi]
    · rintro H' ⟨g, sm⟩
      rw [hA.len, List.take_length] at g
      exact ⟨D1, _, rfl, SqL.of g, hq _ sm⟩
theorem okload (T : Tx K mg) : FnOk P w K mg base CX0 2 T.aload T.dload ["lot", "jar"] (spload T) := FnOk.or (okloadL T) (okloadT T) fun vs H Q E h => by
  obtain ⟨l, us, bs, j, e, hS, r⟩ := h
  exact hS.elim (fun k => .inl ⟨l, us, bs, j, e, k, r⟩) fun k => .inr ⟨l, us, bs, j, e, k, r⟩
theorem okworthL (T : Tx K mg) : FnOk P w K mg base CX0 2 T.aworth T.dworth ["lot"] (spworthOf T fun H a us => H a = some (.lst us)) := by
  refine T.fworth.ok scworth (fun vs H Q E h => ?_) (fun cdv A outer s H vs Q E hr h => ?_)
  · obtain ⟨l, us, bs, rfl, _⟩ := h
    rfl
  · obtain ⟨l, us, bs, rfl, hS, hA, l60, hq⟩ := h
    refine ⟨_, (pss_one (ps_ret (pe_callB (cr_sum rfl) rfl T.nsum (by decide +kernel) (pa_cons (pe_lc (own := [("bound", 1)]) rfl scworth.nd (pi_list (pv 0)) (blkOk_by (own := [("bound", 1)]) (N := ["lot", "bound"]) (sc := defScope sworth) (by decide +kernel)) (fun _ _ _ _ _ => (pg_name (i := 1) scworth.nd rfl (by first | exact Or.inl rfl | exact Or.inr rfl))) (fun _ _ _ _ _ => pts_nil) (fun _ _ _ _ _ => (pe_call (okworthof T) (hr.mono (by decide)) rfl T.gworthof T.fworthof.kp T.bworthof .nil pass0 (pa_cons (pv 1) pa_nil)))) pa_nil)))), ?_⟩
    refine ⟨_, rfl, l, rfl, ⟨_, SqL.of hS⟩, fun D1 hD1 => ?_⟩
    refine lc_list (K := K) (a := l) (xs := us) (fun i H' => H' D1 = some (.lst (vi ((bs.take i).map Bd.worth))) ∧ Same H H') ⟨upd_same, same_new hD1⟩ (fun i H' _ h => h.2.seq (SqL.of hS)) ?_ ?_
    · rintro i y H' hi ⟨g, sm⟩
      obtain ⟨b, hb, hy⟩ := hA.get hi
      refine ⟨rfl, _, rfl, y, b, rfl, hy.same sm, _, g, Nat.lt_of_lt_of_le (by rw [List.length_map, List.length_map, List.length_take]; omega : _ < 100) (by decide), ?_, same_mut sm hD1⟩
      rw [upd_same, List.take_add_one, hb]
      simp [vi]
    · rintro H' ⟨g, sm⟩
      rw [hA.len, List.take_length] at g
      exact ⟨D1, _, rfl, SqL.of g, hq _ sm⟩
theorem okworthT (T : Tx K mg) : FnOk P w K mg base CX0 2 T.aworth T.dworth ["lot"] (spworthOf T fun H a us => H a = some (.tup us)) := by
  refine T.fworth.ok scworth (fun vs H Q E h => ?_) (fun cdv A outer s H vs Q E hr h => ?_)
  · obtain ⟨l, us, bs, rfl, _⟩ := h
    rfl
  · obtain ⟨l, us, bs, rfl, hS, hA, l60, hq⟩ := h
    refine ⟨_, (pss_one (ps_ret (pe_callB (cr_sum rfl) rfl T.nsum (by decide +kernel) (pa_cons (pe_lc (own := [("bound", 1)]) rfl scworth.nd (pi_tup (pv 0)) (blkOk_by (own := [("bound", 1)]) (N := ["lot", "bound"]) (sc := defScope sworth) (by decide +kernel)) (fun _ _ _ _ _ => (pg_name (i := 1) scworth.nd rfl (by first | exact Or.inl rfl | exact Or.inr rfl))) (fun _ _ _ _ _ => pts_nil) (fun _ _ _ _ _ => (pe_call (okworthof T) (hr.mono (by decide)) rfl T.gworthof T.fworthof.kp T.bworthof .nil pass0 (pa_cons (pv 1) pa_nil)))) pa_nil)))), ?_⟩
    refine ⟨_, rfl, l, rfl, ⟨_, SqT.of hS⟩, fun D1 hD1 => ?_⟩
    refine lc_tup (K := K) (a := l) (xs := us) (fun i H' => H' D1 = some (.lst (vi ((bs.take i).map Bd.worth))) ∧ Same H H') ⟨upd_same, same_new hD1⟩ (fun i H' _ h => (SqT.ext (SqT.of hS) fun b o q => h.2 b o q)) ?_ ?_
    · rintro i y H' hi ⟨g, sm⟩
      obtain ⟨b, hb, hy⟩ := hA.get hi
      refine ⟨rfl, _, rfl, y, b, rfl, hy.same sm, _, g, Nat.lt_of_lt_of_le (by rw [List.length_map, List.length_map, List.length_take]; omega : _ < 100) (by decide), ?_, same_mut sm hD1⟩
      rw [upd_same, List.take_add_one, hb]
      simp [vi]
    · rintro H' ⟨g, sm⟩
      rw [hA.len, List.take_length] at g
      exact ⟨D1, _, rfl, SqL.of g, hq _ sm⟩
theorem okworth (T : Tx K mg) : FnOk P w K mg base CX0 2 T.aworth T.dworth ["lot"] (spworth T) := FnOk.or (okworthL T) (okworthT T) fun vs H Q E h => by
  obtain ⟨l, us, bs, e, hS, r⟩ := h
  exact hS.elim (fun k => .inl ⟨l, us, bs, e, k, r⟩) fun k => .inr ⟨l, us, bs, e, k, r⟩
end
end Kp

namespace Kp
open PySem PySem.Spec PyProof.Rows L2 KpR
theorem one01 (c : Bool) : -2 ^ 64 < (if c = true then (1 : Int) else 0) ∧ (if c = true then (1 : Int) else 0) < 2 ^ 64 := by
  cases c <;> decide
def StateAt (H : Hp) (s : Addr) : Prop := ∃ x y z : Int, H s = some (.lst [.int x, .int y, .int z]) ∧ 0 ≤ y ∧ y ≤ 4294967296
theorem StateAt.ex {H : Hp} {s : Addr} (h : StateAt H s) : ∃ u, H s = some u ∧ Blank u := by
  obtain ⟨a, b, c, q, _⟩ := h
  exact ⟨_, q, bl_l⟩
theorem StateAt.new {H : Hp} {w p : Addr} {o : HO} (h : StateAt H w) (n : H p = none) : StateAt (upd H p o) w := by
  obtain ⟨a, b, c, q, r⟩ := h
  exact ⟨a, b, c, (same_new n) _ _ q, r⟩
theorem StateAt.ne {H : Hp} {w p : Addr} (h : StateAt H w) (n : H p = none) : p ≠ w := fun z => by
  obtain ⟨a, b, c, q, r⟩ := h
  rw [← z, n] at q
  cases q
theorem StateAt.mut {H : Hp} {w p : Addr} {o : HO} (h : StateAt H w) (n : p ≠ w) : StateAt (upd H p o) w := by
  obtain ⟨a, b, c, q, r⟩ := h
  exact ⟨a, b, c, by rw [upd_ne n.symm]; exact q, r⟩
theorem StateAt.same {H H' : Hp} {w : Addr} (h : StateAt H w) (e : Same H H') : StateAt H' w := by
  obtain ⟨a, b, c, q, r⟩ := h
  exact ⟨a, b, c, e _ _ q, r⟩
section
variable {K : PySem.W.Frag} {H : Hp}
theorem pickL {l : Addr} {xs : List Int} {n : Nat} {Q : VK} (h : SqL K H l (vi xs)) (hn : n < xs.length) (q : Q (.int (at0 xs n)) H) : rIxL K (.ref l) (.int n) H Q := ⟨l, _, _, _, rfl, rfl, h, vi_at hn, q⟩
end
section
variable {K : PySem.W.Frag} {mg : Str → Option Value}
def spLstate (T : Tx K mg) : Sp := fun vs H Q _ => ∃ n : Int, vs = [.int n] ∧ ∀ (H' : Hp) (p : Addr), H p = none → StateAt H' p → Same H H' → Q (.ref p) H'
def spLdigit (T : Tx K mg) : Sp := fun vs H Q _ => ∃ (s : Addr) (m : Int), vs = [.ref s, .int m] ∧ StateAt H s ∧ 1 ≤ m ∧ m < 2 ^ 100 ∧ ∀ (H' : Hp) (v : Nat), (v : Int) < m → StateAt H' s → Fr s H H' → Q (.int v) H'
def spLgroup (T : Tx K mg) : Sp := fun vs H Q _ => ∃ (s : Addr) (j : Nat), vs = [.ref s, .int j] ∧ StateAt H s ∧ j ≤ 6 ∧ ∀ (H' : Hp) (p : Addr) (g : List Int), H p = none → H' p = some (.tup (vi g)) → Grp g → StateAt H' s → Fr s H H' → Q (.ref p) H'
def spLnumber (T : Tx K mg) : Sp := fun vs H Q _ => ∃ s : Addr, vs = [.ref s] ∧ StateAt H s ∧ ∀ (H' : Hp) (n : Int), StateAt H' s → Fr s H H' → Q (.int n) H'
def spLfacts (T : Tx K mg) : Sp := fun vs H Q _ => ∃ (s : Addr) (j : Nat), vs = [.ref s, .int j] ∧ StateAt H s ∧ j ≤ 6 ∧ ∀ (H' : Hp) (p : Addr) (b : Bd), H p = none → FactAt H' (.ref p) b → b.Ok → StateAt H' s → Fr s H H' → Q (.ref p) H'
def spLmade (T : Tx K mg) : Sp := fun vs H Q _ => ∃ (v : V) (b : Bd), vs = [v] ∧ FactAt H v b ∧ b.Ok ∧ ∀ (H' : Hp) (p : Addr), H p = none → BoundAt T H' (.ref p) b → Same H H' → Q (.ref p) H'
end
section
variable {P : Program} {w : World} {K : PySem.W.Frag} {mg : Str → Option Value} {base : Heap}
theorem okLstate (T : Tx K mg) : FnOk P w K mg base CX0 1 T.aLstate T.dLstate ["_law_source"] (spLstate T) := by
  refine T.fLstate.ok scLstate (fun vs H Q E h => ?_) (fun cdv A outer s H vs Q E hr h => ?_)
  · obtain ⟨n, rfl, _⟩ := h
    rfl
  · obtain ⟨n, rfl, hq⟩ := h
    refine ⟨_, (pss_cons (ps_set (i := 0) scLstate.nd rfl (by first | exact Or.inl rfl | exact Or.inr rfl) (pe_callB call_abs rfl T.nabs (by decide +kernel) (pa_cons (pv 0) pa_nil)))
      (pss_one (ps_ret (pe_lst (pa_cons (pe_op op_mul (pv 0) (pe_callTy call_int1 rfl T.nint (by decide +kernel) (pa_cons (pe_cmpR op_ge (pv 0) (pe_op op_pow pe_int pe_int) (nomark _)) pa_nil))) (pa_cons (pe_op op_add (pe_op op_mod (pv 0) pe_int) pe_int) (pa_cons (pe_op op_mod (pv 0) pe_int) pa_nil))))))), ?_⟩
    refine ⟨_, rfl, n, rfl, ?_⟩
    refine ⟨_, rfl, _, rfl, _, _, rfl, rfl, ⟨by decide, by decide, by decide⟩, _, _, rfl, rfl, .inr ⟨_, rfl, _, _, rfl, rfl, .inr (one01 _), ?_⟩⟩
    refine ⟨_, rfl, _, _, rfl, rfl, (by show (0 : Int) < 2147483629; decide), _, _, rfl, rfl, _, rfl, _, _, rfl, rfl, (by show (0 : Int) < 2147483587; decide), (by show 3 ≤ sizeLine; decide), fun p hp => ?_⟩
    refine hq _ p hp ⟨_, _, _, upd_same, ?_, ?_⟩ (same_new hp)
    · have := Int.emod_nonneg (if n < 0 then -n else n) (show (2147483629 : Int) ≠ 0 by decide)
      omega
    · have := Int.emod_lt_of_pos (if n < 0 then -n else n) (show (0 : Int) < 2147483629 by decide)
      omega
theorem okLdigit (T : Tx K mg) : FnOk P w K mg base CX0 1 T.aLdigit T.dLdigit ["_law_state_here", "_law_base"] (spLdigit T) := by
  refine T.fLdigit.ok scLdigit (fun vs H Q E h => ?_) (fun cdv A outer s H vs Q E hr h => ?_)
  · obtain ⟨u, m, rfl, _⟩ := h
    rfl
  · obtain ⟨u, m, rfl, ⟨a, b, c, hw, b0, b1⟩, m1, m2, hq⟩ := h
    refine ⟨_, (pss_cons (ps_if (pt_cmpR op_gt (pe_ix (r := rIxL K) ix_list (pv 0) pe_int (fun _ _ => rfl)) pe_int (nomark _)) (pss_cons (ps_set (i := 2) scLdigit.nd rfl (by first | exact Or.inl rfl | exact Or.inr rfl) (pe_op op_mod (pe_ix (r := rIxL K) ix_list (pv 0) pe_int (fun _ _ => rfl)) (pv 1)))
      (pss_cons (ps_asg (pe_op op_fdivW (pe_ix (r := rIxL K) ix_list (pv 0) pe_int (fun _ _ => rfl)) (pv 1)) (pg_sub (pv 0) pe_int set_list))
      (pss_one (ps_ret (pv 2))))) pss_nil)
      (pss_cons (ps_set (i := 3) scLdigit.nd rfl (by first | exact Or.inl rfl | exact Or.inr rfl) (pe_op op_mul (pe_ix (r := rIxL K) ix_list (pv 0) pe_int (fun _ _ => rfl)) (pe_op op_add (pe_op op_fdivW (pe_ix (r := rIxL K) ix_list (pv 0) pe_int (fun _ _ => rfl)) pe_int) pe_int)))
      (pss_cons (ps_asg (pe_op op_add (pe_op op_mod (pe_op op_add (pv 3) (pe_ix (r := rIxL K) ix_list (pv 0) pe_int (fun _ _ => rfl))) pe_int) pe_int) (pg_sub (pv 0) pe_int set_list))
      (pss_one (ps_ret (pe_op op_mod (pe_op op_fdivW (pe_ix (r := rIxL K) ix_list (pv 0) pe_int (fun _ _ => rfl)) pe_int) (pv 1))))))), ?_⟩
    have wd : CDivW a m := wide_div (b := 100) (by omega) (by omega) (by decide) (by decide)
    have back : ∀ (x : Int) (H' : Hp), StateAt H' u → Fr u H H' → Q (.int (x % m)) H' := fun x H' h1 h2 => by
      have q0 := Int.emod_nonneg x (show m ≠ 0 by omega)
      have q1 := Int.emod_lt_of_pos x (show 0 < m by omega)
      have e : x % m = ((x % m).toNat : Int) := by omega
      rw [e]
      exact hq H' _ (by omega) h1 h2
    refine ⟨_, rfl, u, _, _, _, rfl, rfl, SqL.of hw, rfl, _, _, rfl, rfl, _, rfl, ifD (fun _ => ?_) (fun _ => ?_)⟩
    · refine ⟨_, rfl, u, _, _, _, rfl, rfl, SqL.of hw, rfl, _, rfl, _, _, rfl, rfl, (by show 0 < m; omega), ?_⟩
      refine ⟨_, rfl, u, _, _, _, rfl, rfl, SqL.of hw, rfl, _, rfl, _, _, rfl, rfl, wd, _, rfl, u, _, _, 0, rfl, rfl, hw, rfl, _, rfl, ?_⟩
      exact back a _ ⟨_, _, _, upd_same, b0, b1⟩ (fr_mut (Fr.refl _ _))
    · refine ⟨_, rfl, u, _, _, _, rfl, rfl, SqL.of hw, rfl, _, rfl, u, _, _, _, rfl, rfl, SqL.of hw, rfl, _, _, rfl, rfl, ⟨by decide, by decide⟩, _, _, rfl, rfl, _, _, rfl, rfl, .inl ⟨by omega, by omega⟩, ?_⟩
      refine ⟨_, rfl, _, rfl, u, _, _, _, rfl, rfl, SqL.of hw, rfl, _, _, rfl, rfl, _, _, rfl, rfl, (by show (0 : Int) < 2147483629; decide), _, _, rfl, rfl, _, rfl, u, _, _, 1, rfl, rfl, hw, rfl, ?_⟩
      refine ⟨_, rfl, u, _, _, _, rfl, rfl, SqL.of upd_same, rfl, _, _, rfl, rfl, ⟨by decide, by decide⟩, _, rfl, _, _, rfl, rfl, (by show 0 < m; omega), ?_⟩
      refine back _ _ ⟨_, _, _, upd_same, ?_, ?_⟩ (fr_mut (Fr.refl _ _))
      · have := Int.emod_nonneg (b * (b / 1009 + 69621) + c) (show (2147483629 : Int) ≠ 0 by decide)
        omega
      · have := Int.emod_lt_of_pos (b * (b / 1009 + 69621) + c) (show (0 : Int) < 2147483629 by decide)
        omega
theorem okLgroup (T : Tx K mg) : FnOk P w K mg base CX0 2 T.aLgroup T.dLgroup ["_law_s", "_law_jars"] (spLgroup T) := by
  refine T.fLgroup.ok scLgroup (fun vs H Q E h => ?_) (fun cdv A outer s H vs Q E hr h => ?_)
  · obtain ⟨s, j, rfl, _⟩ := h
    rfl
  · obtain ⟨s, j, rfl, hs, j6, hq⟩ := h
    refine ⟨_, (pss_one (ps_ret (pe_callTy call_tuple_of rfl T.ntuple (by decide +kernel) (pa_cons (pe_lc (own := [("_law_jar", 2)]) rfl scLgroup.nd (pi_range1 rfl T.nrange (pa_cons (pv 1) pa_nil)) (blkOk_by (own := [("_law_jar", 2)]) (N := ["_law_s", "_law_jars", "_law_jar"]) (sc := defScope sLgroup) (by decide +kernel)) (fun _ _ _ _ _ => (pg_name (i := 2) scLgroup.nd rfl (by first | exact Or.inl rfl | exact Or.inr rfl))) (fun _ _ _ _ _ => (pts_one (pt_cmpR op_eq (pe_call (okLdigit T) (hr.mono (by decide)) rfl T.gLdigit T.fLdigit.kp T.bLdigit .nil pass0 (pa_cons (pv 0) (pa_cons pe_int pa_nil))) pe_int (nomark _)))) (fun _ _ _ _ _ => (pv 2))) pa_nil)))), ?_⟩
    refine ⟨_, rfl, j, rfl, by omega, by omega, fun D1 hD1 => ?_⟩
    have Ds := hs.ne hD1
    refine lc_range (lo := 0) (n := (j : Int).toNat) (fun i H' => ∃ g : List Int, H' D1 = some (.lst (vi g)) ∧ g.Pairwise (· < ·) ∧ (∀ z ∈ g, z < (i : Int)) ∧ g.length ≤ i ∧ StateAt H' s ∧ Fr s H H') ⟨[], upd_same, List.Pairwise.nil, (fun z h => by cases h), Nat.le_refl _, hs.new hD1, Fr.of (same_new hD1)⟩ ?_ ?_
    · rintro i H' hi ⟨g, g1, g2, g3, g4, s1, f1⟩
      refine ⟨rfl, ?_⟩
      refine ⟨_, rfl, s, 2, rfl, s1, by decide, by decide, fun H2 v lv s2 f2 => ⟨rfl, _, rfl, ?_⟩⟩
      have gD := f2 _ _ Ds g1
      by_cases hv : V.int (v : Int) = V.int 0
      · refine ifT (decide_eq_true hv) ⟨_, rfl, _, gD, Nat.lt_of_lt_of_le (by rw [List.length_map]; omega : _ < 100) (by decide), g ++ [0 + (i : Int)], ?_, ?_, ?_, ?_, s2.mut Ds, fr_new (f1.trans f2) hD1⟩
        · rw [upd_same]
          simp [vi]
        · refine List.pairwise_append.mpr ⟨g2, by simp, fun x hx y hy => ?_⟩
          obtain rfl : y = 0 + (i : Int) := by simpa using hy
          have := g3 x hx
          omega
        · intro z hz
          rcases List.mem_append.mp hz with h | h
          · have := g3 z h
            omega
          · obtain rfl : z = 0 + (i : Int) := by simpa using h
            omega
        · rw [List.length_append]
          show g.length + 1 ≤ i + 1
          omega
      · refine ifF (decide_eq_false hv) ⟨g, gD, g2, fun z hz => ?_, by omega, s2, f1.trans f2⟩
        have := g3 z hz
        omega
    · rintro H' ⟨g, g1, g2, g3, g4, s1, f1⟩
      refine ⟨D1, _, rfl, .inl ⟨SqL.of g1, fun t ht => ?_⟩⟩
      refine hq _ t g (fr_free f1 (s1.ne ht) ht) upd_same ⟨g2, by omega⟩ (s1.new ht) (f1.trans (Fr.of (same_new ht)))
theorem okLnumber (T : Tx K mg) : FnOk P w K mg base CX0 2 T.aLnumber T.dLnumber ["_law_s"] (spLnumber T) := by
  refine T.fLnumber.ok scLnumber (fun vs H Q E h => ?_) (fun cdv A outer s H vs Q E hr h => ?_)
  · obtain ⟨s, rfl, _⟩ := h
    rfl
  · obtain ⟨s, rfl, hs, hq⟩ := h
    refine ⟨_, (pss_one (ps_ret (pe_ix (r := rIxL K) ix_list (pe_lst (pa_cons (pe_call (okLdigit T) (hr.mono (by decide)) rfl T.gLdigit T.fLdigit.kp T.bLdigit .nil pass0 (pa_cons (pv 0) (pa_cons pe_int pa_nil))) (pa_cons (pe_op op_sub pe_int (pe_call (okLdigit T) (hr.mono (by decide)) rfl T.gLdigit T.fLdigit.kp T.bLdigit .nil pass0 (pa_cons (pv 0) (pa_cons pe_int pa_nil)))) (pa_cons (pe_op op_add (pe_op op_pow pe_int pe_int) (pe_call (okLdigit T) (hr.mono (by decide)) rfl T.gLdigit T.fLdigit.kp T.bLdigit .nil pass0 (pa_cons (pv 0) (pa_cons pe_int pa_nil)))) (pa_cons (pe_call (okLdigit T) (hr.mono (by decide)) rfl T.gLdigit T.fLdigit.kp T.bLdigit .nil pass0 (pa_cons (pv 0) (pa_cons pe_int pa_nil))) pa_nil))))) (pe_call (okLdigit T) (hr.mono (by decide)) rfl T.gLdigit T.fLdigit.kp T.bLdigit .nil pass0 (pa_cons (pv 0) (pa_cons pe_int pa_nil))) (fun _ _ => rfl)))), ?_⟩
    refine ⟨_, rfl, s, 9, rfl, hs, by decide, by decide, fun H1 a la s1 f1 => ?_⟩
    refine ⟨_, rfl, s, 5, rfl, s1, by decide, by decide, fun H2 b lb s2 f2 => ⟨_, _, rfl, rfl, ?_⟩⟩
    refine ⟨_, _, rfl, rfl, ⟨by decide, by decide, by decide⟩, _, rfl, s, 7, rfl, s2, by decide, by decide, fun H3 c lc s3 f3 => ⟨_, _, rfl, rfl, ?_⟩⟩
    refine ⟨_, rfl, s, 40, rfl, s3, by decide, by decide, fun H4 d ld s4 f4 => ⟨(by show 4 ≤ sizeLine; decide), fun l hl => ?_⟩⟩
    have ls := s4.ne hl
    refine ⟨_, rfl, s, 4, rfl, s4.new hl, by decide, by decide, fun H5 k lk s5 f5 => ?_⟩
    refine pickL (xs := [(a : Int), 0 - (b : Int), 10 ^ (12 : Int).toNat + (c : Int), (d : Int)]) (SqL.of (f5 _ _ ls upd_same)) (by show k < 4; omega) ?_
    exact hq _ _ s5 (((f1.trans f2).trans (f3.trans f4)).trans ((Fr.of (same_new hl)).trans f5))
end
end Kp

namespace Kp
open PySem PySem.Spec PyProof.Rows L2 KpR
section
variable {P : Program} {w : World} {K : PySem.W.Frag} {mg : Str → Option Value} {base : Heap}
theorem okLfacts (T : Tx K mg) : FnOk P w K mg base CX0 3 T.aLfacts T.dLfacts ["_law_s", "_law_jars"] (spLfacts T) := by
  refine T.fLfacts.ok scLfacts (fun vs H Q E h => ?_) (fun cdv A outer s H vs Q E hr h => ?_)
  · obtain ⟨s, j, rfl, _⟩ := h
    rfl
  · obtain ⟨s, j, rfl, hs, j6, hq⟩ := h
    refine ⟨_, (pss_cons (ps_set (i := 2) scLfacts.nd rfl (by first | exact Or.inl rfl | exact Or.inr rfl) (pe_ix (r := rIxL K) ix_list (pe_lst (pa_cons pe_str (pa_cons pe_str (pa_cons pe_str pa_nil)))) (pe_call (okLdigit T) (hr.mono (by decide)) rfl T.gLdigit T.fLdigit.kp T.bLdigit .nil pass0 (pa_cons (pv 0) (pa_cons pe_int pa_nil))) (fun _ _ => rfl)))
      (pss_cons (ps_if (pt_cmpR op_eq (pv 2) pe_str (nomark _)) (pss_one (ps_ret (pe_tup (pa_cons (pv 2) (pa_cons (pe_call (okLgroup T) (hr.mono (by decide)) rfl T.gLgroup T.fLgroup.kp T.bLgroup .nil pass0 (pa_cons (pv 0) (pa_cons (pv 1) pa_nil))) (pa_cons (pe_call (okLgroup T) (hr.mono (by decide)) rfl T.gLgroup T.fLgroup.kp T.bLgroup .nil pass0 (pa_cons (pv 0) (pa_cons (pv 1) pa_nil))) (pa_cons (pe_call (okLnumber T) (hr.mono (by decide)) rfl T.gLnumber T.fLnumber.kp T.bLnumber .nil pass0 (pa_cons (pv 0) pa_nil)) pa_nil))))))) pss_nil)
      (pss_one (ps_ret (pe_tup (pa_cons (pv 2) (pa_cons (pe_call (okLgroup T) (hr.mono (by decide)) rfl T.gLgroup T.fLgroup.kp T.bLgroup .nil pass0 (pa_cons (pv 0) (pa_cons (pv 1) pa_nil))) (pa_cons (pe_call (okLnumber T) (hr.mono (by decide)) rfl T.gLnumber T.fLnumber.kp T.bLnumber .nil pass0 (pa_cons (pv 0) pa_nil)) pa_nil)))))))), ?_⟩
    refine ⟨(by show 3 ≤ sizeLine; decide), fun l hl => ?_⟩
    have ls := hs.ne hl
    refine ⟨_, rfl, s, 3, rfl, hs.new hl, by decide, by decide, fun H1 k lk s1 f1 => ?_⟩
    have sl := same_new (o := HO.lst [V.str "most", V.str "least", V.str "apart"]) hl
    have gl := f1 _ _ ls upd_same
    have f01 : Fr s H H1 := (Fr.of sl).trans f1
    have k3 : k = 0 ∨ k = 1 ∨ k = 2 := by omega
    have fin3 : ∀ {w0 : Str} {mk : List Int → Int → Bd}, (∀ g n, (mk g n).gs = g ∧ (mk g n).hs = g ∧ ∀ t u, (mk g n).tp t u = [.str w0, t, .int n]) → ∀ (H2 : Hp) (t : Addr) (g : List Int) (H3 : Hp) (n : Int) (p : Addr), H1 t = none → H2 t = some (.tup (vi g)) → Grp g → Fr s H1 H2 → Fr s H2 H3 → StateAt H3 s → H3 p = none →
        Q (.ref p) (upd H3 p (.tup [.str w0, .ref t, .int n])) := fun {w0 mk} hm H2 t g H3 n p ht0 ht hg f2 f3 s3 hp => by
      have ts : t ≠ s := s1.ne ht0
      have fA := (f01.trans f2).trans f3
      refine hq _ p (mk g n) (fr_free fA (s3.ne hp) hp) ⟨p, t, t, rfl, ?_, ?_, ?_⟩ ⟨?_, ?_, ?_, ?_⟩ (s3.new hp) (fA.trans (Fr.of (same_new hp)))
      · rw [upd_same, (hm g n).2.2]
      · rw [(hm g n).1]
        exact (same_new hp) _ _ (f3 _ _ ts ht)
      · rw [(hm g n).2.1]
        exact (same_new hp) _ _ (f3 _ _ ts ht)
      · rw [(hm g n).1]; exact hg.up
      · rw [(hm g n).2.1]; exact hg.up
      · rw [(hm g n).1]; exact hg.len
      · rw [(hm g n).2.1]; exact hg.len
    rcases k3 with rfl | rfl | rfl
    · refine ⟨l, _, _, _, rfl, rfl, SqL.of gl, rfl, ?_⟩
      refine ⟨_, rfl, rfl, _, rfl, ifF (show decide (V.str "most" = V.str "apart") = false by decide +kernel) ?_⟩
      refine ⟨_, rfl, _, rfl, _, rfl, s, j, rfl, s1, j6, fun H2 t g ht0 ht hg s2 f2 => ⟨_, rfl, s, rfl, s2, fun H3 n s3 f3 => ⟨(by show 3 ≤ sizeLine; decide), fun p hp => ?_⟩⟩⟩
      exact fin3 (mk := Bd.most) (fun _ _ => ⟨rfl, rfl, fun _ _ => rfl⟩) H2 t g H3 n p ht0 ht hg f2 f3 s3 hp
    · refine ⟨l, _, _, _, rfl, rfl, SqL.of gl, rfl, ?_⟩
      refine ⟨_, rfl, rfl, _, rfl, ifF (show decide (V.str "least" = V.str "apart") = false by decide +kernel) ?_⟩
      refine ⟨_, rfl, _, rfl, _, rfl, s, j, rfl, s1, j6, fun H2 t g ht0 ht hg s2 f2 => ⟨_, rfl, s, rfl, s2, fun H3 n s3 f3 => ⟨(by show 3 ≤ sizeLine; decide), fun p hp => ?_⟩⟩⟩
      exact fin3 (mk := Bd.least) (fun _ _ => ⟨rfl, rfl, fun _ _ => rfl⟩) H2 t g H3 n p ht0 ht hg f2 f3 s3 hp
    · refine ⟨l, _, _, _, rfl, rfl, SqL.of gl, rfl, ?_⟩
      refine ⟨_, rfl, rfl, _, rfl, ifT (show decide (V.str "apart" = V.str "apart") = true by decide +kernel) ?_⟩
      refine ⟨_, rfl, _, rfl, _, rfl, s, j, rfl, s1, j6, fun H2 t g ht0 ht hg s2 f2 => ?_⟩
      refine ⟨_, rfl, _, rfl, s, j, rfl, s2, j6, fun H3 u h hu0 hu hh s3 f3 => ?_⟩
      refine ⟨_, rfl, s, rfl, s3, fun H4 n s4 f4 => ⟨(by show 4 ≤ sizeLine; decide), fun p hp => ?_⟩⟩
      have ts : t ≠ s := s1.ne ht0
      have us : u ≠ s := s2.ne hu0
      have fA := ((f01.trans f2).trans f3).trans f4
      refine hq _ p (.apart g h n) (fr_free fA (s4.ne hp) hp) ⟨p, t, u, rfl, upd_same, (same_new hp) _ _ (f4 _ _ ts (f3 _ _ ts ht)), (same_new hp) _ _ (f4 _ _ us hu)⟩ ⟨hg.up, hh.up, hg.len, hh.len⟩ (s4.new hp) (fA.trans (Fr.of (same_new hp)))
theorem okLmade (T : Tx K mg) : FnOk P w K mg base CX0 3 T.aLmade T.dLmade ["_law_facts_here"] (spLmade T) := by
  refine T.fLmade.ok scLmade (fun vs H Q E h => ?_) (fun cdv A outer s H vs Q E hr h => ?_)
  · obtain ⟨v, b, rfl, _⟩ := h
    rfl
  · obtain ⟨v, b, rfl, ⟨p, t, u, rfl, hp, ht, hu⟩, hb, hq⟩ := h
    refine ⟨_, (pss_cons (ps_if (pt_cmpR op_eq (pe_ix (r := rIxT K) ix_tup (pv 0) pe_int (fun _ _ => rfl)) pe_str (nomark _)) (pss_one (ps_ret (pe_make T.kMost (okMostInit T) (hr.mono (by decide)) rfl T.mMost T.bMostInit .nil pass0 (pa_cons (pe_ix (r := rIxT K) ix_tup (pv 0) pe_int (fun _ _ => rfl)) (pa_cons (pe_ix (r := rIxT K) ix_tup (pv 0) pe_int (fun _ _ => rfl)) pa_nil))))) pss_nil)
      (pss_cons (ps_if (pt_cmpR op_eq (pe_ix (r := rIxT K) ix_tup (pv 0) pe_int (fun _ _ => rfl)) pe_str (nomark _)) (pss_one (ps_ret (pe_make T.kLeast (okLeastInit T) (hr.mono (by decide)) rfl T.mLeast T.bLeastInit .nil pass0 (pa_cons (pe_ix (r := rIxT K) ix_tup (pv 0) pe_int (fun _ _ => rfl)) (pa_cons (pe_ix (r := rIxT K) ix_tup (pv 0) pe_int (fun _ _ => rfl)) pa_nil))))) pss_nil)
      (pss_one (ps_ret (pe_make T.kApart (okApartInit T) (hr.mono (by decide)) rfl T.mApart T.bApartInit .nil pass0 (pa_cons (pe_ix (r := rIxT K) ix_tup (pv 0) pe_int (fun _ _ => rfl)) (pa_cons (pe_ix (r := rIxT K) ix_tup (pv 0) pe_int (fun _ _ => rfl)) (pa_cons (pe_ix (r := rIxT K) ix_tup (pv 0) pe_int (fun _ _ => rfl)) pa_nil)))))))), ?_⟩
    have G1 : Grp b.gs := ⟨hb.g, hb.lg⟩
    have G2 : Grp b.hs := ⟨hb.h, hb.lh⟩
    cases b with
    | most g n =>
      refine ⟨_, rfl, p, _, _, _, rfl, rfl, SqT.of hp, rfl, rfl, _, rfl, ifT (show decide (V.str "most" = V.str "most") = true by decide +kernel) ?_⟩
      refine ⟨_, rfl, p, _, _, _, rfl, rfl, SqT.of hp, rfl, _, rfl, p, _, _, _, rfl, rfl, SqT.of hp, rfl, fun x dx hx hdx ne => ?_⟩
      have s1 : Same H (upd (upd H dx (.own x)) x (.ins T.cMost dx [])) := (same_new hdx).trans (same_new (by rw [upd_ne ne.symm]; exact hx))
      refine ⟨x, dx, t, g, n, rfl, upd_same, .inr (s1 _ _ ht), G1, fun H1 t1 h1 h2 fr => ⟨rfl, ?_⟩⟩
      exact hq _ x hx ⟨x, dx, t1, t1, rfl, h1, h2, h2⟩ (made_same hx hdx fr)
    | least g n =>
      refine ⟨_, rfl, p, _, _, _, rfl, rfl, SqT.of hp, rfl, rfl, _, rfl, ifF (show decide (V.str "least" = V.str "most") = false by decide +kernel) ?_⟩
      refine ⟨_, rfl, p, _, _, _, rfl, rfl, SqT.of hp, rfl, rfl, _, rfl, ifT (show decide (V.str "least" = V.str "least") = true by decide +kernel) ?_⟩
      refine ⟨_, rfl, p, _, _, _, rfl, rfl, SqT.of hp, rfl, _, rfl, p, _, _, _, rfl, rfl, SqT.of hp, rfl, fun x dx hx hdx ne => ?_⟩
      have s1 : Same H (upd (upd H dx (.own x)) x (.ins T.cLeast dx [])) := (same_new hdx).trans (same_new (by rw [upd_ne ne.symm]; exact hx))
      refine ⟨x, dx, t, g, n, rfl, upd_same, .inr (s1 _ _ ht), G1, fun H1 t1 h1 h2 fr => ⟨rfl, ?_⟩⟩
      exact hq _ x hx ⟨x, dx, t1, t1, rfl, h1, h2, h2⟩ (made_same hx hdx fr)
    | apart g h n =>
      refine ⟨_, rfl, p, _, _, _, rfl, rfl, SqT.of hp, rfl, rfl, _, rfl, ifF (show decide (V.str "apart" = V.str "most") = false by decide +kernel) ?_⟩
      refine ⟨_, rfl, p, _, _, _, rfl, rfl, SqT.of hp, rfl, rfl, _, rfl, ifF (show decide (V.str "apart" = V.str "least") = false by decide +kernel) ?_⟩
      refine ⟨_, rfl, p, _, _, _, rfl, rfl, SqT.of hp, rfl, _, rfl, p, _, _, _, rfl, rfl, SqT.of hp, rfl, _, rfl, p, _, _, _, rfl, rfl, SqT.of hp, rfl, fun x dx hx hdx ne => ?_⟩
      have s1 : Same H (upd (upd H dx (.own x)) x (.ins T.cApart dx [])) := (same_new hdx).trans (same_new (by rw [upd_ne ne.symm]; exact hx))
      refine ⟨x, dx, t, u, g, h, n, rfl, upd_same, .inr (s1 _ _ ht), G1, .inr (s1 _ _ hu), G2, fun H1 t1 u1 h1 h2 h3 fr => ⟨rfl, ?_⟩⟩
      exact hq _ x hx ⟨x, dx, t1, u1, rfl, h1, h2, h3⟩ (made_same hx hdx fr)
end
end Kp

namespace Kp
open PySem PySem.Spec PyProof.Rows L2 KpR
def rTupOf (K : PySem.W.Frag) : List V → Hp → VK → Prop := fun xs H Q => ∃ p ys, xs = [V.ref p] ∧ ((SqL K H p ys ∧ ∀ l, H l = none → Q (.ref l) (upd H l (.tup ys))) ∨ (SqT K H p ys ∧ Q (.ref p) H))
theorem cut_take {xs : List V} {n : Nat} : cutV xs none (some (n : Int)) = xs.take n := by
  unfold cutV
  rw [HT.sIx_nat, HT.sIx_none, List.drop_zero, Nat.sub_zero]
  by_cases h : n ≤ xs.length
  · rw [Nat.min_eq_left h]
  · rw [Nat.min_eq_right (by omega), List.take_length, List.take_of_length_le (by omega)]
theorem cut_drop {xs : List V} {n : Nat} : cutV xs (some (n : Int)) none = xs.drop n := by
  unfold cutV
  rw [HT.sIx_nat, HT.sIx_none]
  by_cases h : n ≤ xs.length
  · rw [Nat.min_eq_left h]
    exact List.take_of_length_le (by rw [List.length_drop]; omega)
  · rw [Nat.min_eq_right (by omega), List.drop_eq_nil_of_le (by omega), List.drop_eq_nil_of_le (by omega), List.take_nil]
theorem cut_whole {xs : List V} {lo hi : Option Int} (h : HT.sIx xs.length 0 lo = 0 ∧ HT.sIx xs.length xs.length hi = xs.length) : cutV xs lo hi = xs := by
  unfold cutV
  rw [h.1, h.2, List.drop_zero, Nat.sub_zero, List.take_length]
section
variable {K : PySem.W.Frag}
theorem slA {H : Hp} {t : Addr} {xs : List V} {lo hi : Option Int} {Q : VK} (ht : H t = some (.tup xs)) (q : ∀ (p : Addr) (H' : Hp), Same H H' → H' p = some (.tup (cutV xs lo hi)) → Q (.ref p) H') : rSlA K (.ref t) lo hi H Q :=
  ⟨t, xs, rfl, SqT.of ht, fun w => q t H (Same.refl _) (by rw [ht, cut_whole w]), fun _ p hp => q p _ (same_new hp) upd_same⟩
end
/-! facts as data -/
def Bd.tl : Bd → List PyData
  | .most g n => [.tuple (pdI g), .int n]
  | .least g n => [.tuple (pdI g), .int n]
  | .apart g h n => [.tuple (pdI g), .tuple (pdI h), .int n]
def Bd.dat (b : Bd) : PyData := .tuple (.str b.word :: b.tl)
theorem tl_flat (b : Bd) : ∀ x ∈ b.tl, Flat 1 x := fun x hx => by
  cases b with
  | most g n =>
    rcases List.mem_cons.mp hx with rfl | hx
    · exact flat_t _
    · rcases List.mem_cons.mp hx with rfl | hx
      · exact Flat.int
      · cases hx
  | least g n =>
    rcases List.mem_cons.mp hx with rfl | hx
    · exact flat_t _
    · rcases List.mem_cons.mp hx with rfl | hx
      · exact Flat.int
      · cases hx
  | apart g h n =>
    rcases List.mem_cons.mp hx with rfl | hx
    · exact flat_t _
    · rcases List.mem_cons.mp hx with rfl | hx
      · exact flat_t _
      · rcases List.mem_cons.mp hx with rfl | hx
        · exact Flat.int
        · cases hx
theorem dat_flat (b : Bd) : Flat 2 b.dat := by
  have z : ∀ x ∈ PyData.str b.word :: b.tl, Flat 1 (id x) := fun x hx => ?_
  · have k := Flat.tup z
    rw [List.map_id] at k
    exact k
  rcases List.mem_cons.mp hx with rfl | hx
  · cases b with
    | most _ _ => exact Flat.str (by decide +kernel : (PyData.str "most").canLay0 = true)
    | least _ _ => exact Flat.str (by decide +kernel : (PyData.str "least").canLay0 = true)
    | apart _ _ _ => exact Flat.str (by decide +kernel : (PyData.str "apart").canLay0 = true)
  · exact tl_flat b x hx
theorem tl_self (b : Bd) : PyData.eqvAll b.tl b.tl = true := by
  cases b <;> simp [Bd.tl, PyData.eqvAll, PyData.eqv, eqv_i]
theorem dat_eqv (b c : Bd) : PyData.eqv b.dat c.dat = decide (b = c) := by
  have ww : ∀ {x y : Str} {l m : List PyData}, x ≠ y → PyData.eqv (.tuple (.str x :: l)) (.tuple (.str y :: m)) = false := fun {x y l m} h => by
    simp [PyData.eqv, PyData.eqvAll, h]
  have e2 : ∀ {w : Str} {g h : List Int} {n m : Int}, PyData.eqv (.tuple [.str w, .tuple (pdI g), .int n]) (.tuple [.str w, .tuple (pdI h), .int m]) = decide (g = h ∧ n = m) := fun {w g h n m} => by
    simp only [PyData.eqv, PyData.eqvAll, eqv_i, Bool.and_true, beq_self_eq_true, Bool.true_and]
    by_cases h1 : g = h <;> by_cases h2 : n = m <;> simp [h1, h2]
  have e3 : ∀ {w : Str} {g h g2 h2 : List Int} {n m : Int}, PyData.eqv (.tuple [.str w, .tuple (pdI g), .tuple (pdI h), .int n]) (.tuple [.str w, .tuple (pdI g2), .tuple (pdI h2), .int m]) = decide (g = g2 ∧ h = h2 ∧ n = m) := fun {w g h g2 h2 n m} => by
    simp only [PyData.eqv, PyData.eqvAll, eqv_i, Bool.and_true, beq_self_eq_true, Bool.true_and]
    by_cases h1 : g = g2 <;> by_cases h2 : h = h2 <;> by_cases h3 : n = m <;> simp [h1, h2, h3]
  cases b with
  | most g n =>
    cases c with
    | most h m => exact e2.trans (decide_eq_decide.mpr ⟨fun ⟨a, b⟩ => by rw [a, b], fun z => by injection z with a b; exact ⟨a, b⟩⟩)
    | least _ _ => exact (ww (x := "most") (y := "least") (by decide +kernel)).trans (decide_eq_false fun z => by cases z).symm
    | apart _ _ _ => exact (ww (x := "most") (y := "apart") (by decide +kernel)).trans (decide_eq_false fun z => by cases z).symm
  | least g n =>
    cases c with
    | least h m => exact e2.trans (decide_eq_decide.mpr ⟨fun ⟨a, b⟩ => by rw [a, b], fun z => by injection z with a b; exact ⟨a, b⟩⟩)
    | most _ _ => exact (ww (x := "least") (y := "most") (by decide +kernel)).trans (decide_eq_false fun z => by cases z).symm
    | apart _ _ _ => exact (ww (x := "least") (y := "apart") (by decide +kernel)).trans (decide_eq_false fun z => by cases z).symm
  | apart g h n =>
    cases c with
    | apart g2 h2 m => exact e3.trans (decide_eq_decide.mpr ⟨fun ⟨a, b, c⟩ => by rw [a, b, c], fun z => by injection z with a b c; exact ⟨a, b, c⟩⟩)
    | most _ _ => exact (ww (x := "apart") (y := "most") (by decide +kernel)).trans (decide_eq_false fun z => by cases z).symm
    | least _ _ => exact (ww (x := "apart") (y := "least") (by decide +kernel)).trans (decide_eq_false fun z => by cases z).symm
section
variable {K : PySem.W.Frag} {mg : Str → Option Value}
theorem dp_dat {H : Hp} {v : V} {b : Bd} (h : FactAt H v b) : Dp K H v b.dat := by
  obtain ⟨p, t, u, rfl, hp, ht, hu⟩ := h
  cases b with
  | most g n => exact .tup (SqT.of hp) (.cons (.str _) (.cons (.tup (SqT.of ht) (dpI _)) (.cons (.int _) .nil)))
  | least g n => exact .tup (SqT.of hp) (.cons (.str _) (.cons (.tup (SqT.of ht) (dpI _)) (.cons (.int _) .nil)))
  | apart g h n => exact .tup (SqT.of hp) (.cons (.str _) (.cons (.tup (SqT.of ht) (dpI _)) (.cons (.tup (SqT.of hu) (dpI _)) (.cons (.int _) .nil))))
theorem eq_dat {H : Hp} {x y : V} {b c : Bd} {Q : VK} (h1 : FactAt H x b) (h2 : FactAt H y c) (q : Q (.bl (decide (b = c))) H) : rEqD K x y H Q := by
  refine eqD (dp_dat h1) (dp_dat h2) ((dat_flat b).mono (by decide)) ((dat_flat c).mono (by decide)) ?_
  rw [dat_eqv]
  exact q
theorem ne_dat {H : Hp} {x y : V} {b c : Bd} {Q : VK} (h1 : FactAt H x b) (h2 : FactAt H y c) (q : Q (.bl (!decide (b = c))) H) : rNeD K x y H Q := by
  refine neD (dp_dat h1) (dp_dat h2) ((dat_flat b).mono (by decide)) ((dat_flat c).mono (by decide)) ?_
  rw [dat_eqv]
  exact q
/-- both are the fields of one bound -/
theorem eq_tl {H : Hp} {s t : Addr} {us vs : List V} {b : Bd} {Q : VK} (h1 : H s = some (.tup us)) (h2 : H t = some (.tup vs)) (d1 : DpAll K H us b.tl) (d2 : DpAll K H vs b.tl) (q : Q (.bl true) H) : rEqD K (.ref s) (.ref t) H Q := by
  have f : Flat 60 (.tuple b.tl) := by
    have z := Flat.tup (f := id) (l := b.tl) (n := 1) (tl_flat b)
    rw [List.map_id] at z
    exact z.mono (by decide)
  refine eqD (.tup (SqT.of h1) d1) (.tup (SqT.of h2) d2) f f ?_
  have z : PyData.eqv (.tuple b.tl) (.tuple b.tl) = true := by simp only [PyData.eqv]; exact tl_self b
  rw [z]
  exact q
def spLfieldsright (T : Tx K mg) : Sp := fun vs H Q _ => ∃ (v f : V) (b : Bd), vs = [v, f] ∧ BoundAt T H v b ∧ FactAt H f b ∧ ∀ H', Same H H' → Q (.bl true) H'
def spLrises (T : Tx K mg) : Sp := fun vs H Q _ => ∃ (f : V) (b : Bd) (j : Int), vs = [f, .int j] ∧ FactAt H f b ∧ ∀ H', Same H H' → Q (.int (b.load j)) H'
def spLfloor (T : Tx K mg) : Sp := fun vs H Q _ => ∃ (f : V) (b : Bd), vs = [f] ∧ FactAt H f b ∧ ∀ H', Same H H' → Q (.int b.worth) H'
def Bd.sumAt (b : Bd) (l : List Int) : Int := ((List.range l.length).map fun (j : Nat) => b.load (j : Int) * at0 l j).sum
def spLsum (T : Tx K mg) : Sp := fun vs H Q _ => ∃ (f : V) (b : Bd) (s : Addr) (l : List Int), vs = [f, .ref s] ∧ FactAt H f b ∧ SqL K H s (vi l) ∧ l.length ≤ 6 ∧ ∀ H', Same H H' → Q (.int (b.sumAt l)) H'
end
section
variable {P : Program} {w : World} {K : PySem.W.Frag} {mg : Str → Option Value} {base : Heap}
theorem okLfieldsright (T : Tx K mg) : FnOk P w K mg base CX0 1 T.aLfieldsright T.dLfieldsright ["_law_bound", "_law_facts_here"] (spLfieldsright T) := by
  refine T.fLfieldsright.ok scLfieldsright (fun vs H Q E h => ?_) (fun cdv A outer s H vs Q E hr h => ?_)
  · obtain ⟨v, f, b, rfl, _⟩ := h
    rfl
  · obtain ⟨v, f, b, rfl, hB, hF, hq⟩ := h
    refine ⟨_, (pss_cons (ps_if (pt_cmpR op_eq (pe_ix (r := rIxT K) ix_tup (pv 1) pe_int (fun _ _ => rfl)) pe_str (nomark _)) (pss_one (ps_ret (pe_and (pe_callB call_isi rfl T.nisinstance (by decide +kernel) (pa_cons (pv 0) (pa_cons (pe_glob (v := .ref T.cApart) rfl T.mApart rfl) pa_nil))) (pe_one (pe_cmpR (r := rEqD K) (op_eqD hr.units) (pe_tup (pa_cons (pe_fld (pv 0) rfl) (pa_cons (pe_fld (pv 0) rfl) (pa_cons (pe_fld (pv 0) rfl) pa_nil)))) (pe_slice sl_tupA (pv 1) (po_some pe_int) po_none) (nomark _)))))) pss_nil)
      (pss_cons (ps_if (pt_cmpR op_eq (pe_ix (r := rIxT K) ix_tup (pv 1) pe_int (fun _ _ => rfl)) pe_str (nomark _)) (pss_one (ps_ret (pe_and (pe_callB call_isi rfl T.nisinstance (by decide +kernel) (pa_cons (pv 0) (pa_cons (pe_glob (v := .ref T.cMost) rfl T.mMost rfl) pa_nil))) (pe_one (pe_cmpR (r := rEqD K) (op_eqD hr.units) (pe_tup (pa_cons (pe_fld (pv 0) rfl) (pa_cons (pe_fld (pv 0) rfl) pa_nil))) (pe_slice sl_tupA (pv 1) (po_some pe_int) po_none) (nomark _)))))) pss_nil)
      (pss_one (ps_ret (pe_and (pe_callB call_isi rfl T.nisinstance (by decide +kernel) (pa_cons (pv 0) (pa_cons (pe_glob (v := .ref T.cLeast) rfl T.mLeast rfl) pa_nil))) (pe_one (pe_cmpR (r := rEqD K) (op_eqD hr.units) (pe_tup (pa_cons (pe_fld (pv 0) rfl) (pa_cons (pe_fld (pv 0) rfl) pa_nil))) (pe_slice sl_tupA (pv 1) (po_some pe_int) po_none) (nomark _)))))))), ?_⟩
    obtain ⟨p, dx, t, u, rfl, h1, ht, hu⟩ := id hB
    obtain ⟨fp, ft, fu, rfl, k1, kt, ku⟩ := id hF
    have ty := ty_bd h1
    cases b with
    | apart g g' n =>
      refine ⟨_, rfl, fp, _, _, _, rfl, rfl, SqT.of k1, rfl, rfl, _, rfl, ifT (show decide (V.str "apart" = V.str "apart") = true by decide +kernel) ?_⟩
      refine ⟨_, rfl, .ref p, .ref T.cApart, _, _, _, rfl, .own _, ty, T.iApart_Apart, _, rfl, ifT rfl ?_⟩
      refine ⟨_, rfl, p, _, dx, _, _, rfl, h1, T.lApart, T.nApart_ours, lk1, _, rfl, p, _, dx, _, _, rfl, h1, T.lApart, T.nApart_theirs, lk2 (by decide +kernel), _, rfl, p, _, dx, _, _, rfl, h1, T.lApart, T.nApart_number, lk3 (by decide +kernel) (by decide +kernel), (by show 3 ≤ sizeLine; decide), fun a ha => ?_⟩
      have s1 := same_new (o := HO.tup [V.ref t, V.ref u, V.int n]) ha
      refine ⟨_, rfl, _, rfl, ?_⟩
      unfold tNoPart
      refine slA (s1 _ _ k1) fun c H2 s2 hc => ?_
      rw [show (1 : Int) = ((1 : Nat) : Int) from rfl, cut_drop] at hc
      have s3 := s1.trans s2
      refine eq_tl (b := .apart g g' n) (s2 _ _ upd_same) hc (.cons (.tup (SqT.of (s3 _ _ ht)) (dpI _)) (.cons (.tup (SqT.of (s3 _ _ hu)) (dpI _)) (.cons (.int _) .nil))) (.cons (.tup (SqT.of (s3 _ _ kt)) (dpI _)) (.cons (.tup (SqT.of (s3 _ _ ku)) (dpI _)) (.cons (.int _) .nil))) (hq _ s3)
    | most g n =>
      refine ⟨_, rfl, fp, _, _, _, rfl, rfl, SqT.of k1, rfl, rfl, _, rfl, ifF (show decide (V.str "most" = V.str "apart") = false by decide +kernel) ?_⟩
      refine ⟨_, rfl, fp, _, _, _, rfl, rfl, SqT.of k1, rfl, rfl, _, rfl, ifT (show decide (V.str "most" = V.str "most") = true by decide +kernel) ?_⟩
      refine ⟨_, rfl, .ref p, .ref T.cMost, _, _, _, rfl, .own _, ty, T.iMost_Most, _, rfl, ifT rfl ?_⟩
      refine ⟨_, rfl, p, _, dx, _, _, rfl, h1, T.lMost, T.nMost_group, lk1, _, rfl, p, _, dx, _, _, rfl, h1, T.lMost, T.nMost_number, lk2 (by decide +kernel), (by show 2 ≤ sizeLine; decide), fun a ha => ?_⟩
      have s1 := same_new (o := HO.tup [V.ref t, V.int n]) ha
      refine ⟨_, rfl, _, rfl, ?_⟩
      unfold tNoPart
      refine slA (s1 _ _ k1) fun c H2 s2 hc => ?_
      rw [show (1 : Int) = ((1 : Nat) : Int) from rfl, cut_drop] at hc
      have s3 := s1.trans s2
      refine eq_tl (b := .most g n) (s2 _ _ upd_same) hc (.cons (.tup (SqT.of (s3 _ _ ht)) (dpI _)) (.cons (.int _) .nil)) (.cons (.tup (SqT.of (s3 _ _ kt)) (dpI _)) (.cons (.int _) .nil)) (hq _ s3)
    | least g n =>
      refine ⟨_, rfl, fp, _, _, _, rfl, rfl, SqT.of k1, rfl, rfl, _, rfl, ifF (show decide (V.str "least" = V.str "apart") = false by decide +kernel) ?_⟩
      refine ⟨_, rfl, fp, _, _, _, rfl, rfl, SqT.of k1, rfl, rfl, _, rfl, ifF (show decide (V.str "least" = V.str "most") = false by decide +kernel) ?_⟩
      refine ⟨_, rfl, .ref p, .ref T.cLeast, _, _, _, rfl, .own _, ty, T.iLeast_Least, _, rfl, ifT rfl ?_⟩
      refine ⟨_, rfl, p, _, dx, _, _, rfl, h1, T.lLeast, T.nLeast_group, lk1, _, rfl, p, _, dx, _, _, rfl, h1, T.lLeast, T.nLeast_number, lk2 (by decide +kernel), (by show 2 ≤ sizeLine; decide), fun a ha => ?_⟩
      have s1 := same_new (o := HO.tup [V.ref t, V.int n]) ha
      refine ⟨_, rfl, _, rfl, ?_⟩
      unfold tNoPart
      refine slA (s1 _ _ k1) fun c H2 s2 hc => ?_
      rw [show (1 : Int) = ((1 : Nat) : Int) from rfl, cut_drop] at hc
      have s3 := s1.trans s2
      refine eq_tl (b := .least g n) (s2 _ _ upd_same) hc (.cons (.tup (SqT.of (s3 _ _ ht)) (dpI _)) (.cons (.int _) .nil)) (.cons (.tup (SqT.of (s3 _ _ kt)) (dpI _)) (.cons (.int _) .nil)) (hq _ s3)
end
end Kp

namespace Kp
open PySem PySem.Spec PyProof.Rows L2 KpR
theorem qInt {Q : VK} {i j : Int} {H : Hp} (e : i = j) (q : Q (.int j) H) : Q (.int i) H := e ▸ q
theorem cnt_b (g : List Int) (j : Int) : 0 ≤ cnt g j ∧ cnt g j ≤ 1 := by
  unfold cnt
  split <;> decide
theorem load_b (b : Bd) (j : Int) : -1 ≤ b.load j ∧ b.load j ≤ 1 := by
  cases b with
  | most g n =>
    have := cnt_b g j
    simp only [Bd.load]
    omega
  | least g n =>
    have := cnt_b g j
    simp only [Bd.load]
    omega
  | apart g h n =>
    have := cnt_b g j
    have := cnt_b h j
    simp only [Bd.load]
    omega
section
variable {P : Program} {w : World} {K : PySem.W.Frag} {mg : Str → Option Value} {base : Heap}
theorem okLrises (T : Tx K mg) : FnOk P w K mg base CX0 1 T.aLrises T.dLrises ["_law_facts_here", "_law_jar"] (spLrises T) := by
  refine T.fLrises.ok scLrises (fun vs H Q E h => ?_) (fun cdv A outer s H vs Q E hr h => ?_)
  · obtain ⟨f, b, j, rfl, _⟩ := h
    rfl
  · obtain ⟨f, b, j, rfl, ⟨p, t, u, rfl, hp, ht, hu⟩, hq⟩ := h
    refine ⟨_, (pss_cons (ps_if (pt_cmpR op_eq (pe_ix (r := rIxT K) ix_tup (pv 0) pe_int (fun _ _ => rfl)) pe_str (nomark _)) (pss_one (ps_ret (pe_op op_sub (pe_callTy call_int1 rfl T.nint (by decide +kernel) (pa_cons (pe_cmpR (r := rIn K false) op_in_seq (pv 1) (pe_ix (r := rIxT K) ix_tup (pv 0) pe_int (fun _ _ => rfl)) (by rfl)) pa_nil)) (pe_callTy call_int1 rfl T.nint (by decide +kernel) (pa_cons (pe_cmpR (r := rIn K false) op_in_seq (pv 1) (pe_ix (r := rIxT K) ix_tup (pv 0) pe_int (fun _ _ => rfl)) (by rfl)) pa_nil))))) pss_nil)
      (pss_one (ps_ret (pe_op op_mul (pe_callTy call_int1 rfl T.nint (by decide +kernel) (pa_cons (pe_cmpR (r := rIn K false) op_in_seq (pv 1) (pe_ix (r := rIxT K) ix_tup (pv 0) pe_int (fun _ _ => rfl)) (by rfl)) pa_nil)) (pe_ix (r := rIxL K) ix_list (pe_lst (pa_cons pe_int (pa_cons (pe_un un_neg pe_int) pa_nil))) (pe_callTy call_int1 rfl T.nint (by decide +kernel) (pa_cons (pe_cmpR op_eq (pe_ix (r := rIxT K) ix_tup (pv 0) pe_int (fun _ _ => rfl)) pe_str (nomark _)) pa_nil)) (fun _ _ => rfl)))))), ?_⟩
    cases b with
    | apart g g' n =>
      refine ⟨_, rfl, p, _, _, _, rfl, rfl, SqT.of hp, rfl, rfl, _, rfl, ifT (show decide (V.str "apart" = V.str "apart") = true by decide +kernel) ?_⟩
      refine ⟨_, rfl, _, rfl, p, _, _, _, rfl, rfl, SqT.of hp, rfl, t, _, rfl, .inr (SqT.of ht), rfl, flat_vi _, .inr ⟨_, rfl, ?_⟩⟩
      refine ⟨_, rfl, _, rfl, p, _, _, _, rfl, rfl, SqT.of hp, rfl, u, _, rfl, .inr (SqT.of hu), rfl, flat_vi _, .inr ⟨_, rfl, _, _, rfl, rfl, ?_⟩⟩
      exact hq _ (Same.refl _)
    | most g n =>
      refine ⟨_, rfl, p, _, _, _, rfl, rfl, SqT.of hp, rfl, rfl, _, rfl, ifF (show decide (V.str "most" = V.str "apart") = false by decide +kernel) ?_⟩
      refine ⟨_, rfl, _, rfl, p, _, _, _, rfl, rfl, SqT.of hp, rfl, t, _, rfl, .inr (SqT.of ht), rfl, flat_vi _, .inr ⟨_, rfl, ?_⟩⟩
      refine ⟨_, rfl, (by show 2 ≤ sizeLine; decide), fun l hl => ?_⟩
      have s1 := same_new (o := HO.lst (vi [1, -1])) hl
      refine ⟨_, rfl, p, _, _, _, rfl, rfl, SqT.of (s1 _ _ hp), rfl, rfl, .inr ⟨_, rfl, l, _, _, V.int (-1), rfl, rfl, SqL.of upd_same, ?_, _, _, rfl, rfl, .inl (one01 _), ?_⟩⟩
      · rw [show decide (V.str "most" = V.str "most") = true by decide +kernel]
        rfl
      · have e : (if (if false = true then !inV (V.int j) (vi g) else inV (V.int j) (vi g)) = true then (1 : Int) else 0) * -1 = (Bd.most g n).load j := by
          simp only [Bd.load, cnt, if_neg Bool.false_ne_true]
          omega
        exact qInt (Q := Q) e (hq _ s1)
    | least g n =>
      refine ⟨_, rfl, p, _, _, _, rfl, rfl, SqT.of hp, rfl, rfl, _, rfl, ifF (show decide (V.str "least" = V.str "apart") = false by decide +kernel) ?_⟩
      refine ⟨_, rfl, _, rfl, p, _, _, _, rfl, rfl, SqT.of hp, rfl, t, _, rfl, .inr (SqT.of ht), rfl, flat_vi _, .inr ⟨_, rfl, ?_⟩⟩
      refine ⟨_, rfl, (by show 2 ≤ sizeLine; decide), fun l hl => ?_⟩
      have s1 := same_new (o := HO.lst (vi [1, -1])) hl
      refine ⟨_, rfl, p, _, _, _, rfl, rfl, SqT.of (s1 _ _ hp), rfl, rfl, .inr ⟨_, rfl, l, _, _, V.int 1, rfl, rfl, SqL.of upd_same, ?_, _, _, rfl, rfl, .inl (one01 _), ?_⟩⟩
      · rw [show decide (V.str "least" = V.str "most") = false by decide +kernel]
        rfl
      · have e : (if (if false = true then !inV (V.int j) (vi g) else inV (V.int j) (vi g)) = true then (1 : Int) else 0) * 1 = (Bd.least g n).load j := by
          simp only [Bd.load, cnt, if_neg Bool.false_ne_true]
          omega
        exact qInt (Q := Q) e (hq _ s1)
theorem okLfloor (T : Tx K mg) : FnOk P w K mg base CX0 1 T.aLfloor T.dLfloor ["_law_facts_here"] (spLfloor T) := by
  refine T.fLfloor.ok scLfloor (fun vs H Q E h => ?_) (fun cdv A outer s H vs Q E hr h => ?_)
  · obtain ⟨f, b, rfl, _⟩ := h
    rfl
  · obtain ⟨f, b, rfl, ⟨p, t, u, rfl, hp, ht, hu⟩, hq⟩ := h
    refine ⟨_, (pss_one (ps_ret (pe_op op_mul (pe_ix (r := rIxT K) ix_tup (pv 0) (pe_un un_neg pe_int) (fun _ _ => rfl)) (pe_ix (r := rIxL K) ix_list (pe_lst (pa_cons pe_int (pa_cons (pe_un un_neg pe_int) pa_nil))) (pe_callTy call_int1 rfl T.nint (by decide +kernel) (pa_cons (pe_cmpR op_eq (pe_ix (r := rIxT K) ix_tup (pv 0) pe_int (fun _ _ => rfl)) pe_str (nomark _)) pa_nil)) (fun _ _ => rfl))))), ?_⟩
    cases b with
    | apart g g' n =>
      refine ⟨_, rfl, _, rfl, p, _, _, _, rfl, rfl, SqT.of hp, rfl, ?_⟩
      refine ⟨_, rfl, (by show 2 ≤ sizeLine; decide), fun l hl => ?_⟩
      have s1 := same_new (o := HO.lst (vi [1, -1])) hl
      refine ⟨_, rfl, p, _, _, _, rfl, rfl, SqT.of (s1 _ _ hp), rfl, rfl, .inr ⟨_, rfl, l, _, _, V.int 1, rfl, rfl, SqL.of upd_same, ?_, _, _, rfl, rfl, .inr ⟨by decide, by decide⟩, ?_⟩⟩
      · rw [show decide (V.str "apart" = V.str "most") = false by decide +kernel]
        rfl
      · exact qInt (Q := Q) (Int.mul_one n) (hq _ s1)
    | most g n =>
      refine ⟨_, rfl, _, rfl, p, _, _, _, rfl, rfl, SqT.of hp, rfl, ?_⟩
      refine ⟨_, rfl, (by show 2 ≤ sizeLine; decide), fun l hl => ?_⟩
      have s1 := same_new (o := HO.lst (vi [1, -1])) hl
      refine ⟨_, rfl, p, _, _, _, rfl, rfl, SqT.of (s1 _ _ hp), rfl, rfl, .inr ⟨_, rfl, l, _, _, V.int (-1), rfl, rfl, SqL.of upd_same, ?_, _, _, rfl, rfl, .inr ⟨by decide, by decide⟩, ?_⟩⟩
      · rw [show decide (V.str "most" = V.str "most") = true by decide +kernel]
        rfl
      · have e : n * -1 = (Bd.most g n).worth := by simp only [Bd.worth]; omega
        exact qInt (Q := Q) e (hq _ s1)
    | least g n =>
      refine ⟨_, rfl, _, rfl, p, _, _, _, rfl, rfl, SqT.of hp, rfl, ?_⟩
      refine ⟨_, rfl, (by show 2 ≤ sizeLine; decide), fun l hl => ?_⟩
      have s1 := same_new (o := HO.lst (vi [1, -1])) hl
      refine ⟨_, rfl, p, _, _, _, rfl, rfl, SqT.of (s1 _ _ hp), rfl, rfl, .inr ⟨_, rfl, l, _, _, V.int 1, rfl, rfl, SqL.of upd_same, ?_, _, _, rfl, rfl, .inr ⟨by decide, by decide⟩, ?_⟩⟩
      · rw [show decide (V.str "least" = V.str "most") = false by decide +kernel]
        rfl
      · exact qInt (Q := Q) (Int.mul_one n) (hq _ s1)
theorem okLsum (T : Tx K mg) : FnOk P w K mg base CX0 2 T.aLsum T.dLsum ["_law_facts_here", "_law_start"] (spLsum T) := by
  refine T.fLsum.ok scLsum (fun vs H Q E h => ?_) (fun cdv A outer s H vs Q E hr h => ?_)
  · obtain ⟨f, b, s, l, rfl, _⟩ := h
    rfl
  · obtain ⟨f, b, s, l, rfl, hF, hS, l6, hq⟩ := h
    refine ⟨_, (pss_one (ps_ret (pe_callB (cr_sum rfl) rfl T.nsum (by decide +kernel) (pa_cons (pe_lc (own := [("_law_jar", 2)]) rfl scLsum.nd (pi_range1 rfl T.nrange (pa_cons (pe_callB call_len_seq rfl T.nlen PySem.boot_len (pa_cons (pv 1) pa_nil)) pa_nil)) (blkOk_by (own := [("_law_jar", 2)]) (N := ["_law_facts_here", "_law_start", "_law_jar"]) (sc := defScope sLsum) (by decide +kernel)) (fun _ _ _ _ _ => (pg_name (i := 2) scLsum.nd rfl (by first | exact Or.inl rfl | exact Or.inr rfl))) (fun _ _ _ _ _ => pts_nil) (fun _ _ _ _ _ => (pe_op op_mul (pe_call (okLrises T) (hr.mono (by decide)) rfl T.gLrises T.fLrises.kp T.bLrises .nil pass0 (pa_cons (pv 0) (pa_cons (pv 2) pa_nil))) (pe_ix (r := rIxL K) ix_list (pv 1) (pv 2) (fun _ _ => rfl))))) pa_nil)))), ?_⟩
    have el : (vi l).length = l.length := List.length_map ..
    refine ⟨_, rfl, s, _, rfl, .inl hS, _, rfl, by rw [el]; omega, by rw [el]; omega, fun D1 hD1 => ?_⟩
    refine lc_range (lo := 0) (n := (((vi l).length : Nat) : Int).toNat) (fun i H' => H' D1 = some (.lst (vi ((List.range i).map fun (j : Nat) => b.load (j : Int) * at0 l j))) ∧ Same H H') ⟨upd_same, same_new hD1⟩ ?_ ?_
    · rintro i H' hi ⟨g, sm⟩
      rw [el, Int.toNat_natCast] at hi
      have e0 : (0 + (i : Int)) = (i : Int) := by omega
      have bb := load_b b (i : Int)
      refine ⟨rfl, _, rfl, _, rfl, f, b, _, rfl, hF.same sm, fun H2 s2 => ?_⟩
      rw [e0]
      refine ⟨_, rfl, _, rfl, s, _, _, _, rfl, rfl, (sm.trans s2).seq hS, vi_at hi, _, _, rfl, rfl, .inl ⟨by omega, by omega⟩, ?_⟩
      refine ⟨_, s2 _ _ g, Nat.lt_of_lt_of_le (by rw [List.length_map, List.length_map, List.length_range]; omega : _ < 100) (by decide), ?_, same_mut (sm.trans s2) hD1⟩
      rw [upd_same, List.range_succ]
      simp [vi]
      rfl
    · rintro H' ⟨g, sm⟩
      rw [el, Int.toNat_natCast] at g
      exact ⟨D1, _, rfl, SqL.of g, hq _ sm⟩
end
end Kp

namespace Kp
open PySem PySem.Spec PyProof.Rows L2 KpR
section
variable {K : PySem.W.Frag} {mg : Str → Option Value}
theorem mkMost {T : Tx K mg} {H : Hp} {a : Addr} {g : List Int} {n : Int} {R : Addr → Hp → Prop} {E' : XK} (hS : SeqI H a g) (hG : Grp g) (q : ∀ (x : Addr) (H1 : Hp), H x = none → BoundAt T H1 (.ref x) (.most g n) → Same H H1 → R x H1) :
    ∀ x dx, H x = none → H dx = none → dx ≠ x → spMostInit T [.ref x, .ref a, .int n] (upd (upd H dx (.own x)) x (.ins T.cMost dx [])) (fun v H2 => v = .non ∧ R x H2) E' := fun x dx hx hdx ne => by
  have s1 : Same H (upd (upd H dx (.own x)) x (.ins T.cMost dx [])) := (same_new hdx).trans (same_new (by rw [upd_ne ne.symm]; exact hx))
  exact ⟨x, dx, a, g, n, rfl, upd_same, hS.same s1, hG, fun H1 t1 h1 h2 fr => ⟨rfl, q x H1 hx ⟨x, dx, t1, t1, rfl, h1, h2, h2⟩ (made_same hx hdx fr)⟩⟩
theorem mkLeast {T : Tx K mg} {H : Hp} {a : Addr} {g : List Int} {n : Int} {R : Addr → Hp → Prop} {E' : XK} (hS : SeqI H a g) (hG : Grp g) (q : ∀ (x : Addr) (H1 : Hp), H x = none → BoundAt T H1 (.ref x) (.least g n) → Same H H1 → R x H1) :
    ∀ x dx, H x = none → H dx = none → dx ≠ x → spLeastInit T [.ref x, .ref a, .int n] (upd (upd H dx (.own x)) x (.ins T.cLeast dx [])) (fun v H2 => v = .non ∧ R x H2) E' := fun x dx hx hdx ne => by
  have s1 : Same H (upd (upd H dx (.own x)) x (.ins T.cLeast dx [])) := (same_new hdx).trans (same_new (by rw [upd_ne ne.symm]; exact hx))
  exact ⟨x, dx, a, g, n, rfl, upd_same, hS.same s1, hG, fun H1 t1 h1 h2 fr => ⟨rfl, q x H1 hx ⟨x, dx, t1, t1, rfl, h1, h2, h2⟩ (made_same hx hdx fr)⟩⟩
theorem mkApart {T : Tx K mg} {H : Hp} {a c : Addr} {g h : List Int} {n : Int} {R : Addr → Hp → Prop} {E' : XK} (hS : SeqI H a g) (hG : Grp g) (hS2 : SeqI H c h) (hG2 : Grp h) (q : ∀ (x : Addr) (H1 : Hp), H x = none → BoundAt T H1 (.ref x) (.apart g h n) → Same H H1 → R x H1) :
    ∀ x dx, H x = none → H dx = none → dx ≠ x → spApartInit T [.ref x, .ref a, .ref c, .int n] (upd (upd H dx (.own x)) x (.ins T.cApart dx [])) (fun v H2 => v = .non ∧ R x H2) E' := fun x dx hx hdx ne => by
  have s1 : Same H (upd (upd H dx (.own x)) x (.ins T.cApart dx [])) := (same_new hdx).trans (same_new (by rw [upd_ne ne.symm]; exact hx))
  exact ⟨x, dx, a, c, g, h, n, rfl, upd_same, hS.same s1, hG, hS2.same s1, hG2, fun H1 t1 u1 h1 h2 h3 fr => ⟨rfl, q x H1 hx ⟨x, dx, t1, u1, rfl, h1, h2, h3⟩ (made_same hx hdx fr)⟩⟩
theorem ext_same {H H' : Hp} (e : Ext H H') : Same H H' := fun b o q => e b o q
def spLgroupkept (T : Tx K mg) : Sp := fun vs H Q _ => ∃ (s : Addr) (j : Nat), vs = [.ref s, .int j] ∧ StateAt H s ∧ j ≤ 6 ∧ ∀ H', StateAt H' s → Fr s H H' → Q (.bl true) H'
end
section
variable {P : Program} {w : World} {K : PySem.W.Frag} {mg : Str → Option Value} {base : Heap}
theorem okLgroupkept (T : Tx K mg) : FnOk P w K mg base CX0 3 T.aLgroupkept T.dLgroupkept ["_law_s", "_law_jars"] (spLgroupkept T) := by
  refine T.fLgroupkept.ok scLgroupkept (fun vs H Q E h => ?_) (fun cdv A outer s H vs Q E hr h => ?_)
  · obtain ⟨s, j, rfl, _⟩ := h
    rfl
  · obtain ⟨s, j, rfl, hs, j6, hq⟩ := h
    refine ⟨_, (pss_cons (ps_set (i := 2) scLgroupkept.nd rfl (by first | exact Or.inl rfl | exact Or.inr rfl) (pe_call (okLgroup T) (hr.mono (by decide)) rfl T.gLgroup T.fLgroup.kp T.bLgroup .nil pass0 (pa_cons (pv 0) (pa_cons (pv 1) pa_nil))))
      (pss_cons (ps_set (i := 3) scLgroupkept.nd rfl (by first | exact Or.inl rfl | exact Or.inr rfl) (pe_callTy call_list_of rfl T.nlist (by decide +kernel) (pa_cons (pv 2) pa_nil)))
      (pss_cons (ps_set (i := 4) scLgroupkept.nd rfl (by first | exact Or.inl rfl | exact Or.inr rfl) (pe_lst (pa_cons (pe_make T.kMost (okMostInit T) (hr.mono (by decide)) rfl T.mMost T.bMostInit .nil pass0 (pa_cons (pv 3) (pa_cons pe_int pa_nil))) (pa_cons (pe_make T.kLeast (okLeastInit T) (hr.mono (by decide)) rfl T.mLeast T.bLeastInit .nil pass0 (pa_cons (pv 3) (pa_cons pe_int pa_nil))) (pa_cons (pe_make T.kApart (okApartInit T) (hr.mono (by decide)) rfl T.mApart T.bApartInit .nil pass0 (pa_cons (pv 3) (pa_cons (pv 3) (pa_cons pe_int pa_nil)))) pa_nil)))))
      (pss_cons (ps_expr (pe_bm PySem.F.plainAttrs_list PySem.F.slot_list_append PySem.F.type_list_append mt_append (pv 3) (pa_cons pe_int pa_nil)))
      (pss_cons (ps_if (pt_cmpR (r := rNeD K) (op_neD hr.units) (pe_lc (own := [("_law_one", 5)]) rfl scLgroupkept.nd (pi_list (pv 4)) (blkOk_by (own := [("_law_one", 5)]) (N := ["_law_s", "_law_jars", "_law_group_here", "_law_handed", "_law_some", "_law_one"]) (sc := defScope sLgroupkept) (by decide +kernel)) (fun _ _ _ _ _ => (pg_name (i := 5) scLgroupkept.nd rfl (by first | exact Or.inl rfl | exact Or.inr rfl))) (fun _ _ _ _ _ => (pts_one (pt_not (pt_val (pe_callB (show CallR _ _ (rIsi K) from call_isi) rfl T.nisinstance (by decide +kernel) (pa_cons (pv 5) (pa_cons (pe_glob (v := .ref T.cBound) rfl T.mBound rfl) pa_nil))))))) (fun _ _ _ _ _ => (pv 5))) (pe_lst pa_nil) (nomark _)) (pss_one (ps_ret pe_bl)) pss_nil)
      (pss_cons (ps_if (PW.pt (pw_or (pt_cmpR (r := rNeD K) (op_neD hr.units) (pe_fld (pe_ix (r := rIxL K) ix_list (pv 4) pe_int (fun _ _ => rfl)) rfl) (pv 2) (nomark _)) (pw_or1 (pt_cmpR (opNeBounds T (hr.mono (by decide))) (pe_ix (r := rIxL K) ix_list (pv 4) pe_int (fun _ _ => rfl)) (pe_make T.kMost (okMostInit T) (hr.mono (by decide)) rfl T.mMost T.bMostInit .nil pass0 (pa_cons (pv 2) (pa_cons pe_int pa_nil))) (nomark _))))) (pss_one (ps_ret pe_bl)) pss_nil)
      (pss_one (ps_ret (pe_cmpR (opEqLists T (hr.mono (by decide))) (pe_slice sl_list (pv 4) (po_some pe_int) po_none) (pe_lst (pa_cons (pe_make T.kLeast (okLeastInit T) (hr.mono (by decide)) rfl T.mLeast T.bLeastInit .nil pass0 (pa_cons (pv 2) (pa_cons pe_int pa_nil))) (pa_cons (pe_make T.kApart (okApartInit T) (hr.mono (by decide)) rfl T.mApart T.bApartInit .nil pass0 (pa_cons (pv 2) (pa_cons (pv 2) (pa_cons pe_int pa_nil)))) pa_nil))) (nomark _)))))))))), ?_⟩
    refine ⟨_, rfl, _, rfl, s, j, rfl, hs, j6, fun H1 p g p0 hp hG s1 f1 => ?_⟩
    refine ⟨_, rfl, p, _, rfl, .inr (SqT.of hp), fun h hh => ?_⟩
    have sh := same_new (o := HO.lst (vi g)) hh
    have ph : p ≠ h := ne_of_none hp hh
    have hs' : h ≠ s := s1.ne hh
    have h2 : SeqI (upd H1 h (.lst (vi g))) h g := .inl upd_same
    refine ⟨_, rfl, mkMost h2 hG fun m H3 _ b1 s3 => ?_⟩
    refine ⟨_, rfl, mkLeast (h2.same s3) hG fun le H4 _ b2 s4 => ?_⟩
    refine ⟨_, rfl, _, rfl, mkApart ((h2.same s3).same s4) hG ((h2.same s3).same s4) hG fun ap H5 _ b3 s5 => ?_⟩
    refine ⟨(by show 3 ≤ sizeLine; decide), fun l hl => ?_⟩
    have s6 := same_new (o := HO.lst [V.ref m, V.ref le, V.ref ap]) hl
    have s26 := ((s3.trans s4).trans s5).trans s6
    have h6 := s26 _ _ (upd_same (H := H1) (a := h) (o := .lst (vi g)))
    have lh : l ≠ h := fun z => by
      have := ((s3.trans s4).trans s5) _ _ (upd_same (H := H1) (a := h) (o := .lst (vi g)))
      rw [← z, hl] at this
      cases this
    refine ⟨_, rfl, .inl ⟨rfl, _, SqL.of h6⟩, h, _, _, rfl, rfl, h6, Nat.lt_of_lt_of_le (by rw [List.length_map]; have := hG.len; omega : _ < 100) (by decide), ?_⟩
    have A6 : A2 (BoundAt T (upd H5 l (.lst [.ref m, .ref le, .ref ap]))) [.ref m, .ref le, .ref ap] [.most g 3, .least g 3, .apart g g 3] := ⟨((b1.same s4).same s5).same s6, (b2.same s5).same s6, b3.same s6, trivial⟩
    have mu : Fr h (upd H5 l (.lst [.ref m, .ref le, .ref ap])) (upd (upd H5 l (.lst [.ref m, .ref le, .ref ap])) h (.lst (vi g ++ [.int 5]))) := fr_mut (Fr.refl _ _)
    have A7 := A2.mono (fun _ _ k => BoundAt.fr mu h6 bl_l k) A6
    have l7 := mu _ _ lh upd_same
    have S7 := same_mut (o := HO.lst (vi g ++ [V.int 5])) (sh.trans s26) hh
    generalize (upd (upd H5 l (.lst [.ref m, .ref le, .ref ap])) h (.lst (vi g ++ [.int 5]))) = H7 at mu A7 l7 S7 ⊢
    have p7 := S7 _ _ hp
    -- all of them are bounds
    refine ⟨_, rfl, l, rfl, ⟨_, SqL.of l7⟩, fun D1 hD1 => ?_⟩
    refine lc_list (K := K) (a := l) (xs := [V.ref m, V.ref le, V.ref ap]) (fun i H' => H' D1 = some (.lst (vi [])) ∧ Same H7 H') ⟨upd_same, same_new hD1⟩ (fun i H' _ h => h.2.seq (SqL.of l7)) ?_ ?_
    · rintro i y H' hi ⟨g1, sm⟩
      obtain ⟨b, hb, hy⟩ := A7.get hi
      obtain ⟨q, dx, t, u, rfl, k1, k2, k3⟩ := hy.same sm
      exact ⟨rfl, _, rfl, .ref q, .ref T.cBound, _, _, _, rfl, .own _, ty_bd k1, is_bound T b, _, rfl, ifF rfl ⟨g1, sm⟩⟩
    · rintro H8 ⟨g1, s8⟩
      refine ⟨(by show 0 ≤ sizeLine; decide), fun e0 he0 => ?_⟩
      have s9 := s8.trans (same_new (o := HO.lst []) he0)
      refine ne_ints (l := []) (m := []) (SqL.of ((same_new he0) _ _ g1)) (SqL.of upd_same) rfl ⟨_, rfl, ifF rfl ?_⟩
      generalize upd H8 e0 (.lst []) = H9 at s9 ⊢
      have A9 := A2.mono (fun _ _ k => BoundAt.same s9 k) A7
      have l9 := s9 _ _ l7
      have p9 := s9 _ _ p7
      obtain ⟨q, dx, t, u, e1, k1, k2, k3⟩ := id A9.1
      cases e1
      refine ⟨_, rfl, l, _, _, V.ref m, rfl, rfl, SqL.of l9, rfl, m, _, dx, _, _, rfl, k1, T.lMost, T.nMost_group, lk1, _, rfl, ne_tups (SqT.of k2) (SqT.of p9) rfl ⟨_, rfl, ifF rfl ?_⟩⟩
      refine ⟨_, rfl, l, _, _, V.ref m, rfl, rfl, SqL.of l9, rfl, _, rfl, mkMost (.inr p9) hG fun m2 H10 _ b10 s10 => ?_⟩
      refine neBd (A9.1.same s10) b10 fun H11 s11 => ⟨_, rfl, ?_⟩
      rw [decide_eq_true rfl]
      refine ifF rfl ?_
      have s911 := s10.trans (ext_same s11)
      refine ⟨_, rfl, _, rfl, ?_⟩
      unfold tNoPart
      refine ⟨l, _, rfl, SqL.of (s911 _ _ l9), fun l2 hl2 => ?_⟩
      rw [show (1 : Int) = ((1 : Nat) : Int) from rfl, cut_drop]
      have s12 := same_new (o := HO.lst ([V.ref m, V.ref le, V.ref ap].drop 1)) hl2
      have p12 := s12 _ _ (s911 _ _ p9)
      refine ⟨_, rfl, mkLeast (.inr p12) hG fun le2 H13 _ b13 s13 => ?_⟩
      refine ⟨_, rfl, _, rfl, mkApart (.inr (s13 _ _ p12)) hG (.inr (s13 _ _ p12)) hG fun ap2 H14 _ b14 s14 => ?_⟩
      refine ⟨(by show 2 ≤ sizeLine; decide), fun l3 hl3 => ?_⟩
      have s15 := same_new (o := HO.lst [V.ref le2, V.ref ap2]) hl3
      have s1215 := (s13.trans s14).trans s15
      have sA := (s911.trans s12).trans s1215
      refine eqLists (ds := [.least g 3, .apart g g 3]) (s1215 _ _ upd_same) upd_same ⟨A9.2.1.same sA, A9.2.2.1.same sA, trivial⟩ ⟨(b13.same s14).same s15, b14.same s15, trivial⟩ fun H16 s16 => ?_
      have sF := (S7.trans s9).trans (sA.trans (ext_same s16))
      exact hq _ (s1.same sF) (f1.trans (Fr.of sF))
end
end Kp

namespace Kp
open PySem PySem.Spec PyProof.Rows L2 KpR
/-! ### what the loads come to -/
theorem sum_add {α : Type} (f g : α → Int) : ∀ l : List α, (l.map fun j => f j + g j).sum = (l.map f).sum + (l.map g).sum
  | [] => rfl
  | x :: l => by
    have := sum_add f g l
    simp only [List.map_cons, List.sum_cons]
    omega
theorem sum_zero {α : Type} : ∀ l : List α, (l.map fun _ => (0 : Int)).sum = 0
  | [] => rfl
  | x :: l => by
    have := sum_zero l
    simp only [List.map_cons, List.sum_cons]
    omega
theorem sum_swap (l : List Int) : ∀ bs : List Bd, ((List.range l.length).map fun (j : Nat) => loadOf (j : Int) bs * at0 l j).sum = (bs.map fun b => b.sumAt l).sum
  | [] => by
    have e : ∀ j : Nat, loadOf (j : Int) [] * at0 l j = 0 := fun j => by
      show (0 : Int) * _ = 0
      omega
    simp only [e]
    exact sum_zero _
  | b :: bs => by
    have e : ∀ j : Nat, loadOf (j : Int) (b :: bs) * at0 l j = b.load (j : Int) * at0 l j + loadOf (j : Int) bs * at0 l j := fun j => by
      show (b.load (j : Int) + loadOf (j : Int) bs) * at0 l j = _
      rw [Int.add_mul]
    simp only [e]
    rw [sum_add, sum_swap l bs]
    rfl
theorem sum_ge (l : List Int) (p : Int) : ∀ bs : List Bd, (∀ b ∈ bs, b.worth * p ≤ b.sumAt l) → worthOf bs * p ≤ (bs.map fun b => b.sumAt l).sum
  | [], _ => by
    show (0 : Int) * p ≤ 0
    omega
  | b :: bs, h => by
    have h1 := h b (List.mem_cons_self ..)
    have h2 := sum_ge l p bs fun c hc => h c (List.mem_cons_of_mem _ hc)
    show (b.worth + worthOf bs) * p ≤ b.sumAt l + (bs.map fun b => b.sumAt l).sum
    rw [Int.add_mul]
    omega
theorem A2.imp {α : Type} {R S : V → α → Prop} {Pr : α → Prop} (f : ∀ v d, Pr d → R v d → S v d) : ∀ {vs : List V} {ds : List α}, (∀ d ∈ ds, Pr d) → A2 R vs ds → A2 S vs ds
  | [], [], _, _ => trivial
  | _ :: _, d :: _, p, h => ⟨f _ _ (p d (List.mem_cons_self ..)) h.1, A2.imp f (fun e he => p e (List.mem_cons_of_mem _ he)) h.2⟩
  | [], _ :: _, _, h => h.elim
  | _ :: _, [], _, h => h.elim
section
variable {K : PySem.W.Frag} {mg : Str → Option Value}
theorem eq_factsN {H : Hp} {a b : Addr} {vs : List V} {cs : List Bd} {Q : VK} (h1 : SqL K H a vs) (hA : A2 (FactAt H) vs cs) (h2 : SqL K H b []) (q : Q (.bl (decide (cs = []))) H) : rEqD K (.ref a) (.ref b) H Q := by
  refine eqD (d := .list (cs.map Bd.dat)) (e := .list []) (.lst h1 (dp_map (fun _ _ h => dp_dat h) hA)) (.lst h2 .nil) ((Flat.list fun x _ => dat_flat x).mono (by decide)) ((Flat.list (f := id) (n := 0) (l := []) fun x hx => by cases hx).mono (by decide)) ?_
  cases cs with
  | nil => exact q
  | cons d ds =>
    have : PyData.eqv (.list (List.map Bd.dat (d :: ds))) (.list []) = false := by simp only [PyData.eqv, List.map_cons, PyData.eqvAll]
    rw [this]
    exact q
theorem A2.refs {T : Tx K mg} {H : Hp} : ∀ {us : List V} {bs : List Bd}, A2 (BoundAt T H) us bs → ∀ z ∈ us, ∃ p, z = V.ref p
  | [], _, _, z, h => by cases h
  | u :: us, b :: bs, h, z, hz => by
    rcases List.mem_cons.mp hz with rfl | k
    · obtain ⟨p, _, _, _, e, _⟩ := h.1
      exact ⟨p, e⟩
    · exact A2.refs h.2 z k
  | _ :: _, [], h, _, _ => h.elim
theorem cutAll {p : Hp → Prop} {b : Bool} {X C : Hp → Prop} (rest : ∀ h, p h → C h) (go : b = true → (∀ h, p h → C h) → ∀ h, p h → X h) : ∀ h, p h → if b = true then X h else C h := fun h s => by
  cases b with
  | true => exact ifT rfl (go rfl rest h s)
  | false => exact ifF rfl (rest h s)
/-- what stands through a turn -/
structure St (T : Tx K mg) (H : Hp) (s sm lot kept : Addr) (ws us : List V) (bs : List Bd) : Prop where
  st : StateAt H s
  so : H sm = some (.lst ws)
  lo : H lot = some (.lst us)
  ke : H kept = some (.lst us)
  fa : A2 (FactAt H) ws bs
  bo : A2 (BoundAt T H) us bs
  ns : sm ≠ s
  nl : lot ≠ s
  nk : kept ≠ s
theorem St.same {T : Tx K mg} {H H' : Hp} {s sm lot kept : Addr} {ws us : List V} {bs : List Bd} (e : Same H H') (h : St T H s sm lot kept ws us bs) : St T H' s sm lot kept ws us bs :=
  ⟨h.st.same e, e _ _ h.so, e _ _ h.lo, e _ _ h.ke, A2.mono (fun _ _ k => k.same e) h.fa, A2.mono (fun _ _ k => k.same e) h.bo, h.ns, h.nl, h.nk⟩
theorem St.fr {T : Tx K mg} {H H' : Hp} {s sm lot kept : Addr} {ws us : List V} {bs : List Bd} (e : Fr s H H') (k : StateAt H' s) (h : St T H s sm lot kept ws us bs) : St T H' s sm lot kept ws us bs := by
  obtain ⟨o, ho, hb⟩ := h.st.ex
  exact ⟨k, e _ _ h.ns h.so, e _ _ h.nl h.lo, e _ _ h.nk h.ke, A2.mono (fun _ _ k => k.fr e ho hb) h.fa, A2.mono (fun _ _ k => k.fr e ho hb) h.bo, h.ns, h.nl, h.nk⟩
theorem A2.at {α : Type} {R : V → α → Prop} : ∀ {vs : List V} {ds : List α} {i : Nat}, A2 R vs ds → i < vs.length → ∃ v d, vs[i]? = some v ∧ ds[i]? = some d ∧ R v d
  | v :: _, d :: _, 0, h, _ => ⟨v, d, rfl, rfl, h.1⟩
  | _ :: vs, _ :: ds, i + 1, h, k => A2.at (vs := vs) (ds := ds) (i := i) h.2 (Nat.lt_of_succ_lt_succ k)
  | [], _, _, _, k => absurd k (Nat.not_lt_zero _)
  | _ :: _, [], _, h, _ => h.elim
theorem St.at {T : Tx K mg} {H : Hp} {s sm lot kept : Addr} {ws us : List V} {bs : List Bd} (h : St T H s sm lot kept ws us bs) {i : Nat} (hi : i < ws.length) : ∃ fv b uv, ws[i]? = some fv ∧ bs[i]? = some b ∧ us[i]? = some uv ∧ FactAt H fv b ∧ BoundAt T H uv b := by
  obtain ⟨fv, b, h1, h2, h3⟩ := A2.at h.fa hi
  obtain ⟨uv, c, k1, k2, k3⟩ := A2.at (i := i) h.bo (by rw [h.bo.len, ← h.fa.len]; exact hi)
  rw [h2] at k2
  cases k2
  exact ⟨fv, b, uv, h1, h2, k1, h3, k3⟩
def spLaw (K : PySem.W.Frag) : Sp := fun vs H Q _ => ∃ (a : Addr) (ns : List Int), vs = [.ref a] ∧ SqL K H a (ns.map V.int) ∧ ns.length ≤ 63 ∧ ∀ H', Q (.bl true) H'
def splaw (T : Tx K mg) : Sp := spLaw K
end
section
variable {P : Program} {w : World} {K : PySem.W.Frag} {mg : Str → Option Value} {base : Heap}
theorem oklaw (T : Tx K mg) : FnOk P w K mg base CX0 4 T.alaw T.dlaw ["_law_script"] (splaw T) := by
  refine T.flaw.ok sclaw (fun vs H Q E h => ?_) (fun cdv A outer s H vs Q E hr h => ?_)
  · obtain ⟨a, ns, rfl, _⟩ := h
    rfl
  · obtain ⟨a, ns, rfl, hS, hlen, hq⟩ := h
    refine ⟨_, (pss_cons (ps_for PassesOwn.never rfl (pi_list (pe_slice sl_list (pe_op op_catR (pv 0) (pe_lst (pa_cons pe_int pa_nil))) po_none (po_some pe_int))) (pg_name (i := 1) sclaw.nd rfl (by first | exact Or.inl rfl | exact Or.inr rfl)) (pss_cons (ps_set (i := 2) sclaw.nd rfl (by first | exact Or.inl rfl | exact Or.inr rfl) (pe_call (okLstate T) (hr.mono (by decide)) rfl T.gLstate T.fLstate.kp T.bLstate .nil pass0 (pa_cons (pv 1) pa_nil)))
      (pss_cons (ps_set (i := 3) sclaw.nd rfl (by first | exact Or.inl rfl | exact Or.inr rfl) (pe_op op_add pe_int (pe_call (okLdigit T) (hr.mono (by decide)) rfl T.gLdigit T.fLdigit.kp T.bLdigit .nil pass0 (pa_cons (pv 2) (pa_cons pe_int pa_nil)))))
      (pss_cons (ps_set (i := 4) sclaw.nd rfl (by first | exact Or.inl rfl | exact Or.inr rfl) (pe_lc (own := [("_law_k", 5)]) rfl sclaw.nd (pi_range1 rfl T.nrange (pa_cons (pe_call (okLdigit T) (hr.mono (by decide)) rfl T.gLdigit T.fLdigit.kp T.bLdigit .nil pass0 (pa_cons (pv 2) (pa_cons pe_int pa_nil))) pa_nil)) (blkOk_by (own := [("_law_k", 5)]) (N := ["_law_script", "_law_number_here", "_law_s", "_law_jars", "_law_some", "_law_k", "_law_lot", "_law_facts_here", "_law_kept", "_law_loads", "_law_jar", "_law_due", "_law_one", "_law_j", "_law_share", "_law_start"]) (sc := defScope slaw) (by decide +kernel)) (fun _ _ _ _ _ => (pg_name (i := 5) sclaw.nd rfl (by first | exact Or.inl rfl | exact Or.inr rfl))) (fun _ _ _ _ _ => pts_nil) (fun _ _ _ _ _ => (pe_call (okLfacts T) (hr.mono (by decide)) rfl T.gLfacts T.fLfacts.kp T.bLfacts .nil pass0 (pa_cons (pv 2) (pa_cons (pv 3) pa_nil))))))
      (pss_cons (ps_set (i := 4) sclaw.nd rfl (by first | exact Or.inl rfl | exact Or.inr rfl) (pe_op op_catR (pv 4) (pe_slice sl_list (pv 4) po_none (po_some (pe_call (okLdigit T) (hr.mono (by decide)) rfl T.gLdigit T.fLdigit.kp T.bLdigit .nil pass0 (pa_cons (pv 2) (pa_cons pe_int pa_nil)))))))
      (pss_cons (ps_set (i := 6) sclaw.nd rfl (by first | exact Or.inl rfl | exact Or.inr rfl) (pe_lc (own := [("_law_facts_here", 7)]) rfl sclaw.nd (pi_list (pv 4)) (blkOk_by (own := [("_law_facts_here", 7)]) (N := ["_law_script", "_law_number_here", "_law_s", "_law_jars", "_law_some", "_law_k", "_law_lot", "_law_facts_here", "_law_kept", "_law_loads", "_law_jar", "_law_due", "_law_one", "_law_j", "_law_share", "_law_start"]) (sc := defScope slaw) (by decide +kernel)) (fun _ _ _ _ _ => (pg_name (i := 7) sclaw.nd rfl (by first | exact Or.inl rfl | exact Or.inr rfl))) (fun _ _ _ _ _ => pts_nil) (fun _ _ _ _ _ => (pe_call (okLmade T) (hr.mono (by decide)) rfl T.gLmade T.fLmade.kp T.bLmade .nil pass0 (pa_cons (pv 7) pa_nil)))))
      (pss_cons (ps_set (i := 8) sclaw.nd rfl (by first | exact Or.inl rfl | exact Or.inr rfl) (pe_callTy call_list_of rfl T.nlist (by decide +kernel) (pa_cons (pv 6) pa_nil)))
      (pss_cons (ps_set (i := 9) sclaw.nd rfl (by first | exact Or.inl rfl | exact Or.inr rfl) (pe_lc (own := [("_law_jar", 10)]) rfl sclaw.nd (pi_range1 rfl T.nrange (pa_cons (pv 3) pa_nil)) (blkOk_by (own := [("_law_jar", 10)]) (N := ["_law_script", "_law_number_here", "_law_s", "_law_jars", "_law_some", "_law_k", "_law_lot", "_law_facts_here", "_law_kept", "_law_loads", "_law_jar", "_law_due", "_law_one", "_law_j", "_law_share", "_law_start"]) (sc := defScope slaw) (by decide +kernel)) (fun _ _ _ _ _ => (pg_name (i := 10) sclaw.nd rfl (by first | exact Or.inl rfl | exact Or.inr rfl))) (fun _ _ _ _ _ => pts_nil) (fun _ _ _ _ _ => (pe_callB (show CallR _ _ (rSum K) from cr_sum rfl) rfl T.nsum (by decide +kernel) (pa_cons (pe_lc (own := [("_law_facts_here", 7)]) rfl sclaw.nd (show PI _ _ _ (iList K _) from pi_list (pv 4)) (blkOk_by (own := [("_law_facts_here", 7)]) (N := ["_law_script", "_law_number_here", "_law_s", "_law_jars", "_law_some", "_law_k", "_law_lot", "_law_facts_here", "_law_kept", "_law_loads", "_law_jar", "_law_due", "_law_one", "_law_j", "_law_share", "_law_start"]) (sc := { kind := PySem.ScopeKind.function, names := [(PySem.Str.ofString ".0", PySem.NameKind.local), (PySem.Str.ofString "_law_jar", PySem.NameKind.cell), (PySem.Str.ofString "sum", PySem.NameKind.globalImplicit), (PySem.Str.ofString "_law_some", PySem.NameKind.cell)], isGenerator := false, isCoroutine := false }) (by decide +kernel)) (fun _ _ _ _ _ => (pg_name (i := 7) sclaw.nd rfl (by first | exact Or.inl rfl | exact Or.inr rfl))) (fun _ _ _ _ _ => pts_nil) (fun _ _ _ _ _ => (pe_call (okLrises T) (hr.mono (by decide)) rfl T.gLrises T.fLrises.kp T.bLrises .nil pass0 (pa_cons (pv 7) (pa_cons (pv 10) pa_nil))))) pa_nil)))))
      (pss_cons (ps_set (i := 11) sclaw.nd rfl (by first | exact Or.inl rfl | exact Or.inr rfl) (pe_callB (cr_sum rfl) rfl T.nsum (by decide +kernel) (pa_cons (pe_lc (own := [("_law_one", 12)]) rfl sclaw.nd (pi_list (pv 4)) (blkOk_by (own := [("_law_one", 12)]) (N := ["_law_script", "_law_number_here", "_law_s", "_law_jars", "_law_some", "_law_k", "_law_lot", "_law_facts_here", "_law_kept", "_law_loads", "_law_jar", "_law_due", "_law_one", "_law_j", "_law_share", "_law_start"]) (sc := defScope slaw) (by decide +kernel)) (fun _ _ _ _ _ => (pg_name (i := 12) sclaw.nd rfl (by first | exact Or.inl rfl | exact Or.inr rfl))) (fun _ _ _ _ _ => pts_nil) (fun _ _ _ _ _ => (pe_call (okLfloor T) (hr.mono (by decide)) rfl T.gLfloor T.fLfloor.kp T.bLfloor .nil pass0 (pa_cons (pv 12) pa_nil)))) pa_nil)))
      (pss_cons (ps_if (PW.pt (pw_or (pt_cmpR (r := rNeD K) (op_neD hr.units) (pe_lc (own := [("_law_jar", 10)]) rfl sclaw.nd (pi_range1 rfl T.nrange (pa_cons (pv 3) pa_nil)) (blkOk_by (own := [("_law_jar", 10)]) (N := ["_law_script", "_law_number_here", "_law_s", "_law_jars", "_law_some", "_law_k", "_law_lot", "_law_facts_here", "_law_kept", "_law_loads", "_law_jar", "_law_due", "_law_one", "_law_j", "_law_share", "_law_start"]) (sc := defScope slaw) (by decide +kernel)) (fun _ _ _ _ _ => (pg_name (i := 10) sclaw.nd rfl (by first | exact Or.inl rfl | exact Or.inr rfl))) (fun _ _ _ _ _ => pts_nil) (fun _ _ _ _ _ => (pe_call (okload T) (hr.mono (by decide)) rfl T.gload T.fload.kp T.bload .nil pass0 (pa_cons (pe_callTy (show CallR _ _ (rTupOf K) from call_tuple_of) rfl T.ntuple (by decide +kernel) (pa_cons (pv 6) pa_nil)) (pa_cons (pv 10) pa_nil))))) (pv 9) (nomark _)) (pw_or1 (pt_cmpR op_ne (pe_call (okworth T) (hr.mono (by decide)) rfl T.gworth T.fworth.kp T.bworth .nil pass0 (pa_cons (pe_callTy call_tuple_of rfl T.ntuple (by decide +kernel) (pa_cons (pv 6) pa_nil)) pa_nil)) (pv 11) (nomark _))))) (pss_one (ps_ret pe_bl)) pss_nil)
      (pss_cons (ps_if (PW.pt (pw_or (pt_cmpR (r := rNeD K) (op_neD hr.units) (pe_lc (own := [("_law_jar", 10)]) rfl sclaw.nd (pi_range1 rfl T.nrange (pa_cons (pv 3) pa_nil)) (blkOk_by (own := [("_law_jar", 10)]) (N := ["_law_script", "_law_number_here", "_law_s", "_law_jars", "_law_some", "_law_k", "_law_lot", "_law_facts_here", "_law_kept", "_law_loads", "_law_jar", "_law_due", "_law_one", "_law_j", "_law_share", "_law_start"]) (sc := defScope slaw) (by decide +kernel)) (fun _ _ _ _ _ => (pg_name (i := 10) sclaw.nd rfl (by first | exact Or.inl rfl | exact Or.inr rfl))) (fun _ _ _ _ _ => pts_nil) (fun _ _ _ _ _ => (pe_call (okload T) (hr.mono (by decide)) rfl T.gload T.fload.kp T.bload .nil pass0 (pa_cons (pv 6) (pa_cons (pv 10) pa_nil))))) (pv 9) (nomark _)) (pw_or1 (pt_cmpR op_ne (pe_call (okworth T) (hr.mono (by decide)) rfl T.gworth T.fworth.kp T.bworth .nil pass0 (pa_cons (pv 6) pa_nil)) (pv 11) (nomark _))))) (pss_one (ps_ret pe_bl)) pss_nil)
      (pss_cons (ps_for PassesOwn.never rfl (pi_range1 rfl T.nrange (pa_cons (pe_callB call_len_seq rfl T.nlen PySem.boot_len (pa_cons (pv 4) pa_nil)) pa_nil)) (pg_name (i := 5) sclaw.nd rfl (by first | exact Or.inl rfl | exact Or.inr rfl)) (pss_cons (ps_if (pt_not (pt_val (pe_call (okLfieldsright T) (hr.mono (by decide)) rfl T.gLfieldsright T.fLfieldsright.kp T.bLfieldsright .nil pass0 (pa_cons (pe_ix (r := rIxL K) ix_list (pv 6) (pv 5) (fun _ _ => rfl)) (pa_cons (pe_ix (r := rIxL K) ix_list (pv 4) (pv 5) (fun _ _ => rfl)) pa_nil))))) (pss_one (ps_ret pe_bl)) pss_nil)
      (pss_one (ps_for PassesOwn.never rfl (pi_range1 rfl T.nrange (pa_cons (pe_callB call_len_seq rfl T.nlen PySem.boot_len (pa_cons (pv 4) pa_nil)) pa_nil)) (pg_name (i := 13) sclaw.nd rfl (by first | exact Or.inl rfl | exact Or.inr rfl)) (pss_one (ps_if (PW.pt (pw_or (pt_cmpR op_ne (pe_cmpR (opEqBounds T (hr.mono (by decide))) (pe_ix (r := rIxL K) ix_list (pv 6) (pv 5) (fun _ _ => rfl)) (pe_ix (r := rIxL K) ix_list (pv 6) (pv 13) (fun _ _ => rfl)) (nomark _)) (pe_cmpR (r := rEqD K) (op_eqD hr.units) (pe_ix (r := rIxL K) ix_list (pv 4) (pv 5) (fun _ _ => rfl)) (pe_ix (r := rIxL K) ix_list (pv 4) (pv 13) (fun _ _ => rfl)) (nomark _)) (nomark _)) (pw_or1 (pt_cmpR op_ne (pe_cmpR (opNeBounds T (hr.mono (by decide))) (pe_ix (r := rIxL K) ix_list (pv 6) (pv 5) (fun _ _ => rfl)) (pe_ix (r := rIxL K) ix_list (pv 6) (pv 13) (fun _ _ => rfl)) (nomark _)) (pe_cmpR (r := rNeD K) (op_neD hr.units) (pe_ix (r := rIxL K) ix_list (pv 4) (pv 5) (fun _ _ => rfl)) (pe_ix (r := rIxL K) ix_list (pv 4) (pv 13) (fun _ _ => rfl)) (nomark _)) (nomark _))))) (pss_one (ps_ret pe_bl)) pss_nil))))))
      (pss_cons (ps_set (i := 14) sclaw.nd rfl (by first | exact Or.inl rfl | exact Or.inr rfl) (pe_op op_add pe_int (pe_call (okLdigit T) (hr.mono (by decide)) rfl T.gLdigit T.fLdigit.kp T.bLdigit .nil pass0 (pa_cons (pv 2) (pa_cons pe_int pa_nil)))))
      (pss_cons (ps_set (i := 15) sclaw.nd rfl (by first | exact Or.inl rfl | exact Or.inr rfl) (pe_lc (own := [("_law_jar", 10)]) rfl sclaw.nd (pi_range1 rfl T.nrange (pa_cons (pv 3) pa_nil)) (blkOk_by (own := [("_law_jar", 10)]) (N := ["_law_script", "_law_number_here", "_law_s", "_law_jars", "_law_some", "_law_k", "_law_lot", "_law_facts_here", "_law_kept", "_law_loads", "_law_jar", "_law_due", "_law_one", "_law_j", "_law_share", "_law_start"]) (sc := defScope slaw) (by decide +kernel)) (fun _ _ _ _ _ => (pg_name (i := 10) sclaw.nd rfl (by first | exact Or.inl rfl | exact Or.inr rfl))) (fun _ _ _ _ _ => pts_nil) (fun _ _ _ _ _ => (pe_call (okLdigit T) (hr.mono (by decide)) rfl T.gLdigit T.fLdigit.kp T.bLdigit .nil pass0 (pa_cons (pv 2) (pa_cons pe_int pa_nil))))))
      (pss_cons (ps_if (pt_cmpR (r := rEqD K) (op_eqD hr.units) (pe_lc (own := [("_law_one", 12)]) rfl sclaw.nd (pi_list (pv 4)) (blkOk_by (own := [("_law_one", 12)]) (N := ["_law_script", "_law_number_here", "_law_s", "_law_jars", "_law_some", "_law_k", "_law_lot", "_law_facts_here", "_law_kept", "_law_loads", "_law_jar", "_law_due", "_law_one", "_law_j", "_law_share", "_law_start"]) (sc := defScope slaw) (by decide +kernel)) (fun _ _ _ _ _ => (pg_name (i := 12) sclaw.nd rfl (by first | exact Or.inl rfl | exact Or.inr rfl))) (fun _ _ _ _ _ => (pts_one (pt_cmpR op_lt (pe_call (okLsum T) (hr.mono (by decide)) rfl T.gLsum T.fLsum.kp T.bLsum .nil pass0 (pa_cons (pv 12) (pa_cons (pv 15) pa_nil))) (pe_op op_mul (pe_call (okLfloor T) (hr.mono (by decide)) rfl T.gLfloor T.fLfloor.kp T.bLfloor .nil pass0 (pa_cons (pv 12) pa_nil)) (pv 14)) (nomark _)))) (fun _ _ _ _ _ => (pv 12))) (pe_lst pa_nil) (nomark _)) (pss_one (ps_if (pt_cmpR op_lt (pe_callB (cr_sum rfl) rfl T.nsum (by decide +kernel) (pa_cons (pe_lc (own := [("_law_jar", 10)]) rfl sclaw.nd (pi_range1 rfl T.nrange (pa_cons (pv 3) pa_nil)) (blkOk_by (own := [("_law_jar", 10)]) (N := ["_law_script", "_law_number_here", "_law_s", "_law_jars", "_law_some", "_law_k", "_law_lot", "_law_facts_here", "_law_kept", "_law_loads", "_law_jar", "_law_due", "_law_one", "_law_j", "_law_share", "_law_start"]) (sc := defScope slaw) (by decide +kernel)) (fun _ _ _ _ _ => (pg_name (i := 10) sclaw.nd rfl (by first | exact Or.inl rfl | exact Or.inr rfl))) (fun _ _ _ _ _ => pts_nil) (fun _ _ _ _ _ => (pe_op op_mul (pe_ix (r := rIxL K) ix_list (pv 9) (pv 10) (fun _ _ => rfl)) (pe_ix (r := rIxL K) ix_list (pv 15) (pv 10) (fun _ _ => rfl))))) pa_nil)) (pe_op op_mul (pe_call (okworth T) (hr.mono (by decide)) rfl T.gworth T.fworth.kp T.bworth .nil pass0 (pa_cons (pv 6) pa_nil)) (pv 14)) (nomark _)) (pss_one (ps_ret pe_bl)) pss_nil)) pss_nil)
      (pss_one (ps_if (PW.pt (pw_or (pt_cmpR (opNeLists T (hr.mono (by decide))) (pv 6) (pv 8) (nomark _)) (pw_or (pt_cmpR op_ne (pe_call (okload T) (hr.mono (by decide)) rfl T.gload T.fload.kp T.bload .nil pass0 (pa_cons (pe_lst pa_nil) (pa_cons pe_int pa_nil))) pe_int (nomark _)) (pw_or (pt_cmpR op_ne (pe_call (okworth T) (hr.mono (by decide)) rfl T.gworth T.fworth.kp T.bworth .nil pass0 (pa_cons (pe_lst pa_nil) pa_nil)) pe_int (nomark _)) (pw_or1 (pt_not (pt_val (pe_call (okLgroupkept T) (hr.mono (by decide)) rfl T.gLgroupkept T.fLgroupkept.kp T.bLgroupkept .nil pass0 (pa_cons (pv 2) (pa_cons (pv 3) pa_nil)))))))))) (pss_one (ps_ret pe_bl)) pss_nil)))))))))))))))))
      (pss_one (ps_ret pe_bl))), ?_⟩
    refine ⟨_, rfl, (by show 1 ≤ sizeLine; decide), fun z hz => ?_⟩
    have s1 : Same H (upd H z (.lst [V.int 0])) := same_new hz
    refine ⟨a, z, _, _, rfl, rfl, s1.seq hS, SqL.of upd_same, ?_, fun q hq0 => ?_⟩
    · rw [List.length_map]
      exact Nat.le_trans (by simp; omega : ns.length + [V.int 0].length ≤ 100) (by decide)
    have s2 := s1.trans (same_new (o := .lst (ns.map V.int ++ [V.int 0])) hq0)
    refine ⟨_, rfl, q, _, rfl, SqL.of upd_same, fun l hl => ?_⟩
    rw [show (6 : Int) = ((6 : Nat) : Int) from rfl, cut_take]
    have s3 := s2.trans (same_new (o := .lst ((ns.map V.int ++ [V.int 0]).take 6)) hl)
    refine ⟨l, rfl, ⟨_, SqL.of upd_same⟩, ?_⟩
    have allI : ∀ y ∈ (ns.map V.int ++ [V.int 0]).take 6, ∃ n, y = V.int n := fun y hy => by
      rcases List.mem_append.mp (List.mem_of_mem_take hy) with k | k
      · obtain ⟨n, _, e⟩ := List.mem_map.mp k
        exact ⟨n, e.symm⟩
      · exact ⟨0, by simpa using k⟩
    generalize hxs : (ns.map V.int ++ [V.int 0]).take 6 = xs at *
    generalize hHl : upd (upd (upd H z (.lst [V.int 0])) q (.lst (ns.map V.int ++ [V.int 0]))) l (.lst xs) = Hl at *
    have gl : Hl l = some (.lst xs) := by rw [← hHl]; exact upd_same
    refine for_list (K := K) (a := l) (xs := xs) (fun i σ H' => ∃ v1 v2 v3 v4 v5 v6 v7 v8 v9 v10 v11 v12 v13 v14 v15 : Option V, σ = [some (.ref a), v1, v2, v3, v4, v5, v6, v7, v8, v9, v10, v11, v12, v13, v14, v15] ∧ Same Hl H') ⟨none, none, none, none, none, none, none, none, none, none, none, none, none, none, none, rfl, Same.refl _⟩ (fun i σ H' _ ⟨_, _, _, _, _, _, _, _, _, _, _, _, _, _, _, _, e⟩ => e.seq (SqL.of gl)) ?_ ?_
    · rintro i y σ H0 hi ⟨v1, v2, v3, v4, v5, v6, v7, v8, v9, v10, v11, v12, v13, v14, v15, rfl, sm0⟩
      obtain ⟨n, rfl⟩ := allI y (List.mem_of_getElem? hi)
      refine ⟨_, rfl, n, rfl, fun H2 s s0 w2 s2' => ?_⟩
      have sme : ∀ {G : Hp}, Fr s H0 G → Same H0 G := fun e b o q => e b o (ne_of_none q s0) q
      refine ⟨_, rfl, s, 6, rfl, w2, by decide, by decide, fun H3 x lx w3 f3 => ⟨_, _, rfl, rfl, ?_⟩⟩
      obtain ⟨m, em, m1, m6⟩ : ∃ m : Nat, (1 + (x : Int)) = (m : Int) ∧ 1 ≤ m ∧ m ≤ 6 := ⟨1 + x, by omega, by omega, by omega⟩
      refine (congrArg (fun z : Int => gName 3 (V.int z) _ _ _) em).mpr ?_
      have f03 : Fr s H0 H3 := (Fr.of s2').trans f3
      refine ⟨_, rfl, s, 9, rfl, w3, by decide, by decide, fun H4 y4 ly4 w4 f4 => ⟨_, rfl, by omega, by omega, fun D1 hD1 => ?_⟩⟩
      have D1s := w4.ne hD1
      have f04 : Fr s H0 H4 := f03.trans f4
      refine lc_range (lo := 0) (n := (y4 : Int).toNat) (fun i H' => ∃ (ws : List V) (bs : List Bd), H' D1 = some (.lst ws) ∧ A2 (FactAt H') ws bs ∧ (∀ b ∈ bs, b.Ok) ∧ bs.length = i ∧ StateAt H' s ∧ Fr s H4 H') ⟨[], [], upd_same, trivial, (fun b h => by cases h), rfl, w4.new hD1, Fr.of (same_new hD1)⟩ ?_ ?_
      · rintro i' H' hi' ⟨ws, bs, g1, g2, g3, g4, g5, g6⟩
        refine ⟨rfl, _, rfl, _, rfl, s, m, rfl, g5, m6, fun H5 p b p0 hF hO w5 f5 => ?_⟩
        have gD := f5 _ _ D1s g1
        obtain ⟨o, ho, hb⟩ := g5.ex
        have bl : Fr D1 H5 (upd H5 D1 (.lst (ws ++ [V.ref p]))) := fr_mut (Fr.refl _ _)
        have wl := g2.len
        refine ⟨_, gD, Nat.lt_of_lt_of_le (by omega : ws.length < 100) (by decide), ws ++ [V.ref p], bs ++ [b], upd_same, A2.app (A2.mono (fun _ _ k => FactAt.fr bl gD bl_l (k.fr f5 ho hb)) g2) ⟨FactAt.fr bl gD bl_l hF, trivial⟩, ?_, by simp [g4], w5.mut D1s, fr_new (g6.trans f5) hD1⟩
        intro c hc
        rcases List.mem_append.mp hc with h | h
        · exact g3 c h
        · obtain rfl : c = b := by simpa using h
          exact hO
      · rintro H5 ⟨ws0, bs0, g1, g2, g3, g4, w5, f5⟩
        have wl0 := g2.len
        have b8 : bs0.length ≤ 8 := by omega
        refine ⟨_, rfl, _, rfl, ?_⟩
        unfold tNoPart
        refine ⟨_, rfl, s, 3, rfl, w5, by decide, by decide, fun H6 d ld w6 f6 => ⟨_, rfl, D1, _, rfl, SqL.of (f6 _ _ D1s g1), fun l2 hl2 => ?_⟩⟩
        rw [cut_take]
        have s6 := same_new (o := HO.lst (ws0.take d)) hl2
        refine ⟨D1, l2, ws0, ws0.take d, rfl, rfl, SqL.of (s6 _ _ (f6 _ _ D1s g1)), SqL.of upd_same, Nat.le_trans (by rw [List.length_take]; omega : ws0.length + (ws0.take d).length ≤ 100) (by decide), fun sm hsm => ?_⟩
        have s7 := s6.trans (same_new (o := HO.lst (ws0 ++ ws0.take d)) hsm)
        have gs : (upd (upd H6 l2 (.lst (ws0.take d))) sm (.lst (ws0 ++ ws0.take d))) sm = some (.lst (ws0 ++ ws0.take d)) := upd_same
        have w7 := w6.same s7
        have hA5 : A2 (FactAt H6) ws0 bs0 := by
          obtain ⟨o, ho, hb⟩ := w5.ex
          exact A2.mono (fun _ _ k => k.fr f6 ho hb) g2
        have hA7 := A2.mono (fun _ _ k => FactAt.same s7 k) (A2.app hA5 (A2.take d hA5))
        have nsm : sm ≠ s := (w6.same s6).ne hsm
        have f07 : Fr s H0 _ := ((f04.trans f5).trans f6).trans (Fr.of s7)
        have okA : ∀ b ∈ bs0 ++ bs0.take d, b.Ok := fun b hb => by
          rcases List.mem_append.mp hb with h | h
          · exact g3 b h
          · exact g3 b (List.mem_of_mem_take h)
        have lb : (bs0 ++ bs0.take d).length ≤ 10 := by
          rw [List.length_append, List.length_take]
          omega
        generalize (upd (upd H6 l2 (.lst (ws0.take d))) sm (.lst (ws0 ++ ws0.take d))) = H7 at gs w7 hA7 f07 ⊢
        generalize bs0 ++ bs0.take d = bs at hA7 okA lb
        generalize ws0 ++ ws0.take d = ws at gs hA7
        have wl := hA7.len
        -- the bounds themselves
        refine ⟨_, rfl, sm, rfl, ⟨_, SqL.of gs⟩, fun lot hlot => ?_⟩
        refine lc_list (K := K) (a := sm) (xs := ws) (fun i H' => ∃ us, H' lot = some (.lst us) ∧ A2 (BoundAt T H') us (bs.take i) ∧ Same H7 H') ⟨[], upd_same, by simp [A2], same_new hlot⟩ (fun i H' _ ⟨_, _, _, e⟩ => e.seq (SqL.of gs)) ?_ ?_
        · rintro i2 y2 H' hi2 ⟨us, k1, k2, k3⟩
          obtain ⟨b, hb, hy⟩ := hA7.get hi2
          have ul := k2.len
          have ub : (bs.take i2).length ≤ 10 := by rw [List.length_take]; omega
          refine ⟨rfl, _, rfl, y2, b, rfl, hy.same k3, okA b (List.mem_of_getElem? hb), fun H8 p p0 hB s8 => ?_⟩
          have gD := s8 _ _ k1
          have bl : Fr lot H8 (upd H8 lot (.lst (us ++ [V.ref p]))) := fr_mut (Fr.refl _ _)
          refine ⟨_, gD, Nat.lt_of_lt_of_le (by omega : us.length < 100) (by decide), us ++ [V.ref p], upd_same, ?_, same_mut (k3.trans s8) hlot⟩
          rw [List.take_add_one, hb]
          exact A2.app (A2.mono (fun _ _ k => BoundAt.fr bl gD bl_l (k.same s8)) k2) ⟨BoundAt.fr bl gD bl_l hB, trivial⟩
        · rintro H8 ⟨us, k1, k2, s8⟩
          rw [wl, List.take_length] at k2
          have ul := k2.len
          refine ⟨_, rfl, lot, _, rfl, .inl (SqL.of k1), fun kp hkp => ?_⟩
          have s9 := same_new (o := HO.lst us) hkp
          have ST : St T (upd H8 kp (.lst us)) s sm lot kp ws us bs := ⟨(w7.same s8).same s9, s9 _ _ (s8 _ _ gs), s9 _ _ k1, upd_same, A2.mono (fun _ _ k => k.same (s8.trans s9)) hA7, A2.mono (fun _ _ k => k.same s9) k2, nsm, w7.ne hlot, (w7.same s8).ne hkp⟩
          have f09 := f07.trans (Fr.of (s8.trans s9))
          generalize upd H8 kp (.lst us) = H9 at ST f09 ⊢
          clear k1 s8 s9 hkp
          -- the loads
          refine ⟨_, rfl, m, rfl, by omega, by omega, fun D3 hD3 => ?_⟩
          refine lc_range (lo := 0) (n := (m : Int).toNat) (fun i H' => H' D3 = some (.lst (vi ((List.range i).map fun (j : Nat) => loadOf (j : Int) bs))) ∧ Same H9 H') ⟨upd_same, same_new hD3⟩ ?_ ?_
          · rintro i3 H' hi3 ⟨k1, k2⟩
            have e0 : (0 + (i3 : Int)) = (i3 : Int) := by omega
            refine ⟨rfl, _, rfl, sm, rfl, ⟨_, SqL.of (k2 _ _ ST.so)⟩, fun D4 hD4 => ?_⟩
            refine lc_list (K := K) (a := sm) (xs := ws) (fun i H'' => H'' D4 = some (.lst (vi ((bs.take i).map (Bd.load (i3 : Int))))) ∧ Same H' H'') ⟨upd_same, same_new hD4⟩ (fun i H'' _ h => h.2.seq (SqL.of (k2 _ _ ST.so))) ?_ ?_
            · rintro i4 y4' H'' hi4 ⟨q1, q2⟩
              obtain ⟨b, hb, hy⟩ := ST.fa.get hi4
              refine ⟨rfl, _, rfl, _, rfl, y4', b, _, rfl, (hy.same k2).same q2, fun H3' s3' => ?_⟩
              refine ⟨_, s3' _ _ q1, Nat.lt_of_lt_of_le (by rw [List.length_map, List.length_map, List.length_take]; omega : _ < 100) (by decide), ?_, same_mut (q2.trans s3') hD4⟩
              rw [upd_same, List.take_add_one, hb, e0]
              simp [vi]
            · rintro H'' ⟨q1, q2⟩
              rw [wl, List.take_length] at q1
              refine ⟨D4, _, rfl, SqL.of q1, ?_⟩
              refine ⟨_, q2 _ _ k1, Nat.lt_of_lt_of_le (by rw [List.length_map, List.length_map, List.length_range]; omega : _ < 100) (by decide), ?_, same_mut (k2.trans q2) hD3⟩
              rw [upd_same, List.range_succ]
              simp [vi]
              rfl
          · rintro H10 ⟨ld, s10⟩
            rw [Int.toNat_natCast] at ld
            have ST10 := ST.same s10
            have nld : D3 ≠ s := ST.st.ne hD3
            have f10 := f09.trans (Fr.of s10)
            -- the worth that is due
            refine ⟨_, rfl, sm, rfl, ⟨_, SqL.of ST10.so⟩, fun D5 hD5 => ?_⟩
            refine lc_list (K := K) (a := sm) (xs := ws) (fun i H'' => H'' D5 = some (.lst (vi ((bs.take i).map Bd.worth))) ∧ Same H10 H'') ⟨upd_same, same_new hD5⟩ (fun i H'' _ h => h.2.seq (SqL.of ST10.so)) ?_ ?_
            · rintro i4 y4' H'' hi4 ⟨q1, q2⟩
              obtain ⟨b, hb, hy⟩ := ST10.fa.get hi4
              refine ⟨rfl, _, rfl, y4', b, rfl, hy.same q2, fun H3' s3' => ?_⟩
              refine ⟨_, s3' _ _ q1, Nat.lt_of_lt_of_le (by rw [List.length_map, List.length_map, List.length_take]; omega : _ < 100) (by decide), ?_, same_mut (q2.trans s3') hD5⟩
              rw [upd_same, List.take_add_one, hb]
              simp [vi]
            · rintro H11 ⟨q1, s11⟩
              rw [wl, List.take_length] at q1
              refine ⟨D5, _, rfl, SqL.of q1, ?_⟩
              have ST11 := ST10.same s11
              have ld11 := s11 _ _ ld
              have f11 := f10.trans (Fr.of s11)
              clear q1
              -- of a tuple
              refine ⟨_, rfl, m, rfl, by omega, by omega, fun D6 hD6 => ?_⟩
              refine lc_range (lo := 0) (n := (m : Int).toNat) (fun i H' => H' D6 = some (.lst (vi ((List.range i).map fun (j : Nat) => loadOf (j : Int) bs))) ∧ Same H11 H') ⟨upd_same, same_new hD6⟩ ?_ ?_
              · rintro i3 H' hi3 ⟨k1, k2⟩
                have e0 : (0 + (i3 : Int)) = (i3 : Int) := by omega
                have STx := ST11.same k2
                refine ⟨rfl, _, rfl, lot, _, rfl, .inl ⟨SqL.of STx.lo, fun t ht => ?_⟩⟩
                have st := same_new (o := HO.tup us) ht
                refine ⟨_, rfl, t, us, bs, _, rfl, .inr upd_same, A2.mono (fun _ _ k => BoundAt.same st k) STx.bo, by omega, fun H3' s3' => ?_⟩
                refine ⟨_, s3' _ _ (st _ _ k1), Nat.lt_of_lt_of_le (by rw [List.length_map, List.length_map, List.length_range]; omega : _ < 100) (by decide), ?_, same_mut ((k2.trans st).trans s3') hD6⟩
                rw [upd_same, List.range_succ, e0]
                simp [vi]
              · rintro H12 ⟨k1, s12⟩
                rw [Int.toNat_natCast] at k1
                refine ⟨_, rfl, ne_ints (SqL.of k1) (SqL.of (s12 _ _ ld11)) rfl ⟨_, rfl, ifF rfl ?_⟩⟩
                have ST12 := ST11.same s12
                refine ⟨_, rfl, lot, _, rfl, .inl ⟨SqL.of ST12.lo, fun t ht => ?_⟩⟩
                have st := same_new (o := HO.tup us) ht
                refine ⟨t, us, bs, rfl, .inr upd_same, A2.mono (fun _ _ k => BoundAt.same st k) ST12.bo, by omega, fun H13 s13 => ?_⟩
                refine ⟨_, rfl, rfl, _, rfl, ifN (fun _ => ?_) fun ne => absurd rfl ne⟩
                have s1113 := (s12.trans st).trans s13
                have ST13 := ST11.same s1113
                have ld13 := s1113 _ _ ld11
                have f13 := f11.trans (Fr.of s1113)
                -- of a list
                refine ⟨_, rfl, m, rfl, by omega, by omega, fun D7 hD7 => ?_⟩
                refine lc_range (lo := 0) (n := (m : Int).toNat) (fun i H' => H' D7 = some (.lst (vi ((List.range i).map fun (j : Nat) => loadOf (j : Int) bs))) ∧ Same H13 H') ⟨upd_same, same_new hD7⟩ ?_ ?_
                · rintro i3 H' hi3 ⟨k1, k2⟩
                  have e0 : (0 + (i3 : Int)) = (i3 : Int) := by omega
                  have STx := ST13.same k2
                  refine ⟨rfl, _, rfl, _, rfl, lot, us, bs, _, rfl, .inl STx.lo, STx.bo, by omega, fun H3' s3' => ?_⟩
                  refine ⟨_, s3' _ _ k1, Nat.lt_of_lt_of_le (by rw [List.length_map, List.length_map, List.length_range]; omega : _ < 100) (by decide), ?_, same_mut (k2.trans s3') hD7⟩
                  rw [upd_same, List.range_succ, e0]
                  simp [vi]
                · rintro H14 ⟨k1, s14⟩
                  rw [Int.toNat_natCast] at k1
                  refine ⟨_, rfl, ne_ints (SqL.of k1) (SqL.of (s14 _ _ ld13)) rfl ⟨_, rfl, ifF rfl ?_⟩⟩
                  have ST14 := ST13.same s14
                  refine ⟨_, rfl, lot, us, bs, rfl, .inl ST14.lo, ST14.bo, by omega, fun H15 s15 => ?_⟩
                  refine ⟨_, rfl, rfl, _, rfl, ifN (fun _ => ?_) fun ne => absurd rfl ne⟩
                  have s1315 := s14.trans s15
                  have ST15 := ST13.same s1315
                  have ld15 := s1315 _ _ ld13
                  have f15 := f13.trans (Fr.of s1315)
                  -- each against each
                  refine ⟨_, rfl, sm, _, rfl, .inl (SqL.of ST15.so), _, rfl, by omega, by omega, ?_⟩
                  refine for_range (lo := 0) (n := ((ws.length : Nat) : Int).toNat) (fun i σ H' => ∃ v5 v13 : Option V, σ = [some (.ref a), some (.int n), some (.ref s), some (.int m), some (.ref sm), v5, some (.ref lot), v7, some (.ref kp), some (.ref D3), v10, some (.int (worthOf bs)), v12, v13, v14, v15] ∧ Same H15 H')
                    ⟨v5, v13, rfl, Same.refl _⟩ ?_ ?_
                  · rintro k σ H16 hk ⟨v5, v13, rfl, s16⟩
                    have ST16 := ST15.same s16
                    have hk' : k < ws.length := by omega
                    have e0 : (0 + (k : Int)) = (k : Int) := by omega
                    obtain ⟨fv, b, uv, hfv, hb, huv, hF, hB⟩ := ST16.at hk'
                    have hB1 : atI us (0 + (k : Int)) = some uv := by rw [e0]; exact atI_nat huv
                    have hF1 : atI ws (0 + (k : Int)) = some fv := by rw [e0]; exact atI_nat hfv
                    refine ⟨_, rfl, _, rfl, lot, _, _, _, rfl, rfl, SqL.of ST16.lo, hB1, _, rfl, _, rfl, sm, _, _, _, rfl, rfl, SqL.of ST16.so, hF1, uv, fv, b, rfl, hB, hF, fun H17 s17 => ⟨_, rfl, ifF rfl ?_⟩⟩
                    have s1617 := s16.trans s17
                    have ST17 := ST16.same s17
                    refine ⟨_, rfl, sm, _, rfl, .inl (SqL.of ST17.so), _, rfl, by omega, by omega, ?_⟩
                    refine for_range (lo := 0) (n := ((ws.length : Nat) : Int).toNat) (fun i σ H' => ∃ v13 : Option V, σ = [some (.ref a), some (.int n), some (.ref s), some (.int m), some (.ref sm), some (.int (0 + (k : Int))), some (.ref lot), v7, some (.ref kp), some (.ref D3), v10, some (.int (worthOf bs)), v12, v13, v14, v15] ∧ Same H15 H')
                      ⟨v13, rfl, s1617⟩ ?_ ?_
                    · rintro j σ H18 hj ⟨v13, rfl, s18⟩
                      have ST18 := ST15.same s18
                      have hj' : j < ws.length := by omega
                      have e1 : (0 + (j : Int)) = (j : Int) := by omega
                      obtain ⟨fk, bk, uk, hfk, hbk, huk, hFk, hBk⟩ := ST18.at hk'
                      obtain ⟨fj, bj, uj, hfj, hbj, huj, hFj, hBj⟩ := ST18.at hj'
                      have auk : atI us (0 + (k : Int)) = some uk := by rw [e0]; exact atI_nat huk
                      have afk : atI ws (0 + (k : Int)) = some fk := by rw [e0]; exact atI_nat hfk
                      have auj : atI us (0 + (j : Int)) = some uj := by rw [e1]; exact atI_nat huj
                      have afj : atI ws (0 + (j : Int)) = some fj := by rw [e1]; exact atI_nat hfj
                      refine ⟨_, rfl, _, rfl, lot, _, _, _, rfl, rfl, SqL.of ST18.lo, auk, _, rfl, _, rfl, lot, _, _, _, rfl, rfl, SqL.of ST18.lo, auj, eqBd hBk hBj fun H19 s19 => ?_⟩
                      have ST19 := ST18.same (ext_same s19)
                      refine ⟨_, rfl, _, rfl, sm, _, _, _, rfl, rfl, SqL.of ST19.so, afk, _, rfl, _, rfl, sm, _, _, _, rfl, rfl, SqL.of ST19.so, afj, eq_dat (hFk.same (ext_same s19)) (hFj.same (ext_same s19)) ⟨rfl, _, rfl, ifN (fun _ => ?_) fun ne => absurd rfl ne⟩⟩
                      refine ⟨_, rfl, _, rfl, lot, _, _, _, rfl, rfl, SqL.of ST19.lo, auk, _, rfl, _, rfl, lot, _, _, _, rfl, rfl, SqL.of ST19.lo, auj, neBd (hBk.same (ext_same s19)) (hBj.same (ext_same s19)) fun H20 s20 => ?_⟩
                      have ST20 := ST19.same (ext_same s20)
                      refine ⟨_, rfl, _, rfl, sm, _, _, _, rfl, rfl, SqL.of ST20.so, afk, _, rfl, _, rfl, sm, _, _, _, rfl, rfl, SqL.of ST20.so, afj, ne_dat ((hFk.same (ext_same s19)).same (ext_same s20)) ((hFj.same (ext_same s19)).same (ext_same s20)) ⟨rfl, _, rfl, ifN (fun _ => ?_) fun ne => absurd rfl ne⟩⟩
                      exact ⟨_, rfl, (s18.trans (ext_same s19)).trans (ext_same s20)⟩
                    · rintro σ H18 ⟨v13, rfl, s18⟩
                      exact ⟨_, _, rfl, s18⟩
                  · rintro σ H16 ⟨v5, v13, rfl, s16⟩
                    have ST16 := ST15.same s16
                    have ld16 := s16 _ _ ld15
                    have f16 := f15.trans (Fr.of s16)
                    refine ⟨_, rfl, s, 3, rfl, ST16.st, by decide, by decide, fun H17 sh lsh w17 f17 => ⟨_, _, rfl, rfl, ?_⟩⟩
                    have ST17 := ST16.fr f17 w17
                    have ld17 := f17 _ _ nld ld16
                    have f017 := f16.trans f17
                    refine ⟨_, rfl, m, rfl, by omega, by omega, fun D8 hD8 => ?_⟩
                    have D8s := w17.ne hD8
                    refine lc_range (lo := 0) (n := (m : Int).toNat) (fun i H' => ∃ l : List Int, H' D8 = some (.lst (vi l)) ∧ l.length = i ∧ (∀ z ∈ l, 0 ≤ z ∧ z < 30) ∧ StateAt H' s ∧ Fr s H17 H') ⟨[], upd_same, rfl, (fun z h => by cases h), w17.new hD8, Fr.of (same_new hD8)⟩ ?_ ?_
                    · rintro i3 H' hi3 ⟨l, k1, k2, k3, k4, k5⟩
                      refine ⟨rfl, _, rfl, s, 30, rfl, k4, by decide, by decide, fun H3' z lz w3' f3' => ?_⟩
                      refine ⟨_, f3' _ _ D8s k1, Nat.lt_of_lt_of_le (by rw [List.length_map]; omega : _ < 100) (by decide), l ++ [(z : Int)], ?_, by simp [k2], ?_, w3'.mut D8s, fr_new (k5.trans f3') hD8⟩
                      · rw [upd_same]
                        simp [vi]
                      · intro y hy
                        rcases List.mem_append.mp hy with h | h
                        · exact k3 y h
                        · obtain rfl : y = (z : Int) := by simpa using h
                          omega
                    · rintro H18 ⟨l0, k1, k2, k3, w18, f18⟩
                      rw [Int.toNat_natCast] at k2
                      have ST18 := ST17.fr f18 w18
                      have ld18 := f18 _ _ nld ld17
                      have f018 := f017.trans f18
                      -- of a start that keeps them
                      refine ⟨_, rfl, sm, rfl, ⟨_, SqL.of ST18.so⟩, fun D9 hD9 => ?_⟩
                      refine lc_list (K := K) (a := sm) (xs := ws) (fun i H'' => ∃ (vs : List V) (cs : List Bd), H'' D9 = some (.lst vs) ∧ A2 (FactAt H'') vs cs ∧ (cs = [] → ∀ b ∈ bs.take i, b.worth * (1 + (sh : Int)) ≤ b.sumAt l0) ∧ cs.length ≤ i ∧ Same H18 H'') ⟨[], [], upd_same, trivial, (fun _ b h => by simp at h), Nat.le_refl _, same_new hD9⟩ (fun i H'' _ ⟨_, _, _, _, _, _, e⟩ => e.seq (SqL.of ST18.so)) ?_ ?_
                      · rintro i4 y4' H'' hi4 ⟨vs, cs, q1, q2, q3, q4, q5⟩
                        obtain ⟨b, hb, hy⟩ := ST18.fa.get hi4
                        have i4l : i4 < ws.length := (List.getElem?_eq_some_iff.mp hi4).1
                        have vl := q2.len
                        refine ⟨rfl, _, rfl, _, rfl, y4', b, D8, l0, rfl, hy.same q5, SqL.of (q5 _ _ k1), by omega, fun Ha sa => ?_⟩
                        refine ⟨_, rfl, y4', b, rfl, (hy.same q5).same sa, fun Hb sb => ?_⟩
                        have sab := sa.trans sb
                        have q2' := A2.mono (fun _ _ k => FactAt.same sab k) q2
                        refine ⟨_, rfl, _, _, rfl, rfl, .inr ⟨by omega, by omega⟩, _, _, rfl, rfl, _, rfl, ifD (fun lt => ?_) fun ge => ?_⟩
                        · have gD := sab _ _ q1
                          have bl : Fr D9 Hb (upd Hb D9 (.lst (vs ++ [y4']))) := fr_mut (Fr.refl _ _)
                          refine ⟨_, rfl, _, gD, Nat.lt_of_lt_of_le (by omega : vs.length < 100) (by decide), vs ++ [y4'], cs ++ [b], upd_same, A2.app (A2.mono (fun _ _ k => FactAt.fr bl gD bl_l k) q2') ⟨FactAt.fr bl gD bl_l ((hy.same q5).same sab), trivial⟩, fun z => by simp at z, by simp [q4], same_mut (q5.trans sab) hD9⟩
                        · refine ⟨vs, cs, sab _ _ q1, q2', fun z c hc => ?_, by omega, q5.trans sab⟩
                          rw [List.take_add_one, hb] at hc
                          rcases List.mem_append.mp hc with h | h
                          · exact q3 z c h
                          · obtain rfl : c = b := by simpa using h
                            omega
                      · rintro H19 ⟨vs, cs, q1, q2, q3, q4, s19⟩
                        rw [wl, List.take_length] at q3
                        refine ⟨(by show 0 ≤ sizeLine; decide), fun e0 he0 => ?_⟩
                        have se := same_new (o := HO.lst []) he0
                        refine eq_factsN (SqL.of (se _ _ q1)) (A2.mono (fun _ _ k => FactAt.same se k) q2) (SqL.of upd_same) ⟨_, rfl, ?_⟩
                        have s1820 := s19.trans se
                        have pr : St T (upd H19 e0 (.lst [])) s sm lot kp ws us bs ∧ Fr s H0 (upd H19 e0 (.lst [])) ∧ (upd H19 e0 (.lst [])) D3 = some (.lst (vi ((List.range m).map fun (j : Nat) => loadOf (j : Int) bs))) ∧ (upd H19 e0 (.lst [])) D8 = some (.lst (vi l0)) := ⟨ST18.same s1820, f018.trans (Fr.of s1820), s1820 _ _ ld18, s1820 _ _ k1⟩
                        generalize (upd H19 e0 (.lst [])) = H20 at pr ⊢
                        clear se s1820
                        revert H20
                        refine cutAll (fun H21 ⟨ST21, f21, _⟩ => ?_) fun ce go H20 ⟨ST20, f20, ld20, st20⟩ => ?_
                        · refine ⟨_, rfl, _, rfl, lot, kp, us, rfl, rfl, ST21.lo, ST21.ke, A2.refs ST21.bo, ⟨_, rfl, ifF rfl ?_⟩⟩
                          refine ⟨(by show 0 ≤ sizeLine; decide), fun e1 he1 => ?_⟩
                          have s22 := same_new (o := HO.lst []) he1
                          refine ⟨e1, [], [], _, rfl, .inl upd_same, trivial, by decide, fun H23 s23 => ⟨rfl, _, rfl, ifN (fun _ => ?_) fun ne => absurd rfl ne⟩⟩
                          refine ⟨(by show 0 ≤ sizeLine; decide), fun e2 he2 => ?_⟩
                          have s24 := same_new (o := HO.lst []) he2
                          refine ⟨e2, [], [], rfl, .inl upd_same, trivial, by decide, fun H25 s25 => ⟨rfl, _, rfl, ifN (fun _ => ?_) fun ne => absurd rfl ne⟩⟩
                          have s2125 := (s22.trans s23).trans (s24.trans s25)
                          refine ⟨_, rfl, _, rfl, s, m, rfl, ST21.st.same s2125, m6, fun H26 w26 f26 => ⟨_, rfl, ifF rfl ?_⟩⟩
                          exact ⟨_, _, _, _, _, _, _, _, _, _, _, _, _, _, _, rfl, sm0.trans (sme ((f21.trans (Fr.of s2125)).trans f26))⟩
                        · have ce := of_decide_eq_true ce
                          have ge := sum_ge l0 (1 + (sh : Int)) bs (q3 ce)
                          refine ⟨_, rfl, m, rfl, by omega, by omega, fun Da hDa => ?_⟩
                          refine lc_range (lo := 0) (n := (m : Int).toNat) (fun i H' => H' Da = some (.lst (vi ((List.range i).map fun (j : Nat) => loadOf (j : Int) bs * at0 l0 j))) ∧ Same H20 H') ⟨upd_same, same_new hDa⟩ ?_ ?_
                          · rintro i3 H' hi3 ⟨k1, k2'⟩
                            rw [Int.toNat_natCast] at hi3
                            have e0 : (0 + (i3 : Int)) = (i3 : Int) := by omega
                            have a1 : atI (vi ((List.range m).map fun (j : Nat) => loadOf (j : Int) bs)) (0 + (i3 : Int)) = some (.int (loadOf (i3 : Int) bs)) := by
                              rw [e0]
                              refine atI_nat ?_
                              simp [vi, hi3]
                            have a2 : atI (vi l0) (0 + (i3 : Int)) = some (.int (at0 l0 i3)) := by
                              rw [e0]
                              exact vi_at (by omega)
                            have b30 := k3 (at0 l0 i3) (at0_mem (by omega))
                            refine ⟨rfl, _, rfl, _, rfl, D3, _, _, _, rfl, rfl, SqL.of (k2' _ _ ld20), a1, _, rfl, _, rfl, D8, _, _, _, rfl, rfl, SqL.of (k2' _ _ st20), a2, _, _, rfl, rfl, .inr ⟨by omega, by omega⟩, ?_⟩
                            refine ⟨_, k1, Nat.lt_of_lt_of_le (by rw [List.length_map, List.length_map, List.length_range]; omega : _ < 100) (by decide), ?_, same_mut k2' hDa⟩
                            rw [upd_same, List.range_succ]
                            simp [vi]
                          · rintro H21 ⟨k1, s21⟩
                            rw [Int.toNat_natCast] at k1
                            have sw := sum_swap l0 bs
                            rw [k2] at sw
                            have STa := ST20.same s21
                            refine ⟨Da, _, rfl, SqL.of k1, _, rfl, lot, us, bs, rfl, .inl STa.lo, STa.bo, by omega, fun H22 s22 => ?_⟩
                            have s2022 := s21.trans s22
                            refine ⟨_, rfl, _, _, rfl, rfl, .inr ⟨by omega, by omega⟩, _, _, rfl, rfl, _, rfl, ifF (decide_eq_false ?_) (go H22 ⟨ST20.same s2022, f20.trans (Fr.of s2022), s2022 _ _ ld20, s2022 _ _ st20⟩)⟩
                            rw [sw]
                            omega
    · rintro σ H' ⟨v1, v2, v3, v4, v5, v6, v7, v8, v9, v10, v11, v12, v13, v14, v15, rfl, sm0⟩
      exact hq H'
end
end Kp

namespace Kp
open PySem PySem.Spec PyProof.Rows L2 KpR
theorem all_mk {l : PySem.W.OpenLaw} {w : World} {K : PySem.W.Frag} {h : Heap} {mg : Str → Option Value} {fa CMost CLeast CApart CBound fMostInit fLeastInit fApartInit fMostEq fLeastEq fApartEq floadof fworthof fload fworth fLstate fLdigit fLgroup fLnumber fLfacts fLmade fLfieldsright fLrises fLsum fLfloor fLgroupkept flaw : Addr} (X : K.In h) (G : h.Ns mainGlobals mg) (hfa : mg "law" = some (.ref fa))
    {odMostInit anMostInit odLeastInit anLeastInit odApartInit anApartInit odMostEq anMostEq odLeastEq anLeastEq odApartEq anApartEq odloadof anloadof odworthof anworthof odload anload odworth anworth odLstate anLstate odLdigit anLdigit odLgroup anLgroup odLnumber anLnumber odLfacts anLfacts odLmade anLmade odLfieldsright anLfieldsright odLrises anLrises odLsum anLsum odLfloor anLfloor odLgroupkept anLgroupkept odlaw anlaw : Option Addr} {slMostInit slLeastInit slApartInit slMostEq slLeastEq slApartEq slloadof slworthof slload slworth slLstate slLdigit slLgroup slLnumber slLfacts slLmade slLfieldsright slLrises slLsum slLfloor slLgroupkept sllaw : Array (Option Value)} {ocMostInit dcMostInit pmMostInit cdMostInit ctMostInit kVMostInit ocLeastInit dcLeastInit pmLeastInit cdLeastInit ctLeastInit kVLeastInit ocApartInit dcApartInit pmApartInit cdApartInit ctApartInit kVApartInit ocMostEq dcMostEq pmMostEq cdMostEq ctMostEq kVMostEq ocLeastEq dcLeastEq pmLeastEq cdLeastEq ctLeastEq kVLeastEq ocApartEq dcApartEq pmApartEq cdApartEq ctApartEq kVApartEq ocloadof dcloadof pmloadof cdloadof ctloadof kVloadof ocworthof dcworthof pmworthof cdworthof ctworthof kVworthof ocload dcload pmload cdload ctload kVload ocworth dcworth pmworth cdworth ctworth kVworth ocLstate dcLstate pmLstate cdLstate ctLstate kVLstate ocLdigit dcLdigit pmLdigit cdLdigit ctLdigit kVLdigit ocLgroup dcLgroup pmLgroup cdLgroup ctLgroup kVLgroup ocLnumber dcLnumber pmLnumber cdLnumber ctLnumber kVLnumber ocLfacts dcLfacts pmLfacts cdLfacts ctLfacts kVLfacts ocLmade dcLmade pmLmade cdLmade ctLmade kVLmade ocLfieldsright dcLfieldsright pmLfieldsright cdLfieldsright ctLfieldsright kVLfieldsright ocLrises dcLrises pmLrises cdLrises ctLrises kVLrises ocLsum dcLsum pmLsum cdLsum ctLsum kVLsum ocLfloor dcLfloor pmLfloor cdLfloor ctLfloor kVLfloor ocLgroupkept dcLgroupkept pmLgroupkept cdLgroupkept ctLgroupkept kVLgroupkept oclaw dclaw pmlaw cdlaw ctlaw kVlaw : Value}
    (xMost : PySem.W.nsIn K mainGlobals "Most" = some (some (.ref CMost)))
    (xLeast : PySem.W.nsIn K mainGlobals "Least" = some (some (.ref CLeast)))
    (xApart : PySem.W.nsIn K mainGlobals "Apart" = some (some (.ref CApart)))
    (xBound : PySem.W.nsIn K mainGlobals "Bound" = some (some (.ref CBound)))
    (aMostInit : PySem.W.findIn K (.ref CMost) "__init__" = some (some (.ref fMostInit)))
    (iMostInit : PySem.W.isFn K (.ref fMostInit) = true)
    (lMostInit : K.lookup fMostInit = some ⟨ocMostInit, odMostInit, .func (PySem.W.fnOf "__init__" "Most.__init__" (defArgs sMostInit) (defBody sMostInit) (defScope sMostInit) .none kVMostInit dcMostInit pmMostInit anMostInit cdMostInit ctMostInit), slMostInit⟩)
    (qMostInit : PySem.W.codeIn K cdMostInit "Most.__init__" = true)
    (kMostInit : PySem.W.keepIn K (.ref fMostInit) = true)
    (aLeastInit : PySem.W.findIn K (.ref CLeast) "__init__" = some (some (.ref fLeastInit)))
    (iLeastInit : PySem.W.isFn K (.ref fLeastInit) = true)
    (lLeastInit : K.lookup fLeastInit = some ⟨ocLeastInit, odLeastInit, .func (PySem.W.fnOf "__init__" "Least.__init__" (defArgs sLeastInit) (defBody sLeastInit) (defScope sLeastInit) .none kVLeastInit dcLeastInit pmLeastInit anLeastInit cdLeastInit ctLeastInit), slLeastInit⟩)
    (qLeastInit : PySem.W.codeIn K cdLeastInit "Least.__init__" = true)
    (kLeastInit : PySem.W.keepIn K (.ref fLeastInit) = true)
    (aApartInit : PySem.W.findIn K (.ref CApart) "__init__" = some (some (.ref fApartInit)))
    (iApartInit : PySem.W.isFn K (.ref fApartInit) = true)
    (lApartInit : K.lookup fApartInit = some ⟨ocApartInit, odApartInit, .func (PySem.W.fnOf "__init__" "Apart.__init__" (defArgs sApartInit) (defBody sApartInit) (defScope sApartInit) .none kVApartInit dcApartInit pmApartInit anApartInit cdApartInit ctApartInit), slApartInit⟩)
    (qApartInit : PySem.W.codeIn K cdApartInit "Apart.__init__" = true)
    (kApartInit : PySem.W.keepIn K (.ref fApartInit) = true)
    (aMostEq : PySem.W.findIn K (.ref CMost) "__eq__" = some (some (.ref fMostEq)))
    (iMostEq : PySem.W.isFn K (.ref fMostEq) = true)
    (lMostEq : K.lookup fMostEq = some ⟨ocMostEq, odMostEq, .func (PySem.W.fnOf "__eq__" "Most.__eq__" (defArgs sMostEq) (defBody sMostEq) (defScope sMostEq) .none kVMostEq dcMostEq pmMostEq anMostEq cdMostEq ctMostEq), slMostEq⟩)
    (qMostEq : PySem.W.codeIn K cdMostEq "Most.__eq__" = true)
    (kMostEq : PySem.W.keepIn K (.ref fMostEq) = true)
    (aLeastEq : PySem.W.findIn K (.ref CLeast) "__eq__" = some (some (.ref fLeastEq)))
    (iLeastEq : PySem.W.isFn K (.ref fLeastEq) = true)
    (lLeastEq : K.lookup fLeastEq = some ⟨ocLeastEq, odLeastEq, .func (PySem.W.fnOf "__eq__" "Least.__eq__" (defArgs sLeastEq) (defBody sLeastEq) (defScope sLeastEq) .none kVLeastEq dcLeastEq pmLeastEq anLeastEq cdLeastEq ctLeastEq), slLeastEq⟩)
    (qLeastEq : PySem.W.codeIn K cdLeastEq "Least.__eq__" = true)
    (kLeastEq : PySem.W.keepIn K (.ref fLeastEq) = true)
    (aApartEq : PySem.W.findIn K (.ref CApart) "__eq__" = some (some (.ref fApartEq)))
    (iApartEq : PySem.W.isFn K (.ref fApartEq) = true)
    (lApartEq : K.lookup fApartEq = some ⟨ocApartEq, odApartEq, .func (PySem.W.fnOf "__eq__" "Apart.__eq__" (defArgs sApartEq) (defBody sApartEq) (defScope sApartEq) .none kVApartEq dcApartEq pmApartEq anApartEq cdApartEq ctApartEq), slApartEq⟩)
    (qApartEq : PySem.W.codeIn K cdApartEq "Apart.__eq__" = true)
    (kApartEq : PySem.W.keepIn K (.ref fApartEq) = true)
    (aloadof : PySem.W.nsIn K mainGlobals "load_of" = some (some (.ref floadof)))
    (lloadof : K.lookup floadof = some ⟨ocloadof, odloadof, .func (PySem.W.fnOf "load_of" "load_of" (defArgs sloadof) (defBody sloadof) (defScope sloadof) .none kVloadof dcloadof pmloadof anloadof cdloadof ctloadof), slloadof⟩)
    (qloadof : PySem.W.codeIn K cdloadof "load_of" = true)
    (kloadof : PySem.W.keepIn K (.ref floadof) = true)
    (aworthof : PySem.W.nsIn K mainGlobals "worth_of" = some (some (.ref fworthof)))
    (lworthof : K.lookup fworthof = some ⟨ocworthof, odworthof, .func (PySem.W.fnOf "worth_of" "worth_of" (defArgs sworthof) (defBody sworthof) (defScope sworthof) .none kVworthof dcworthof pmworthof anworthof cdworthof ctworthof), slworthof⟩)
    (qworthof : PySem.W.codeIn K cdworthof "worth_of" = true)
    (kworthof : PySem.W.keepIn K (.ref fworthof) = true)
    (aload : PySem.W.nsIn K mainGlobals "load" = some (some (.ref fload)))
    (lload : K.lookup fload = some ⟨ocload, odload, .func (PySem.W.fnOf "load" "load" (defArgs sload) (defBody sload) (defScope sload) .none kVload dcload pmload anload cdload ctload), slload⟩)
    (qload : PySem.W.codeIn K cdload "load" = true)
    (kload : PySem.W.keepIn K (.ref fload) = true)
    (aworth : PySem.W.nsIn K mainGlobals "worth" = some (some (.ref fworth)))
    (lworth : K.lookup fworth = some ⟨ocworth, odworth, .func (PySem.W.fnOf "worth" "worth" (defArgs sworth) (defBody sworth) (defScope sworth) .none kVworth dcworth pmworth anworth cdworth ctworth), slworth⟩)
    (qworth : PySem.W.codeIn K cdworth "worth" = true)
    (kworth : PySem.W.keepIn K (.ref fworth) = true)
    (aLstate : PySem.W.nsIn K mainGlobals "_law_state" = some (some (.ref fLstate)))
    (lLstate : K.lookup fLstate = some ⟨ocLstate, odLstate, .func (PySem.W.fnOf "_law_state" "_law_state" (defArgs sLstate) (defBody sLstate) (defScope sLstate) .none kVLstate dcLstate pmLstate anLstate cdLstate ctLstate), slLstate⟩)
    (qLstate : PySem.W.codeIn K cdLstate "_law_state" = true)
    (kLstate : PySem.W.keepIn K (.ref fLstate) = true)
    (aLdigit : PySem.W.nsIn K mainGlobals "_law_digit" = some (some (.ref fLdigit)))
    (lLdigit : K.lookup fLdigit = some ⟨ocLdigit, odLdigit, .func (PySem.W.fnOf "_law_digit" "_law_digit" (defArgs sLdigit) (defBody sLdigit) (defScope sLdigit) .none kVLdigit dcLdigit pmLdigit anLdigit cdLdigit ctLdigit), slLdigit⟩)
    (qLdigit : PySem.W.codeIn K cdLdigit "_law_digit" = true)
    (kLdigit : PySem.W.keepIn K (.ref fLdigit) = true)
    (aLgroup : PySem.W.nsIn K mainGlobals "_law_group" = some (some (.ref fLgroup)))
    (lLgroup : K.lookup fLgroup = some ⟨ocLgroup, odLgroup, .func (PySem.W.fnOf "_law_group" "_law_group" (defArgs sLgroup) (defBody sLgroup) (defScope sLgroup) .none kVLgroup dcLgroup pmLgroup anLgroup cdLgroup ctLgroup), slLgroup⟩)
    (qLgroup : PySem.W.codeIn K cdLgroup "_law_group" = true)
    (kLgroup : PySem.W.keepIn K (.ref fLgroup) = true)
    (aLnumber : PySem.W.nsIn K mainGlobals "_law_number" = some (some (.ref fLnumber)))
    (lLnumber : K.lookup fLnumber = some ⟨ocLnumber, odLnumber, .func (PySem.W.fnOf "_law_number" "_law_number" (defArgs sLnumber) (defBody sLnumber) (defScope sLnumber) .none kVLnumber dcLnumber pmLnumber anLnumber cdLnumber ctLnumber), slLnumber⟩)
    (qLnumber : PySem.W.codeIn K cdLnumber "_law_number" = true)
    (kLnumber : PySem.W.keepIn K (.ref fLnumber) = true)
    (aLfacts : PySem.W.nsIn K mainGlobals "_law_facts" = some (some (.ref fLfacts)))
    (lLfacts : K.lookup fLfacts = some ⟨ocLfacts, odLfacts, .func (PySem.W.fnOf "_law_facts" "_law_facts" (defArgs sLfacts) (defBody sLfacts) (defScope sLfacts) .none kVLfacts dcLfacts pmLfacts anLfacts cdLfacts ctLfacts), slLfacts⟩)
    (qLfacts : PySem.W.codeIn K cdLfacts "_law_facts" = true)
    (kLfacts : PySem.W.keepIn K (.ref fLfacts) = true)
    (aLmade : PySem.W.nsIn K mainGlobals "_law_made" = some (some (.ref fLmade)))
    (lLmade : K.lookup fLmade = some ⟨ocLmade, odLmade, .func (PySem.W.fnOf "_law_made" "_law_made" (defArgs sLmade) (defBody sLmade) (defScope sLmade) .none kVLmade dcLmade pmLmade anLmade cdLmade ctLmade), slLmade⟩)
    (qLmade : PySem.W.codeIn K cdLmade "_law_made" = true)
    (kLmade : PySem.W.keepIn K (.ref fLmade) = true)
    (aLfieldsright : PySem.W.nsIn K mainGlobals "_law_fields_right" = some (some (.ref fLfieldsright)))
    (lLfieldsright : K.lookup fLfieldsright = some ⟨ocLfieldsright, odLfieldsright, .func (PySem.W.fnOf "_law_fields_right" "_law_fields_right" (defArgs sLfieldsright) (defBody sLfieldsright) (defScope sLfieldsright) .none kVLfieldsright dcLfieldsright pmLfieldsright anLfieldsright cdLfieldsright ctLfieldsright), slLfieldsright⟩)
    (qLfieldsright : PySem.W.codeIn K cdLfieldsright "_law_fields_right" = true)
    (kLfieldsright : PySem.W.keepIn K (.ref fLfieldsright) = true)
    (aLrises : PySem.W.nsIn K mainGlobals "_law_rises" = some (some (.ref fLrises)))
    (lLrises : K.lookup fLrises = some ⟨ocLrises, odLrises, .func (PySem.W.fnOf "_law_rises" "_law_rises" (defArgs sLrises) (defBody sLrises) (defScope sLrises) .none kVLrises dcLrises pmLrises anLrises cdLrises ctLrises), slLrises⟩)
    (qLrises : PySem.W.codeIn K cdLrises "_law_rises" = true)
    (kLrises : PySem.W.keepIn K (.ref fLrises) = true)
    (aLsum : PySem.W.nsIn K mainGlobals "_law_sum" = some (some (.ref fLsum)))
    (lLsum : K.lookup fLsum = some ⟨ocLsum, odLsum, .func (PySem.W.fnOf "_law_sum" "_law_sum" (defArgs sLsum) (defBody sLsum) (defScope sLsum) .none kVLsum dcLsum pmLsum anLsum cdLsum ctLsum), slLsum⟩)
    (qLsum : PySem.W.codeIn K cdLsum "_law_sum" = true)
    (kLsum : PySem.W.keepIn K (.ref fLsum) = true)
    (aLfloor : PySem.W.nsIn K mainGlobals "_law_floor" = some (some (.ref fLfloor)))
    (lLfloor : K.lookup fLfloor = some ⟨ocLfloor, odLfloor, .func (PySem.W.fnOf "_law_floor" "_law_floor" (defArgs sLfloor) (defBody sLfloor) (defScope sLfloor) .none kVLfloor dcLfloor pmLfloor anLfloor cdLfloor ctLfloor), slLfloor⟩)
    (qLfloor : PySem.W.codeIn K cdLfloor "_law_floor" = true)
    (kLfloor : PySem.W.keepIn K (.ref fLfloor) = true)
    (aLgroupkept : PySem.W.nsIn K mainGlobals "_law_group_kept" = some (some (.ref fLgroupkept)))
    (lLgroupkept : K.lookup fLgroupkept = some ⟨ocLgroupkept, odLgroupkept, .func (PySem.W.fnOf "_law_group_kept" "_law_group_kept" (defArgs sLgroupkept) (defBody sLgroupkept) (defScope sLgroupkept) .none kVLgroupkept dcLgroupkept pmLgroupkept anLgroupkept cdLgroupkept ctLgroupkept), slLgroupkept⟩)
    (qLgroupkept : PySem.W.codeIn K cdLgroupkept "_law_group_kept" = true)
    (kLgroupkept : PySem.W.keepIn K (.ref fLgroupkept) = true)
    (alaw : PySem.W.nsIn K mainGlobals "law" = some (some (.ref flaw)))
    (llaw : K.lookup flaw = some ⟨oclaw, odlaw, .func (PySem.W.fnOf "law" "law" (defArgs slaw) (defBody slaw) (defScope slaw) .none kVlaw dclaw pmlaw anlaw cdlaw ctlaw), sllaw⟩)
    (qlaw : PySem.W.codeIn K cdlaw "law" = true)
    (klaw : PySem.W.keepIn K (.ref flaw) = true)
    (pgMost : PySem.W.plainGet K CMost Str.empty = true)
    (hdMost : PySem.W.hasDictIn K CMost = true)
    (poMost : PySem.W.plainOver K CMost = true)
    (saMost : PySem.W.findIn K (.ref CMost) "__setattr__" = some (some (.builtin "object.__setattr__")))
    (mkMost : PySem.W.makesIn K CMost = true)
    (kcMost : PySem.W.keepIn K (.ref CMost) = true)
    (nMost_group : PySem.W.findIn K (.ref CMost) "group" = some none)
    (nMost_number : PySem.W.findIn K (.ref CMost) "number" = some none)
    (pgLeast : PySem.W.plainGet K CLeast Str.empty = true)
    (hdLeast : PySem.W.hasDictIn K CLeast = true)
    (poLeast : PySem.W.plainOver K CLeast = true)
    (saLeast : PySem.W.findIn K (.ref CLeast) "__setattr__" = some (some (.builtin "object.__setattr__")))
    (mkLeast : PySem.W.makesIn K CLeast = true)
    (kcLeast : PySem.W.keepIn K (.ref CLeast) = true)
    (nLeast_group : PySem.W.findIn K (.ref CLeast) "group" = some none)
    (nLeast_number : PySem.W.findIn K (.ref CLeast) "number" = some none)
    (pgApart : PySem.W.plainGet K CApart Str.empty = true)
    (hdApart : PySem.W.hasDictIn K CApart = true)
    (poApart : PySem.W.plainOver K CApart = true)
    (saApart : PySem.W.findIn K (.ref CApart) "__setattr__" = some (some (.builtin "object.__setattr__")))
    (mkApart : PySem.W.makesIn K CApart = true)
    (kcApart : PySem.W.keepIn K (.ref CApart) = true)
    (nApart_ours : PySem.W.findIn K (.ref CApart) "ours" = some none)
    (nApart_theirs : PySem.W.findIn K (.ref CApart) "theirs" = some none)
    (nApart_number : PySem.W.findIn K (.ref CApart) "number" = some none)
    (pgBound : PySem.W.plainGet K CBound Str.empty = true)
    (hdBound : PySem.W.hasDictIn K CBound = true)
    (poBound : PySem.W.plainOver K CBound = true)
    (saBound : PySem.W.findIn K (.ref CBound) "__setattr__" = some (some (.builtin "object.__setattr__")))
    (yaApart : PySem.W.findIn K (.ref CApart) "__class__" = some (some (.builtin "object.__class__")))
    (ymApart : PySem.W.mroIn K CApart (.type "object") = some true)
    (yaLeast : PySem.W.findIn K (.ref CLeast) "__class__" = some (some (.builtin "object.__class__")))
    (ymLeast : PySem.W.mroIn K CLeast (.type "object") = some true)
    (yaMost : PySem.W.findIn K (.ref CMost) "__class__" = some (some (.builtin "object.__class__")))
    (ymMost : PySem.W.mroIn K CMost (.type "object") = some true)
    (yn : PySem.W.specialIn K (.builtin "object.__class__") "__get__" = some (some (.builtin "getset_descriptor.__get__")))
    (yt : PySem.W.takesIn K (.builtin "object.__class__") = some true)
    (isMost_Most : PySem.W.kitOne K (.ref CMost) (.ref CMost) = some true)
    (isMost_Least : PySem.W.kitOne K (.ref CMost) (.ref CLeast) = some false)
    (isMost_Apart : PySem.W.kitOne K (.ref CMost) (.ref CApart) = some false)
    (isMost_Bound : PySem.W.kitOne K (.ref CMost) (.ref CBound) = some true)
    (isLeast_Most : PySem.W.kitOne K (.ref CLeast) (.ref CMost) = some false)
    (isLeast_Least : PySem.W.kitOne K (.ref CLeast) (.ref CLeast) = some true)
    (isLeast_Apart : PySem.W.kitOne K (.ref CLeast) (.ref CApart) = some false)
    (isLeast_Bound : PySem.W.kitOne K (.ref CLeast) (.ref CBound) = some true)
    (isApart_Most : PySem.W.kitOne K (.ref CApart) (.ref CMost) = some false)
    (isApart_Least : PySem.W.kitOne K (.ref CApart) (.ref CLeast) = some false)
    (isApart_Apart : PySem.W.kitOne K (.ref CApart) (.ref CApart) = some true)
    (isApart_Bound : PySem.W.kitOne K (.ref CApart) (.ref CBound) = some true)
    (nfMost_Least : PySem.W.notFirst K CMost (.ref CLeast) = true)
    (nfMost_Apart : PySem.W.notFirst K CMost (.ref CApart) = true)
    (nfLeast_Most : PySem.W.notFirst K CLeast (.ref CMost) = true)
    (nfLeast_Apart : PySem.W.notFirst K CLeast (.ref CApart) = true)
    (nfApart_Most : PySem.W.notFirst K CApart (.ref CMost) = true)
    (nfApart_Least : PySem.W.notFirst K CApart (.ref CLeast) = true)
    (neMMost : PySem.W.findIn K (.ref CMost) "__ne__" = some (some (.builtin "object.__ne__")))
    (neMLeast : PySem.W.findIn K (.ref CLeast) "__ne__" = some (some (.builtin "object.__ne__")))
    (neMApart : PySem.W.findIn K (.ref CApart) "__ne__" = some (some (.builtin "object.__ne__")))
    (zabs : PySem.W.nsIn K mainGlobals "abs" = some none)
    (zint : PySem.W.nsIn K mainGlobals "int" = some none)
    (zisinstance : PySem.W.nsIn K mainGlobals "isinstance" = some none)
    (zlen : PySem.W.nsIn K mainGlobals "len" = some none)
    (zlist : PySem.W.nsIn K mainGlobals "list" = some none)
    (zrange : PySem.W.nsIn K mainGlobals "range" = some none)
    (zsorted : PySem.W.nsIn K mainGlobals "sorted" = some none)
    (zsum : PySem.W.nsIn K mainGlobals "sum" = some none)
    (ztuple : PySem.W.nsIn K mainGlobals "tuple" = some none) :
    ∃ fd : FuncData, (∀ (s : Shared) (v : Value), BindsTo s fd ⟨[v], []⟩ [("_law_script", v)]) ∧ ∀ base : Heap, K.In base → base.Ns mainGlobals mg → FnOk l.prog w K mg base CX0 4 fa fd ["_law_script"] (spLaw K) := by
  have e := hfa.symm.trans (PySem.W.mg_of X G alaw)
  cases e
  exact ⟨PySem.W.fnOf "law" "law" (defArgs slaw) (defBody slaw) (defScope slaw) .none kVlaw dclaw pmlaw anlaw cdlaw ctlaw, fun s v => .of_eq rfl, fun base _ _ => oklaw {
    cMost := CMost
    mMost := PySem.W.mg_of X G xMost
    cLeast := CLeast
    mLeast := PySem.W.mg_of X G xLeast
    cApart := CApart
    mApart := PySem.W.mg_of X G xApart
    cBound := CBound
    mBound := PySem.W.mg_of X G xBound
    aMostInit := fMostInit
    dMostInit := PySem.W.fnOf "__init__" "Most.__init__" (defArgs sMostInit) (defBody sMostInit) (defScope sMostInit) .none kVMostInit dcMostInit pmMostInit anMostInit cdMostInit ctMostInit
    fMostInit := fun_mk (st := sMostInit) lMostInit qMostInit kMostInit
    bMostInit := (fun_mk (st := sMostInit) lMostInit qMostInit kMostInit).binds (ps := ["self", "group", "number"]) fun _ _ _ _ _ _ us hl => match us, hl with | [_, _, _], _ => rfl
    aLeastInit := fLeastInit
    dLeastInit := PySem.W.fnOf "__init__" "Least.__init__" (defArgs sLeastInit) (defBody sLeastInit) (defScope sLeastInit) .none kVLeastInit dcLeastInit pmLeastInit anLeastInit cdLeastInit ctLeastInit
    fLeastInit := fun_mk (st := sLeastInit) lLeastInit qLeastInit kLeastInit
    bLeastInit := (fun_mk (st := sLeastInit) lLeastInit qLeastInit kLeastInit).binds (ps := ["self", "group", "number"]) fun _ _ _ _ _ _ us hl => match us, hl with | [_, _, _], _ => rfl
    aApartInit := fApartInit
    dApartInit := PySem.W.fnOf "__init__" "Apart.__init__" (defArgs sApartInit) (defBody sApartInit) (defScope sApartInit) .none kVApartInit dcApartInit pmApartInit anApartInit cdApartInit ctApartInit
    fApartInit := fun_mk (st := sApartInit) lApartInit qApartInit kApartInit
    bApartInit := (fun_mk (st := sApartInit) lApartInit qApartInit kApartInit).binds (ps := ["self", "ours", "theirs", "number"]) fun _ _ _ _ _ _ us hl => match us, hl with | [_, _, _, _], _ => rfl
    eMostEq := aMostEq
    eiMostEq := iMostEq
    aMostEq := fMostEq
    dMostEq := PySem.W.fnOf "__eq__" "Most.__eq__" (defArgs sMostEq) (defBody sMostEq) (defScope sMostEq) .none kVMostEq dcMostEq pmMostEq anMostEq cdMostEq ctMostEq
    fMostEq := fun_mk (st := sMostEq) lMostEq qMostEq kMostEq
    bMostEq := (fun_mk (st := sMostEq) lMostEq qMostEq kMostEq).binds (ps := ["self", "other"]) fun _ _ _ _ _ _ us hl => match us, hl with | [_, _], _ => rfl
    eLeastEq := aLeastEq
    eiLeastEq := iLeastEq
    aLeastEq := fLeastEq
    dLeastEq := PySem.W.fnOf "__eq__" "Least.__eq__" (defArgs sLeastEq) (defBody sLeastEq) (defScope sLeastEq) .none kVLeastEq dcLeastEq pmLeastEq anLeastEq cdLeastEq ctLeastEq
    fLeastEq := fun_mk (st := sLeastEq) lLeastEq qLeastEq kLeastEq
    bLeastEq := (fun_mk (st := sLeastEq) lLeastEq qLeastEq kLeastEq).binds (ps := ["self", "other"]) fun _ _ _ _ _ _ us hl => match us, hl with | [_, _], _ => rfl
    eApartEq := aApartEq
    eiApartEq := iApartEq
    aApartEq := fApartEq
    dApartEq := PySem.W.fnOf "__eq__" "Apart.__eq__" (defArgs sApartEq) (defBody sApartEq) (defScope sApartEq) .none kVApartEq dcApartEq pmApartEq anApartEq cdApartEq ctApartEq
    fApartEq := fun_mk (st := sApartEq) lApartEq qApartEq kApartEq
    bApartEq := (fun_mk (st := sApartEq) lApartEq qApartEq kApartEq).binds (ps := ["self", "other"]) fun _ _ _ _ _ _ us hl => match us, hl with | [_, _], _ => rfl
    gloadof := PySem.W.mg_of X G aloadof
    aloadof := floadof
    dloadof := PySem.W.fnOf "load_of" "load_of" (defArgs sloadof) (defBody sloadof) (defScope sloadof) .none kVloadof dcloadof pmloadof anloadof cdloadof ctloadof
    floadof := fun_mk (st := sloadof) lloadof qloadof kloadof
    bloadof := (fun_mk (st := sloadof) lloadof qloadof kloadof).binds (ps := ["bound", "jar"]) fun _ _ _ _ _ _ us hl => match us, hl with | [_, _], _ => rfl
    gworthof := PySem.W.mg_of X G aworthof
    aworthof := fworthof
    dworthof := PySem.W.fnOf "worth_of" "worth_of" (defArgs sworthof) (defBody sworthof) (defScope sworthof) .none kVworthof dcworthof pmworthof anworthof cdworthof ctworthof
    fworthof := fun_mk (st := sworthof) lworthof qworthof kworthof
    bworthof := (fun_mk (st := sworthof) lworthof qworthof kworthof).binds (ps := ["bound"]) fun _ _ _ _ _ _ us hl => match us, hl with | [_], _ => rfl
    gload := PySem.W.mg_of X G aload
    aload := fload
    dload := PySem.W.fnOf "load" "load" (defArgs sload) (defBody sload) (defScope sload) .none kVload dcload pmload anload cdload ctload
    fload := fun_mk (st := sload) lload qload kload
    bload := (fun_mk (st := sload) lload qload kload).binds (ps := ["lot", "jar"]) fun _ _ _ _ _ _ us hl => match us, hl with | [_, _], _ => rfl
    gworth := PySem.W.mg_of X G aworth
    aworth := fworth
    dworth := PySem.W.fnOf "worth" "worth" (defArgs sworth) (defBody sworth) (defScope sworth) .none kVworth dcworth pmworth anworth cdworth ctworth
    fworth := fun_mk (st := sworth) lworth qworth kworth
    bworth := (fun_mk (st := sworth) lworth qworth kworth).binds (ps := ["lot"]) fun _ _ _ _ _ _ us hl => match us, hl with | [_], _ => rfl
    gLstate := PySem.W.mg_of X G aLstate
    aLstate := fLstate
    dLstate := PySem.W.fnOf "_law_state" "_law_state" (defArgs sLstate) (defBody sLstate) (defScope sLstate) .none kVLstate dcLstate pmLstate anLstate cdLstate ctLstate
    fLstate := fun_mk (st := sLstate) lLstate qLstate kLstate
    bLstate := (fun_mk (st := sLstate) lLstate qLstate kLstate).binds (ps := ["_law_source"]) fun _ _ _ _ _ _ us hl => match us, hl with | [_], _ => rfl
    gLdigit := PySem.W.mg_of X G aLdigit
    aLdigit := fLdigit
    dLdigit := PySem.W.fnOf "_law_digit" "_law_digit" (defArgs sLdigit) (defBody sLdigit) (defScope sLdigit) .none kVLdigit dcLdigit pmLdigit anLdigit cdLdigit ctLdigit
    fLdigit := fun_mk (st := sLdigit) lLdigit qLdigit kLdigit
    bLdigit := (fun_mk (st := sLdigit) lLdigit qLdigit kLdigit).binds (ps := ["_law_state_here", "_law_base"]) fun _ _ _ _ _ _ us hl => match us, hl with | [_, _], _ => rfl
    gLgroup := PySem.W.mg_of X G aLgroup
    aLgroup := fLgroup
    dLgroup := PySem.W.fnOf "_law_group" "_law_group" (defArgs sLgroup) (defBody sLgroup) (defScope sLgroup) .none kVLgroup dcLgroup pmLgroup anLgroup cdLgroup ctLgroup
    fLgroup := fun_mk (st := sLgroup) lLgroup qLgroup kLgroup
    bLgroup := (fun_mk (st := sLgroup) lLgroup qLgroup kLgroup).binds (ps := ["_law_s", "_law_jars"]) fun _ _ _ _ _ _ us hl => match us, hl with | [_, _], _ => rfl
    gLnumber := PySem.W.mg_of X G aLnumber
    aLnumber := fLnumber
    dLnumber := PySem.W.fnOf "_law_number" "_law_number" (defArgs sLnumber) (defBody sLnumber) (defScope sLnumber) .none kVLnumber dcLnumber pmLnumber anLnumber cdLnumber ctLnumber
    fLnumber := fun_mk (st := sLnumber) lLnumber qLnumber kLnumber
    bLnumber := (fun_mk (st := sLnumber) lLnumber qLnumber kLnumber).binds (ps := ["_law_s"]) fun _ _ _ _ _ _ us hl => match us, hl with | [_], _ => rfl
    gLfacts := PySem.W.mg_of X G aLfacts
    aLfacts := fLfacts
    dLfacts := PySem.W.fnOf "_law_facts" "_law_facts" (defArgs sLfacts) (defBody sLfacts) (defScope sLfacts) .none kVLfacts dcLfacts pmLfacts anLfacts cdLfacts ctLfacts
    fLfacts := fun_mk (st := sLfacts) lLfacts qLfacts kLfacts
    bLfacts := (fun_mk (st := sLfacts) lLfacts qLfacts kLfacts).binds (ps := ["_law_s", "_law_jars"]) fun _ _ _ _ _ _ us hl => match us, hl with | [_, _], _ => rfl
    gLmade := PySem.W.mg_of X G aLmade
    aLmade := fLmade
    dLmade := PySem.W.fnOf "_law_made" "_law_made" (defArgs sLmade) (defBody sLmade) (defScope sLmade) .none kVLmade dcLmade pmLmade anLmade cdLmade ctLmade
    fLmade := fun_mk (st := sLmade) lLmade qLmade kLmade
    bLmade := (fun_mk (st := sLmade) lLmade qLmade kLmade).binds (ps := ["_law_facts_here"]) fun _ _ _ _ _ _ us hl => match us, hl with | [_], _ => rfl
    gLfieldsright := PySem.W.mg_of X G aLfieldsright
    aLfieldsright := fLfieldsright
    dLfieldsright := PySem.W.fnOf "_law_fields_right" "_law_fields_right" (defArgs sLfieldsright) (defBody sLfieldsright) (defScope sLfieldsright) .none kVLfieldsright dcLfieldsright pmLfieldsright anLfieldsright cdLfieldsright ctLfieldsright
    fLfieldsright := fun_mk (st := sLfieldsright) lLfieldsright qLfieldsright kLfieldsright
    bLfieldsright := (fun_mk (st := sLfieldsright) lLfieldsright qLfieldsright kLfieldsright).binds (ps := ["_law_bound", "_law_facts_here"]) fun _ _ _ _ _ _ us hl => match us, hl with | [_, _], _ => rfl
    gLrises := PySem.W.mg_of X G aLrises
    aLrises := fLrises
    dLrises := PySem.W.fnOf "_law_rises" "_law_rises" (defArgs sLrises) (defBody sLrises) (defScope sLrises) .none kVLrises dcLrises pmLrises anLrises cdLrises ctLrises
    fLrises := fun_mk (st := sLrises) lLrises qLrises kLrises
    bLrises := (fun_mk (st := sLrises) lLrises qLrises kLrises).binds (ps := ["_law_facts_here", "_law_jar"]) fun _ _ _ _ _ _ us hl => match us, hl with | [_, _], _ => rfl
    gLsum := PySem.W.mg_of X G aLsum
    aLsum := fLsum
    dLsum := PySem.W.fnOf "_law_sum" "_law_sum" (defArgs sLsum) (defBody sLsum) (defScope sLsum) .none kVLsum dcLsum pmLsum anLsum cdLsum ctLsum
    fLsum := fun_mk (st := sLsum) lLsum qLsum kLsum
    bLsum := (fun_mk (st := sLsum) lLsum qLsum kLsum).binds (ps := ["_law_facts_here", "_law_start"]) fun _ _ _ _ _ _ us hl => match us, hl with | [_, _], _ => rfl
    gLfloor := PySem.W.mg_of X G aLfloor
    aLfloor := fLfloor
    dLfloor := PySem.W.fnOf "_law_floor" "_law_floor" (defArgs sLfloor) (defBody sLfloor) (defScope sLfloor) .none kVLfloor dcLfloor pmLfloor anLfloor cdLfloor ctLfloor
    fLfloor := fun_mk (st := sLfloor) lLfloor qLfloor kLfloor
    bLfloor := (fun_mk (st := sLfloor) lLfloor qLfloor kLfloor).binds (ps := ["_law_facts_here"]) fun _ _ _ _ _ _ us hl => match us, hl with | [_], _ => rfl
    gLgroupkept := PySem.W.mg_of X G aLgroupkept
    aLgroupkept := fLgroupkept
    dLgroupkept := PySem.W.fnOf "_law_group_kept" "_law_group_kept" (defArgs sLgroupkept) (defBody sLgroupkept) (defScope sLgroupkept) .none kVLgroupkept dcLgroupkept pmLgroupkept anLgroupkept cdLgroupkept ctLgroupkept
    fLgroupkept := fun_mk (st := sLgroupkept) lLgroupkept qLgroupkept kLgroupkept
    bLgroupkept := (fun_mk (st := sLgroupkept) lLgroupkept qLgroupkept kLgroupkept).binds (ps := ["_law_s", "_law_jars"]) fun _ _ _ _ _ _ us hl => match us, hl with | [_, _], _ => rfl
    glaw := PySem.W.mg_of X G alaw
    alaw := fa
    dlaw := PySem.W.fnOf "law" "law" (defArgs slaw) (defBody slaw) (defScope slaw) .none kVlaw dclaw pmlaw anlaw cdlaw ctlaw
    flaw := fun_mk (st := slaw) llaw qlaw klaw
    blaw := (fun_mk (st := slaw) llaw qlaw klaw).binds (ps := ["_law_script"]) fun _ _ _ _ _ _ us hl => match us, hl with | [_], _ => rfl
    lMost := ⟨pgMost, hdMost, poMost, saMost⟩
    kMost := ⟨mkMost, aMostInit, iMostInit, kcMost⟩
    nMost_group := nMost_group
    nMost_number := nMost_number
    lLeast := ⟨pgLeast, hdLeast, poLeast, saLeast⟩
    kLeast := ⟨mkLeast, aLeastInit, iLeastInit, kcLeast⟩
    nLeast_group := nLeast_group
    nLeast_number := nLeast_number
    lApart := ⟨pgApart, hdApart, poApart, saApart⟩
    kApart := ⟨mkApart, aApartInit, iApartInit, kcApart⟩
    nApart_ours := nApart_ours
    nApart_theirs := nApart_theirs
    nApart_number := nApart_number
    lBound := ⟨pgBound, hdBound, poBound, saBound⟩
    yApart := ⟨yaApart, yn, yt, ymApart⟩
    yLeast := ⟨yaLeast, yn, yt, ymLeast⟩
    yMost := ⟨yaMost, yn, yt, ymMost⟩
    iMost_Most := isMost_Most
    iMost_Least := isMost_Least
    iMost_Apart := isMost_Apart
    iMost_Bound := isMost_Bound
    iLeast_Most := isLeast_Most
    iLeast_Least := isLeast_Least
    iLeast_Apart := isLeast_Apart
    iLeast_Bound := isLeast_Bound
    iApart_Most := isApart_Most
    iApart_Least := isApart_Least
    iApart_Apart := isApart_Apart
    iApart_Bound := isApart_Bound
    nfMost_Least := nfMost_Least
    nfMost_Apart := nfMost_Apart
    nfLeast_Most := nfLeast_Most
    nfLeast_Apart := nfLeast_Apart
    nfApart_Most := nfApart_Most
    nfApart_Least := nfApart_Least
    neMost := ⟨neMMost, ymMost, aMostEq, iMostEq⟩
    neLeast := ⟨neMLeast, ymLeast, aLeastEq, iLeastEq⟩
    neApart := ⟨neMApart, ymApart, aApartEq, iApartEq⟩
    nabs := PySem.W.mg_none_of X G zabs
    nint := PySem.W.mg_none_of X G zint
    nisinstance := PySem.W.mg_none_of X G zisinstance
    nlen := PySem.W.mg_none_of X G zlen
    nlist := PySem.W.mg_none_of X G zlist
    nrange := PySem.W.mg_none_of X G zrange
    nsorted := PySem.W.mg_none_of X G zsorted
    nsum := PySem.W.mg_none_of X G zsum
    ntuple := PySem.W.mg_none_of X G ztuple }⟩
theorem walk {l : PySem.W.OpenLaw} {q : Program} {loose : List Str} {XP : (Str → Option Value) → Heap → Prop} {YP : World → Heap → Prop} {d : DefRec} {K : Params → PySem.W.Frag} (hn : l.most = some 63) (hdf : d.params.defaults = [])
    (hY : ∀ (w : World) (h : Heap), YP w h → (K w.params).In h)
    (F : ∀ (w : World) (mg : Str → Option Value) (fa : Addr) (h : Heap), (K w.params).In h → h.Ns mainGlobals mg → mg d.name = some (.ref fa) →
      ∃ fd : FuncData, (∀ (s : Shared) (u : Value), BindsTo s fd ⟨[u], []⟩ [("_law_script", u)]) ∧ ∀ base : Heap, (K w.params).In base → base.Ns mainGlobals mg → FnOk l.prog w (K w.params) mg base CX0 4 fa fd ["_law_script"] (spLaw (K w.params))) :
    PySem.W.WalkO q loose XP YP l.row.toRowW d [] (fun f vs => PySem.call f vs) :=
  L2.walk_of (n := 63) (k := 4) (x := "_law_script") (CX := fun _ => CX0) (sp := fun w => spLaw (K w.params)) hn (by decide) hdf ⟨rfl, by decide, by decide⟩ hY F (fun _ _ a ns hl _ hS => ⟨a, ns, rfl, hS, hl, fun _ => rfl⟩) fun _ _ _ _ _ z => z
end Kp
open PySem PySem.W PyProof.Rows
set_option maxRecDepth 100000 in
set_option maxHeartbeats 0 in
theorem PySem.Challenge.cw_wholedrops_k31_lots_loads_and_worths_holds : PySem.Challenge.rw_wholedrops_k31_lots_loads_and_worths.Holds := by
  w_on; o_law; k_head; (case hw => w_witness2)
  k_fill
  refine Kp.walk (l := PySem.Challenge.rw_wholedrops_k31_lots_loads_and_worths) rfl rfl (fun w h Y => PySem.W.kIn_of Y) ?F
  case F =>
    intro w mg fa h KX G hmg
    refine' Kp.all_mk KX G hmg ?xMost ?xLeast ?xApart ?xBound ?aMostInit ?iMostInit ?lMostInit ?qMostInit ?kMostInit ?aLeastInit ?iLeastInit ?lLeastInit ?qLeastInit ?kLeastInit ?aApartInit ?iApartInit ?lApartInit ?qApartInit ?kApartInit ?aMostEq ?iMostEq ?lMostEq ?qMostEq ?kMostEq ?aLeastEq ?iLeastEq ?lLeastEq ?qLeastEq ?kLeastEq ?aApartEq ?iApartEq ?lApartEq ?qApartEq ?kApartEq ?aloadof ?lloadof ?qloadof ?kloadof ?aworthof ?lworthof ?qworthof ?kworthof ?aload ?lload ?qload ?kload ?aworth ?lworth ?qworth ?kworth ?aLstate ?lLstate ?qLstate ?kLstate ?aLdigit ?lLdigit ?qLdigit ?kLdigit ?aLgroup ?lLgroup ?qLgroup ?kLgroup ?aLnumber ?lLnumber ?qLnumber ?kLnumber ?aLfacts ?lLfacts ?qLfacts ?kLfacts ?aLmade ?lLmade ?qLmade ?kLmade ?aLfieldsright ?lLfieldsright ?qLfieldsright ?kLfieldsright ?aLrises ?lLrises ?qLrises ?kLrises ?aLsum ?lLsum ?qLsum ?kLsum ?aLfloor ?lLfloor ?qLfloor ?kLfloor ?aLgroupkept ?lLgroupkept ?qLgroupkept ?kLgroupkept ?alaw ?llaw ?qlaw ?klaw ?pgMost ?hdMost ?poMost ?saMost ?mkMost ?kcMost ?nMost_group ?nMost_number ?pgLeast ?hdLeast ?poLeast ?saLeast ?mkLeast ?kcLeast ?nLeast_group ?nLeast_number ?pgApart ?hdApart ?poApart ?saApart ?mkApart ?kcApart ?nApart_ours ?nApart_theirs ?nApart_number ?pgBound ?hdBound ?poBound ?saBound ?yaApart ?ymApart ?yaLeast ?ymLeast ?yaMost ?ymMost ?yn ?yt ?isMost_Most ?isMost_Least ?isMost_Apart ?isMost_Bound ?isLeast_Most ?isLeast_Least ?isLeast_Apart ?isLeast_Bound ?isApart_Most ?isApart_Least ?isApart_Apart ?isApart_Bound ?nfMost_Least ?nfMost_Apart ?nfLeast_Most ?nfLeast_Apart ?nfApart_Most ?nfApart_Least ?neMMost ?neMLeast ?neMApart ?zabs ?zint ?zisinstance ?zlen ?zlist ?zrange ?zsorted ?zsum ?ztuple
    (case xMost => k_is)
    (case xLeast => k_is)
    (case xApart => k_is)
    (case xBound => k_is)
    (case aMostInit => k_is)
    (case iMostInit => k_is)
    (case lMostInit => k_is)
    (case qMostInit => k_is)
    (case kMostInit => k_is)
    (case aLeastInit => k_is)
    (case iLeastInit => k_is)
    (case lLeastInit => k_is)
    (case qLeastInit => k_is)
    (case kLeastInit => k_is)
    (case aApartInit => k_is)
    (case iApartInit => k_is)
    (case lApartInit => k_is)
    (case qApartInit => k_is)
    (case kApartInit => k_is)
    (case aMostEq => k_is)
    (case iMostEq => k_is)
    (case lMostEq => k_is)
    (case qMostEq => k_is)
    (case kMostEq => k_is)
    (case aLeastEq => k_is)
    (case iLeastEq => k_is)
    (case lLeastEq => k_is)
    (case qLeastEq => k_is)
    (case kLeastEq => k_is)
    (case aApartEq => k_is)
    (case iApartEq => k_is)
    (case lApartEq => k_is)
    (case qApartEq => k_is)
    (case kApartEq => k_is)
    (case aloadof => k_is)
    (case lloadof => k_is)
    (case qloadof => k_is)
    (case kloadof => k_is)
    (case aworthof => k_is)
    (case lworthof => k_is)
    (case qworthof => k_is)
    (case kworthof => k_is)
    (case aload => k_is)
    (case lload => k_is)
    (case qload => k_is)
    (case kload => k_is)
    (case aworth => k_is)
    (case lworth => k_is)
    (case qworth => k_is)
    (case kworth => k_is)
    (case aLstate => k_is)
    (case lLstate => k_is)
    (case qLstate => k_is)
    (case kLstate => k_is)
    (case aLdigit => k_is)
    (case lLdigit => k_is)
    (case qLdigit => k_is)
    (case kLdigit => k_is)
    (case aLgroup => k_is)
    (case lLgroup => k_is)
    (case qLgroup => k_is)
    (case kLgroup => k_is)
    (case aLnumber => k_is)
    (case lLnumber => k_is)
    (case qLnumber => k_is)
    (case kLnumber => k_is)
    (case aLfacts => k_is)
    (case lLfacts => k_is)
    (case qLfacts => k_is)
    (case kLfacts => k_is)
    (case aLmade => k_is)
    (case lLmade => k_is)
    (case qLmade => k_is)
    (case kLmade => k_is)
    (case aLfieldsright => k_is)
    (case lLfieldsright => k_is)
    (case qLfieldsright => k_is)
    (case kLfieldsright => k_is)
    (case aLrises => k_is)
    (case lLrises => k_is)
    (case qLrises => k_is)
    (case kLrises => k_is)
    (case aLsum => k_is)
    (case lLsum => k_is)
    (case qLsum => k_is)
    (case kLsum => k_is)
    (case aLfloor => k_is)
    (case lLfloor => k_is)
    (case qLfloor => k_is)
    (case kLfloor => k_is)
    (case aLgroupkept => k_is)
    (case lLgroupkept => k_is)
    (case qLgroupkept => k_is)
    (case kLgroupkept => k_is)
    (case alaw => k_is)
    (case llaw => k_is)
    (case qlaw => k_is)
    (case klaw => k_is)
    (case pgMost => k_is)
    (case hdMost => k_is)
    (case poMost => k_is)
    (case saMost => k_is)
    (case mkMost => k_is)
    (case kcMost => k_is)
    (case nMost_group => k_is)
    (case nMost_number => k_is)
    (case pgLeast => k_is)
    (case hdLeast => k_is)
    (case poLeast => k_is)
    (case saLeast => k_is)
    (case mkLeast => k_is)
    (case kcLeast => k_is)
    (case nLeast_group => k_is)
    (case nLeast_number => k_is)
    (case pgApart => k_is)
    (case hdApart => k_is)
    (case poApart => k_is)
    (case saApart => k_is)
    (case mkApart => k_is)
    (case kcApart => k_is)
    (case nApart_ours => k_is)
    (case nApart_theirs => k_is)
    (case nApart_number => k_is)
    (case pgBound => k_is)
    (case hdBound => k_is)
    (case poBound => k_is)
    (case saBound => k_is)
    (case yaApart => k_is)
    (case ymApart => k_is)
    (case yaLeast => k_is)
    (case ymLeast => k_is)
    (case yaMost => k_is)
    (case ymMost => k_is)
    (case yn => k_is)
    (case yt => k_is)
    (case isMost_Most => exact KpR.kit_self (by simp))
    (case isMost_Least => (exact KpR.kit_cls (by k_is) (by k_is) (by k_is) (by decide)))
    (case isMost_Apart => (exact KpR.kit_cls (by k_is) (by k_is) (by k_is) (by decide)))
    (case isMost_Bound => (exact KpR.kit_cls (by k_is) (by k_is) (by k_is) (by decide)))
    (case isLeast_Most => (exact KpR.kit_cls (by k_is) (by k_is) (by k_is) (by decide)))
    (case isLeast_Least => exact KpR.kit_self (by simp))
    (case isLeast_Apart => (exact KpR.kit_cls (by k_is) (by k_is) (by k_is) (by decide)))
    (case isLeast_Bound => (exact KpR.kit_cls (by k_is) (by k_is) (by k_is) (by decide)))
    (case isApart_Most => (exact KpR.kit_cls (by k_is) (by k_is) (by k_is) (by decide)))
    (case isApart_Least => (exact KpR.kit_cls (by k_is) (by k_is) (by k_is) (by decide)))
    (case isApart_Apart => exact KpR.kit_self (by simp))
    (case isApart_Bound => (exact KpR.kit_cls (by k_is) (by k_is) (by k_is) (by decide)))
    (case nfMost_Least => k_is)
    (case nfMost_Apart => k_is)
    (case nfLeast_Most => k_is)
    (case nfLeast_Apart => k_is)
    (case nfApart_Most => k_is)
    (case nfApart_Least => k_is)
    (case neMMost => k_is)
    (case neMLeast => k_is)
    (case neMApart => k_is)
    (case zabs => k_is)
    (case zint => k_is)
    (case zisinstance => k_is)
    (case zlen => k_is)
    (case zlist => k_is)
    (case zrange => k_is)
    (case zsorted => k_is)
    (case zsum => k_is)
    (case ztuple => k_is)


