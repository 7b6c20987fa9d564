import PyProof.Rows.All
import Wide.All
import OpenK.AllK
import Wide.FinOn
import HandS.ForMost
import HandS.Defaults
import HandS.MakeKwOnly
import HandS.IsInst
import HandS.Wide
import HandS.Style
import HandS.Zip
import HandS.Codes
import HandS.OwnEq
import HandS.Exc
import HandS.TryMany
import HandS.ExcInit
import HandS.ExcField
import HandS.ExcIs
import HandS.WordsExc
import PyProof.InstNe
import HandS.TupAny
import HandS.More
import PySem.Challenge.RW_wholedrops_k02_rows_and_the_first_deed_a
set_option Elab.async false
set_option linter.all false
set_option maxRecDepth 100000
set_option maxHeartbeats 4000000
namespace Kp
/-! ### an if whose test is a Bool -/
theorem ifT {c : Bool} {A B : Prop} (hc : c = true) (h : A) : if c = true then A else B := by
  rw [if_pos hc]
  exact h
theorem ifF {c : Bool} {A B : Prop} (hc : c = false) (h : B) : if c = true then A else B := by
  rw [hc, if_neg Bool.false_ne_true]
  exact h
theorem ifD {P A B : Prop} [Decidable P] (h1 : P → A) (h2 : ¬ P → B) : if decide P = true then A else B := by
  by_cases h : P
  · exact ifT (decide_eq_true h) (h1 h)
  · exact ifF (decide_eq_false h) (h2 h)
theorem ifN {P A B : Prop} [Decidable P] (h1 : P → B) (h2 : ¬ P → A) : if (!decide P) = true then A else B := by
  by_cases h : P
  · exact ifF (by rw [decide_eq_true h]; rfl) (h1 h)
  · exact ifT (by rw [decide_eq_false h]; rfl) (h2 h)
/-! ### lists of ints -/
def at0 (l : List Int) (i : Nat) : Int := l.getD i 0
theorem at0_get {l : List Int} {i : Nat} (h : i < l.length) : l[i]? = some (at0 l i) := by
  unfold at0
  rw [List.getD_eq_getElem?_getD, List.getElem?_eq_getElem h]
  rfl
theorem at0_of {l : List Int} {i : Nat} {v : Int} (h : l[i]? = some v) : at0 l i = v := by
  unfold at0
  rw [List.getD_eq_getElem?_getD, h]
  rfl
theorem at0_set {l : List Int} {i j : Nat} {v : Int} (h : i < l.length) : at0 (l.set i v) j = if i = j then v else at0 l j := by
  unfold at0
  rw [List.getD_eq_getElem?_getD, List.getD_eq_getElem?_getD, List.getElem?_set]
  by_cases e : i = j
  · subst e
    simp [h]
  · simp [e]
theorem at0_map {l : List Int} {f : Int → Int} {i : Nat} (h : i < l.length) : at0 (l.map f) i = f (at0 l i) := by
  have := at0_get h
  exact at0_of (by rw [List.getElem?_map, this]; rfl)
theorem ext0 {l m : List Int} (h : l.length = m.length) (e : ∀ i, i < l.length → at0 l i = at0 m i) : l = m := by
  apply List.ext_getElem? 
  intro i
  by_cases hi : i < l.length
  · rw [at0_get hi, at0_get (h ▸ hi), e i hi]
  · rw [List.getElem?_eq_none (by omega), List.getElem?_eq_none (by omega)]
/-! ### the deeds -/
inductive D where
  | pour (a b : Nat) | put (a : Nat) (k : Int) | draw (a : Nat) (k : Int) | change (a b : Nat)
  deriving DecidableEq
/-- what a deed must be for jars of these sizes -/
def D.ok (caps : List Int) : D → Prop
  | .pour a b => a < caps.length ∧ b < caps.length ∧ a ≠ b
  | .put a k => a < caps.length ∧ 1 ≤ k ∧ k ≤ 1000000000000
  | .draw a k => a < caps.length ∧ 1 ≤ k ∧ k ≤ 1000000000000
  | .change a b => a < caps.length ∧ b < caps.length ∧ a ≠ b ∧ at0 caps a = at0 caps b
/-- one deed, as behind_deed reckons it -/
def D.act (caps : List Int) (p : Int) (st : List Int) : D → List Int
  | .pour a b =>
    let m := if at0 caps b * p - at0 st b < at0 st a then at0 caps b * p - at0 st b else at0 st a
    (st.set a (at0 st a - m)).set b (at0 st b + m)
  | .put a k => st.set a (if at0 caps a * p < at0 st a + k * p then at0 caps a * p else at0 st a + k * p)
  | .draw a k => st.set a (if 0 > at0 st a - k * p then 0 else at0 st a - k * p)
  | .change a b => (st.set a (at0 st b)).set b (at0 st a)
def run (caps : List Int) (p : Int) (ds : List D) (st : List Int) : List Int := ds.foldl (D.act caps p) st
def runs (caps : List Int) (p : Int) (ds : List D) : Nat → List Int → List Int
  | 0, st => st
  | n + 1, st => run caps p ds (runs caps p ds n st)
/-- a start that can be -/
structure Stand (caps : List Int) (p : Int) (st : List Int) : Prop where
  len : st.length = caps.length
  lo : ∀ i, i < caps.length → 0 ≤ at0 st i
  hi : ∀ i, i < caps.length → at0 st i ≤ at0 caps i * p
structure Caps (caps : List Int) : Prop where
  l1 : 1 ≤ caps.length
  l6 : caps.length ≤ 6
  lo : ∀ i, i < caps.length → 1 ≤ at0 caps i
  hi : ∀ i, i < caps.length → at0 caps i ≤ 1000000000000
theorem act_len {caps st : List Int} {p : Int} {d : D} : (d.act caps p st).length = st.length := by
  cases d <;> simp [D.act]
theorem act_stand {caps st : List Int} {p : Int} {d : D} (hp : 1 ≤ p) (h : Stand caps p st) (hd : d.ok caps) : Stand caps p (d.act caps p st) := by
  have hl := h.len
  refine ⟨by rw [act_len, hl], ?_, ?_⟩
  all_goals
    intro i hi
    have z0 := h.lo i hi
    have z1 := h.hi i hi
    cases d with
    | pour a b =>
      obtain ⟨ha, hb, hab⟩ := hd
      have a0 := h.lo a ha
      have a1 := h.hi a ha
      have b0 := h.lo b hb
      have b1 := h.hi b hb
      simp only [D.act]
      rw [at0_set (by rw [List.length_set]; omega), at0_set (by omega)]
      by_cases e1 : b = i
      · subst e1
        rw [if_pos rfl]
        split <;> omega
      · rw [if_neg e1]
        by_cases e2 : a = i
        · subst e2
          rw [if_pos rfl]
          split <;> omega
        · rw [if_neg e2]
          omega
    | put a k =>
      obtain ⟨ha, hk, _⟩ := hd
      have a0 := h.lo a ha
      have a1 := h.hi a ha
      have kp : 0 ≤ k * p := Int.mul_nonneg (by omega) (by omega)
      simp only [D.act]
      rw [at0_set (by omega)]
      by_cases e1 : a = i
      · subst e1
        rw [if_pos rfl]
        split <;> omega
      · rw [if_neg e1]
        omega
    | draw a k =>
      obtain ⟨ha, hk, _⟩ := hd
      have a0 := h.lo a ha
      have a1 := h.hi a ha
      have kp : 0 ≤ k * p := Int.mul_nonneg (by omega) (by omega)
      simp only [D.act]
      rw [at0_set (by omega)]
      by_cases e1 : a = i
      · subst e1
        rw [if_pos rfl]
        split <;> omega
      · rw [if_neg e1]
        omega
    | change a b =>
      obtain ⟨ha, hb, hab, hs⟩ := hd
      have a0 := h.lo a ha
      have a1 := h.hi a ha
      have b0 := h.lo b hb
      have b1 := h.hi b hb
      simp only [D.act]
      rw [at0_set (by rw [List.length_set]; omega), at0_set (by omega)]
      by_cases e1 : b = i
      · subst e1
        rw [if_pos rfl]
        rw [hs] at a1
        omega
      · rw [if_neg e1]
        by_cases e2 : a = i
        · subst e2
          rw [if_pos rfl]
          rw [← hs] at b1
          omega
        · rw [if_neg e2]
          omega
theorem run_len {caps : List Int} {p : Int} : ∀ {ds : List D} {st : List Int}, (run caps p ds st).length = st.length
  | [], _ => rfl
  | d :: ds, st => (run_len (ds := ds) (st := d.act caps p st)).trans act_len
theorem run_stand {caps : List Int} {p : Int} (hp : 1 ≤ p) : ∀ {ds : List D} {st : List Int}, Stand caps p st → (∀ d ∈ ds, d.ok caps) → Stand caps p (run caps p ds st)
  | [], _, h, _ => h
  | d :: ds, st, h, hd => run_stand (ds := ds) hp (act_stand hp h (hd d (List.mem_cons_self ..))) fun e he => hd e (List.mem_cons_of_mem _ he)
theorem runs_stand {caps : List Int} {p : Int} (hp : 1 ≤ p) {ds : List D} (hd : ∀ d ∈ ds, d.ok caps) : ∀ {n : Nat} {st : List Int}, Stand caps p st → Stand caps p (runs caps p ds n st)
  | 0, _, h => h
  | n + 1, _, h => run_stand hp (runs_stand hp hd (n := n) h) hd
theorem run_app {caps : List Int} {p : Int} {ds es : List D} {st : List Int} : run caps p (ds ++ es) st = run caps p es (run caps p ds st) := List.foldl_append ..
theorem runs_add {caps : List Int} {p : Int} {ds : List D} : ∀ (m n : Nat) (st : List Int), runs caps p ds m (runs caps p ds n st) = runs caps p ds (n + m) st
  | 0, _, _ => rfl
  | m + 1, n, st => congrArg (run caps p ds) (runs_add m n st)
theorem runs_nil {caps : List Int} {p : Int} : ∀ (n : Nat) (st : List Int), runs caps p [] n st = st
  | 0, _ => rfl
  | n + 1, st => runs_nil n st
theorem run_snoc {caps : List Int} {p : Int} {ds : List D} {d : D} {i : Nat} {st : List Int} (h : ds[i]? = some d) : run caps p (ds.take (i + 1)) st = d.act caps p (run caps p (ds.take i) st) := by
  rw [List.take_add_one, h, run_app]
  rfl
end Kp

namespace Kp
theorem at0_app {l : List Int} {z : Int} {i : Nat} : at0 (l ++ [z]) i = if i < l.length then at0 l i else if i = l.length then z else 0 := by
  unfold at0
  rw [List.getD_eq_getElem?_getD, List.getD_eq_getElem?_getD]
  by_cases h : i < l.length
  · rw [if_pos h, List.getElem?_append_left h]
  · rw [if_neg h, List.getElem?_append_right (by omega)]
    by_cases e : i = l.length
    · subst e
      simp
    · rw [if_neg e, List.getElem?_eq_none (by simp; omega)]
      rfl
/-- sizes that are none too small, none too big -/
def Mid (caps : List Int) : Prop := ∀ c ∈ caps, 1 ≤ c ∧ c ≤ 1000000000000
theorem Mid.nil : Mid [] := fun c h => by cases h
theorem Mid.app {caps : List Int} {z : Int} (h : Mid caps) (h1 : 1 ≤ z) (h2 : z ≤ 1000000000000) : Mid (caps ++ [z]) := fun c hc => by
  rcases List.mem_append.mp hc with q | q
  · exact h c q
  · have : c = z := by simpa using q
    subst this
    exact ⟨h1, h2⟩
theorem at0_mem {l : List Int} {i : Nat} (h : i < l.length) : at0 l i ∈ l := List.mem_of_getElem? (at0_get h)
theorem Mid.set {caps : List Int} {i j : Nat} (h : Mid caps) (hj : j < caps.length) : Mid (caps.set i (at0 caps j)) := fun c hc => by
  rcases List.mem_or_eq_of_mem_set hc with q | q
  · exact h c q
  · rw [q]
    exact h _ (at0_mem hj)
theorem Mid.caps {caps : List Int} (h : Mid caps) (h1 : 1 ≤ caps.length) (h6 : caps.length ≤ 6) : Caps caps :=
  ⟨h1, h6, fun i hi => (h _ (at0_mem hi)).1, fun i hi => (h _ (at0_mem hi)).2⟩
/-- starts as far as they are made -/
structure Part (caps : List Int) (p : Int) (st : List Int) : Prop where
  lo : ∀ i, i < st.length → 0 ≤ at0 st i
  hi : ∀ i, i < st.length → at0 st i ≤ at0 caps i * p
theorem Part.nil {caps : List Int} {p : Int} : Part caps p [] := ⟨fun i h => absurd h (Nat.not_lt_zero _), fun i h => absurd h (Nat.not_lt_zero _)⟩
theorem Part.app {caps st : List Int} {p z : Int} (h : Part caps p st) (h0 : 0 ≤ z) (h1 : z ≤ at0 caps st.length * p) : Part caps p (st ++ [z]) := by
  refine ⟨fun i hi => ?_, fun i hi => ?_⟩
  all_goals
    rw [List.length_append] at hi
    rw [at0_app]
    by_cases q : i < st.length
    · rw [if_pos q]
      first | exact h.lo i q | exact h.hi i q
    · have e : i = st.length := by simp at hi; omega
      subst e
      rw [if_neg q, if_pos rfl]
      first | exact h0 | exact h1
theorem Part.stand {caps st : List Int} {p : Int} (h : Part caps p st) (hl : st.length = caps.length) : Stand caps p st :=
  ⟨hl, fun i hi => h.lo i (by omega), fun i hi => h.hi i (by omega)⟩
/-- the words of the deeds -/
inductive Wd where
  | pour | put | draw | change
  deriving DecidableEq
def sixW : List Wd := [.pour, .pour, .pour, .put, .draw, .change]
theorem unit_ok {n : Nat} (h : n < 6) : 1 ≤ at0 [1, 1, 1, 7, 1000000, 100000000000] n ∧ at0 [1, 1, 1, 7, 1000000, 100000000000] n ≤ 100000000000 := by
  have : ∀ n : Fin 6, 1 ≤ at0 [1, 1, 1, 7, 1000000, 100000000000] n.1 ∧ at0 [1, 1, 1, 7, 1000000, 100000000000] n.1 ≤ 100000000000 := by decide
  exact this ⟨n, h⟩
theorem pick4 {a b c d lo hi : Int} {n : Nat} (h : n < 4) (ha : lo ≤ a ∧ a ≤ hi) (hb : lo ≤ b ∧ b ≤ hi) (hc : lo ≤ c ∧ c ≤ hi) (hd : lo ≤ d ∧ d ≤ hi) : lo ≤ at0 [a, b, c, d] n ∧ at0 [a, b, c, d] n ≤ hi := by
  match n, h with
  | 0, _ => exact ha
  | 1, _ => exact hb
  | 2, _ => exact hc
  | 3, _ => exact hd
theorem pick5 {a b c d e lo hi : Int} {n : Nat} (h : n < 5) (ha : lo ≤ a ∧ a ≤ hi) (hb : lo ≤ b ∧ b ≤ hi) (hc : lo ≤ c ∧ c ≤ hi) (hd : lo ≤ d ∧ d ≤ hi) (he : lo ≤ e ∧ e ≤ hi) : lo ≤ at0 [a, b, c, d, e] n ∧ at0 [a, b, c, d, e] n ≤ hi := by
  match n, h with
  | 0, _ => exact ha
  | 1, _ => exact hb
  | 2, _ => exact hc
  | 3, _ => exact hd
  | 4, _ => exact he
end Kp

namespace KpR
open PySem PySem.Spec PyProof.Rows L2
open AutoSeq1 (wpAny_loadPart')
/-! ### xs + ys, each a list that can be read -/
theorem addMeets (l b : Addr) (xs ys : Array Value) (n m : Nat) (sl tl : Array (Option Value)) (hsz : xs.size + ys.size ≤ sizeLine) :
    Meets (Builtin.«list.__add__» ⟨[.ref l, .ref b], []⟩) (fun _ R s =>
      s.heap.get? l = some { cls := .type "list", dict := none, data := .seq xs n, slots := sl } ∧
      s.heap.get? b = some { cls := .type "list", dict := none, data := .seq ys m, slots := tl } ∧
      R (.ok (.ret (.ref s.heap.objs.size))) { s with heap := s.heap.push { cls := .type "list", data := .seq (xs ++ ys) } }) :=
  .of_wp fun prog w A R s h => by
    obtain ⟨hp, g, d, tk, os⟩ := s
    obtain ⟨e1, e2, h⟩ := h
    have z1 := AutoSeq1.idx_int
    have z2 := AutoSeq1.sub_tuple_tuple
    have z3 := AutoSeq1.sub_list_list
    have z4 := AutoSeq1.sub_tuple_list
    have z5 := AutoSeq1.sub_list_tuple
    wp_walk using wpAny_loadPart' e1, wpAny_loadPart' e2
    exact ⟨_, rfl, h⟩
theorem enumNewT (l : Addr) (its : Array Value) (n : Nat) (dct : Option Addr) (sl : Array (Option Value)) :
    Meets (Builtin.«enumerate.__new__» ⟨[.type "enumerate", .ref l], []⟩) (fun _ R s =>
      s.heap.get? l = some { cls := .type "tuple", dict := dct, data := .seq its n, slots := sl } ∧
      R (.ok (.ret (.ref (s.heap.push { cls := .type "tuple_iterator", data := .fields #[.ref l, .int 0 0] }).objs.size)))
        { s with heap := Heap.push (Heap.push s.heap { cls := .type "tuple_iterator", data := .fields #[.ref l, .int 0 0] }) { cls := .type "enumerate", data := .fields #[.none, .bool false, .ref s.heap.objs.size, rawInt 0, .none, .none] } }) :=
  .of_wp fun prog w A R s h => by
    obtain ⟨hp, g, d, tk, os⟩ := s
    obtain ⟨hl, h⟩ := h
    have hsub := sub_enumerate
    have hL : Heap.IsTuple (Shared.heap ⟨hp, g, d, tk, os⟩) l its := ⟨_, hl, rfl, n, rfl⟩
    wp_walk using wpAny_loadPart' hl
    refine wpAny_stack_any fun st => wpAny_pure ?_
    split
    · rename_i c _ _ _ _ _
      cases (c == Value.type "enumerate") <;>
        (wp_walk using wpAny_loadPart' hl, wpAny_pyIter_tuple hL
         exact ⟨_, rfl, h⟩)
    · wp_walk using wpAny_loadPart' hl, wpAny_pyIter_tuple hL
      exact ⟨_, rfl, h⟩
end KpR

namespace KpR
open PySem PySem.Spec PyProof.Rows L2
open AutoSeq1 (wpAny_loadPart')
def rCatR (K : PySem.W.Frag) : R2 := fun x y H Q => ∃ l b xs zs, x = .ref l ∧ y = .ref b ∧ SqL K H l xs ∧ SqL K H b zs ∧ xs.length + zs.length ≤ sizeLine ∧ ∀ q, H q = none → Q (.ref q) (upd H q (.lst (xs ++ zs)))
section
variable {X : Cx}
theorem op_catR : OpR X (binaryOp .Add) (rCatR X.K) := by
  intro pins s σ H x y v u Q I rx ry h
  obtain ⟨l, b, xs, zs, rfl, rfl, h1, h2, hz, q⟩ := h
  cases rx
  cases ry
  obtain ⟨its, r1, p1, _⟩ := I.list h1
  obtain ⟨jts, r2, p2, _⟩ := I.list h2
  obtain ⟨⟨c1, d1, t1, s1⟩, n1, g1, k1, k2, k3⟩ := p1
  obtain ⟨⟨c2, d2, t2, s2⟩, n2, g2, k4, k5, k6⟩ := p2
  cases k1; cases k2; cases k3; cases k4; cases k5; cases k6
  have e1 := r1.length
  have e2 := r2.length
  refine concat_meets ⟨_, g1, rfl⟩ ⟨_, g2, rfl⟩ noFill_list_add seq_list_add F.slot_list_add F.entry_list_add (F.args_list_add_2 _ _)
    (addMeets l b its.toArray jts.toArray n1 n2 s1 s2 (by rw [List.size_toArray, List.size_toArray]; omega)) ⟨g1, g2, ?_⟩
  have ea : its.toArray ++ jts.toArray = (its ++ jts).toArray := by simp
  rw [ea]
  exact ⟨.ref _, _, I.lnew (t' := s.toks) (r1.append r2) (by rw [List.length_append]; omega), rfl, q _ I.fresh⟩
end
/-! ### enumerate(tuple) -/
theorem drawsT {prog : Program} {w : World} {A : Around} (hh : A.handled = none) (it l : Addr) (hne : l ≠ it) (its : Array Value) :
    Draws prog w A it [it, l] its.size (fun i v => its[i]? = some v) (fun i h => h.IsTupleIter it l i ∧ h.IsTuple l its) where
  live := fun _ _ st => by
    obtain ⟨⟨o, ho, _⟩, _⟩ := st
    exact ⟨o, ho⟩
  frame := fun _ _ _ st kp => ⟨st.1.at fun o e => kp it (by simp) o e, st.2.at fun o e => kp l (by simp) o e⟩
  item := fun i s Q E hi st hQ => by
    refine RZ.nextOf_tuple_item st.1 st.2 (x := its[i]) (by simp [hi]) fun h1 hit1 hs1 => ?_
    exact hQ _ h1 s.toks (by simp [hi]) ⟨hit1, st.2.extBut hs1.extBut hne⟩ hs1
  done := fun s Q E st hE => RZ.nextOf_tuple_end hh st.1 st.2 (by simp) hE
section
variable {prog : Program} {w : World} {A : Around} {E : Value → Shared → Prop} {s : Shared}
theorem callEnumT {l : Addr} {its : Array Value} {Q : Value → Shared → Prop} (hL : s.heap.IsTuple l its)
    (h : ∀ h', IsEnum h' (s.heap.objs.size + 1) s.heap.objs.size 0 .none → h'.IsTupleIter s.heap.objs.size l 0 → h'.IsTuple l its →
      (∀ b o, s.heap.get? b = some o → h'.get? b = some o) → Q (.ref (s.heap.objs.size + 1)) { s with heap := h' }) :
    wpAny (model prog w) A (call (.type "enumerate") [.ref l]) Q E s := by
  obtain ⟨⟨c, dct, dt, sl⟩, hl, hc, n, hd⟩ := id hL
  cases hc
  cases hd
  refine callType_new F.called_enumerate (by decide) (F.typeCall_enumerate_1 _) (F.newCall_enumerate_1 _) (fun obj => F.args_object_init_2 obj _) F.entry_enumerate_new
    (enumNewT l its n dct sl) ⟨hl, ?_⟩
  have hz : (s.heap.push { cls := .type "tuple_iterator", data := .fields #[.ref l, .int 0 0] }).objs.size = s.heap.objs.size + 1 := Heap.size_push ..
  show _ ∧ _
  rw [hz]
  have he : IsEnum ((s.heap.push { cls := .type "tuple_iterator", data := .fields #[.ref l, .int 0 0] }).push
      { cls := .type "enumerate", data := .fields #[.none, .bool false, .ref s.heap.objs.size, rawInt 0, .none, .none] }) (s.heap.objs.size + 1) s.heap.objs.size 0 .none := by
    have q := Heap.get?_push_size (s.heap.push { cls := .type "tuple_iterator", data := .fields #[.ref l, .int 0 0] })
      (o := { cls := .type "enumerate", data := .fields #[.none, .bool false, .ref s.heap.objs.size, rawInt 0, .none, .none] }) rfl
    rw [hz] at q
    exact q
  exact ⟨⟨_, he, rfl⟩, h _ he ⟨_, Heap.get?_push_of_some _ (Heap.get?_push_size _ (by rfl)), by rfl, by rfl⟩ ((hL.push _).push _) fun b o x => Heap.get?_push_of_some _ (Heap.get?_push_of_some _ x)⟩
end
/-- the tuple at a: each item in a new pair -/
def IteT (K : PySem.W.Frag) (a : Addr) : It where
  go := fun i H => ∃ (xs : List V) (x : V), SqT K H a xs ∧ xs[i]? = some x
  yld := fun i H v H' => ∃ T x, v = .ref T ∧ H T = none ∧ H' = upd H T (.tup [.int (i : Nat), x]) ∧ ∀ xs, SqT K H a xs → xs[i]? = some x
  stop := fun i H => ∃ xs : List V, SqT K H a xs ∧ xs.length = i
theorem turnEnumT {P : Program} {w : World} {K : PySem.W.Frag} {elts : List Expr} {kk : Nat} {tpos : Pos} (a e it : Addr) :
    Turn P w K (.Tuple elts kk tpos) (IteT K a) [e, it] e (fun i h => (∃ old, IsEnum h e it ((i : Nat) : Int) old) ∧ h.IsTupleIter it a i ∧ e ≠ it ∧ a ≠ it ∧ e ≠ a) where
  mem := by simp
  obj := fun i h st b hb => by
    obtain ⟨⟨old, he⟩, ⟨o, ho, hc, hd⟩, _⟩ := st
    rcases (show b = e ∨ b = it by simpa using hb) with z | z
    · subst z
      exact ⟨_, he, fun v q => nomatch q⟩
    · subst z
      exact ⟨o, ho, fun v q => by rw [hd] at q; cases q⟩
  keep := fun i h h' st k => by
    obtain ⟨⟨old, he⟩, hi, r⟩ := st
    exact ⟨⟨old, k e (by simp) _ he⟩, hi.at fun o q => k it (by simp) o q, r⟩
  item := by
    intro X hP hw hK hc i pins s σ H E I hf st hg
    subst hP hw hK
    obtain ⟨⟨old, he⟩, hit, hne, hai, hea⟩ := st
    obtain ⟨xs, x, hq, hx⟩ := hg
    obtain ⟨its, rv, p, hz⟩ := I.tuple hq
    obtain ⟨u, hu, ru⟩ := rv.get hx
    have el : e < s.heap.objs.size := Heap.lt_size he
    have il : it < s.heap.objs.size := by
      obtain ⟨_, q, _⟩ := hit
      exact Heap.lt_size q
    have hlt : i < its.toArray.size := by
      have := (List.getElem?_eq_some_iff.mp hu).1
      simpa using this
    refine wpAny_pyNext_enum_itemD (drawsT (A := X.A.in1) (I.ok.hd hc) it a hai its.toArray) he ⟨hit, p⟩ hlt hne (by simp; exact ⟨hne, hea⟩) fun y h' tk hy ho st' hT hsz hk => ?_
    obtain rfl : y = u := by
      have q : its.toArray[i]? = some u := by simpa using hu
      rw [q] at hy
      exact (Option.some.inj hy).symm
    refine ⟨_, rfl, wpAny_letOwnedTupleGo_enum (s := { s with heap := h', toks := tk + 1 }) ho fun h2 he2 sb => ?_⟩
    have hT2 : h2.get? s.heap.objs.size = some { cls := .type "tuple", data := .seq #[.int i tk, y] } := (sb.2 _ (Nat.ne_of_gt el)).trans hT
    have new : ObjOk X.prog X.w (upd H s.heap.objs.size (.tup [.int (i : Nat), x])) h2 s.heap.objs.size (.tup [.int (i : Nat), x]) :=
      ⟨by show 2 ≤ sizeLine; decide, [.int i tk, y], .cons ⟨_, rfl⟩ (.cons ru .nil), ⟨_, hT2, rfl, _, rfl⟩⟩
    have I1 : Inv X pins σ (upd H s.heap.objs.size (.tup [.int (i : Nat), x])) { s with heap := h2, toks := tk + 1 } :=
      I.turnedNew (ch := [e, it]) (fun b ob hb q => (sb.2 b (fun z => hb (by simp [z]))).trans (hk b ob (fun z => hb (by simp [z])) (fun z => hb (by simp [z])) q)) hf (Nat.le_refl _) new
    refine ⟨.ref s.heap.objs.size, _, I1, rfl, ⟨_, x, rfl, I.hok.fresh (Nat.le_refl _), rfl, fun ys hy2 => by rw [I.tuple_inj hy2 hq]; exact hx⟩, ⟨⟨y, ?_⟩, st'.1.at fun o q => (sb.2 it (Ne.symm hne)).trans q, hne, hai, hea⟩, fun b hb => ?_⟩
    · have e1 : ((i + 1 : Nat) : Int) = (i : Int) + 1 := by omega
      rw [e1]
      exact he2
    · have hb2 : b < s.heap.objs.size := by
        rcases (show b = e ∨ b = it by simpa using hb) with z | z
        · rw [z]; exact el
        · rw [z]; exact il
      rw [upd_ne (Nat.ne_of_lt hb2)]
      exact (hf b hb).1
  done := by
    intro X hP hw hK hc i pins s σ H E I hf st hg
    subst hP hw hK
    obtain ⟨⟨old, he⟩, hit, hne, hai, hea⟩ := st
    obtain ⟨xs, hq, hx⟩ := hg
    obtain ⟨its, rv, p, hz⟩ := I.tuple hq
    obtain ⟨f0, f1, f2, f3, f4, f5⟩ := hf it (by simp)
    have hl := rv.length
    have hiEq : i = its.toArray.size := by
      rw [List.size_toArray]
      omega
    subst hiEq
    exact wpAny_pyNext_enum_endD (drawsT (A := X.A.in1) (I.ok.hd hc) it a hai its.toArray) he ⟨hit, p⟩ fun h' eb => ⟨rfl, I.turned (t' := s.toks) (fun b o hb q => eb b o hb q) f0 f1 f3 f4 f5⟩
  self := fun A i s Q E st h => by
    obtain ⟨⟨_, he⟩, _⟩ := st
    exact wpAny_pyIter_enum he h
def iEnumT (K : PySem.W.Frag) (ta : TA) : TI := fun σ H R => ta σ H fun vs H1 => ∃ a xs, vs = [.ref a] ∧ SqT K H1 a xs ∧ R (IteT K a) H1
theorem pi_enumT {X : Cx} {e : Expr} {ta : TA} {p pos tpos : Pos} {elts : List Expr} {kk : Nat} (hg : Gl X "enumerate") (hm : X.mg "enumerate" = none) (ha : PA X [e] ta) (hs : starEach [e] X.env = [(false, eval e X.env)] := by rfl) :
    PI X (.Tuple elts kk tpos) (.Call (.Name "enumerate" p) [e] [] pos) (iEnumT X.K ta) := by
  refine ⟨fun pins s σ H R I h => ?_⟩
  refine Call_ (ld_blt I hg hm boot_enumerate (PyProof.Rows.callWith_type1 (thn (ha.run pos pins s σ H _ I h) fun us s1 ⟨vs, H1, I1, r1, a, xs, ex, hq, q⟩ => ?_) hs rfl))
  subst ex
  cases r1 with
  | cons r rr =>
    cases rr
    cases r
    obtain ⟨its, rv, p1, hz⟩ := I1.tuple hq
    refine callEnumT p1 fun h1 he hit hT hk => wpAny_pyIter_enum he ?_
    have al : a < s1.heap.objs.size := by
      obtain ⟨o, ho, _⟩ := p1
      exact Heap.lt_size ho
    have I2 : Inv X pins σ H1 { s1 with heap := h1 } := I1.kept (t' := s1.toks) hk
    refine ⟨s1.heap.objs.size + 1, [s1.heap.objs.size + 1, s1.heap.objs.size], _, _, H1, rfl, I2, turnEnumT a (s1.heap.objs.size + 1) s1.heap.objs.size, ⟨⟨.none, he⟩, hit, Nat.succ_ne_self _, Nat.ne_of_lt al, Nat.ne_of_gt (Nat.lt_succ_of_lt al)⟩, fun b hb => ?_, q⟩
    have le : s1.heap.objs.size ≤ b := by
      rcases (show b = s1.heap.objs.size + 1 ∨ b = s1.heap.objs.size by simpa using hb) with z | z
      · rw [z]
        exact Nat.le_succ _
      · rw [z]
        exact Nat.le_refl _
    exact I1.fpOk le (I1.hok.fresh le)
/-- the loop's bookkeeping: the pair is a new tuple at T -/
theorem for_enumT {K : PySem.W.Frag} {a : Addr} {xs : List V} {g : TG} {tb : TS} {D : Ends} {σ : L2.St} {H : Hp} (Pv : Nat → L2.St → Hp → Prop) (h0 : Pv 0 σ H) (hl : ∀ i σ H, i ≤ xs.length → Pv i σ H → SqT K H a xs)
    (hs : ∀ i x T σ H, xs[i]? = some x → Pv i σ H → H T = none → g (.ref T) σ (upd H T (.tup [.int (i : Nat), x])) fun σ2 H2 => tb { D with nx := Pv (i + 1), ct := Pv (i + 1), bk := D.nx } σ2 H2) (hd : ∀ σ H, Pv xs.length σ H → D.nx σ H) :
    ∃ W : Nat → Nat → L2.St → Hp → Prop, (∃ m, W 0 m σ H) ∧ ∀ i m σ H, W i m σ H →
      ((IteT K a).stop i H ∧ D.nx σ H) ∨ ((IteT K a).go i H ∧ ∃ N : L2.St → Hp → Prop, (∀ σ' H', N σ' H' → ∃ m', m' < m ∧ W (i + 1) m' σ' H') ∧ ∀ x H', (IteT K a).yld i H x H' → g x σ H' fun σ2 H2 => tb { D with nx := N, ct := N, bk := D.nx } σ2 H2) := by
  refine ⟨fun i m σ H => m = xs.length - i ∧ i ≤ xs.length ∧ Pv i σ H, ⟨xs.length, by simp, Nat.zero_le _, h0⟩, ?_⟩
  rintro i m σ1 H1 ⟨rfl, hi, p⟩
  by_cases e : i = xs.length
  · subst e
    exact .inl ⟨⟨xs, hl _ _ _ hi p, rfl⟩, hd _ _ p⟩
  · have lt : i < xs.length := by omega
    have ge : xs[i]? = some xs[i] := List.getElem?_eq_getElem lt
    refine .inr ⟨⟨xs, xs[i], hl _ _ _ hi p, ge⟩, Pv (i + 1), fun σ2 H2 q => ⟨xs.length - (i + 1), by omega, rfl, by omega, q⟩, ?_⟩
    rintro x H2 ⟨T, y, rfl, hT, rfl, hy⟩
    have q := hy xs (hl _ _ _ hi p)
    exact hs i y T σ1 H1 q p hT
/-! ### f(k = v, ..): keywords alone -/
theorem pe_callN0 {X : Cx} {CX : CXT} {k : Nat} {f : Addr} {fd : FuncData} {ps ks : List Str} {sp : Sp} {E : XK} {x : Str} {p pos : Pos} {kws : List Keyword} {tk : TA} {g : List Value → List Value → List Value} {gV : List V → List V → List V}
    (F : FnOk X.prog X.w X.K X.mg X.base CX k f fd ps sp) (hr : Room k X.A) (hg : Gl X x) (hm : X.mg x = some (.ref f)) (hk : PySem.W.keepIn X.K (.ref f) = true) (hb : KBn X.K fd ps 0 ks g gV) (hx : Passes CX X E) (hkw : PK X kws tk)
    (hall : (backToKw pos (keywordEach kws X.env)).all (·.1.isSome) = true := by rfl) (hks : (backToKw pos (keywordEach kws X.env)).filterMap (·.1) = ks := by rfl) (hdb : (x == ("__debug__" : Str)) = false := by decide)
    (hpl : ((backTo pos (starEach [] X.env)).any (·.1) || (backToKw pos (keywordEach kws X.env)).any (·.1.isNone)) = false := by rfl) :
    PE X (.Call (.Name x p) [] kws pos) (tCallN 0 ks.length sp gV E tNil tk) := by
  refine ⟨fun pins s σ H Q I h => ?_⟩
  refine wpAny_Call_Name_kw (ld_glob I hg hm ?_ hdb)
  refine PySem.W.callWith_KW0 (h₀ := X.base) I.ok.mod.kin hk hall (thn (hkw.run pos pins s σ H _ I h) fun ws s2 ⟨zs, H2, I2, rz, l1, l2, q2⟩ => ⟨I2.kIn, ?_⟩) hpl
  rw [hks]
  exact run_fnN (us := []) (vs := []) F hr hb hx I2 .nil rz rfl l2 q2
/-! ### isinstance's answers -/
theorem kit_self {K : PySem.W.Frag} {t : Value} (h : (t == t) = true) : PySem.W.kitOne K t t = some true := by
  unfold PySem.W.kitOne
  rw [if_pos h]
theorem kit_cls {K : PySem.W.Frag} {A C : Addr} {b : Bool} (h1 : PySem.W.isClsIn K C = true) (h2 : PySem.W.typeIn K (.ref C) = some (.type "type")) (h3 : PySem.W.subIn K (.ref A) (.ref C) = some b) (ne : (Value.ref A == Value.ref C) = false) :
    PySem.W.kitOne K (.ref A) (.ref C) = some b := by
  unfold PySem.W.kitOne
  rw [if_neg (by rw [ne]; exact Bool.false_ne_true)]
  show (if ((PySem.W.clsIn K C).isSome && PySem.W.typeIn K (.ref C) == some (.type "type")) = true then PySem.W.subIn K (.ref A) (.ref C) else none) = some b
  have h1' : (PySem.W.clsIn K C).isSome = true := h1
  rw [h1', h2, if_pos (by rfl)]
  exact h3
/-! ### lists of things that stand in the heap -/
def A2 {α : Type} (R : V → α → Prop) : List V → List α → Prop
  | [], [] => True
  | v :: vs, d :: ds => R v d ∧ A2 R vs ds
  | _, _ => False
section
variable {α : Type} {R S : V → α → Prop}
theorem A2.len : ∀ {vs : List V} {ds : List α}, A2 R vs ds → vs.length = ds.length
  | [], [], _ => rfl
  | _ :: _, _ :: _, h => congrArg (· + 1) (A2.len h.2)
  | [], _ :: _, h => h.elim
  | _ :: _, [], h => h.elim
theorem A2.mono (f : ∀ v d, R v d → S v d) : ∀ {vs : List V} {ds : List α}, A2 R vs ds → A2 S vs ds
  | [], [], _ => trivial
  | _ :: _, _ :: _, h => ⟨f _ _ h.1, A2.mono f h.2⟩
  | [], _ :: _, h => h.elim
  | _ :: _, [], h => h.elim
theorem A2.get : ∀ {vs : List V} {ds : List α} {i : Nat} {v : V}, A2 R vs ds → vs[i]? = some v → ∃ d, ds[i]? = some d ∧ R v d
  | [], [], i, v, _, e => by simp at e
  | w :: _, d :: _, 0, v, h, e => by
    have : w = v := by simpa using e
    exact ⟨d, rfl, this ▸ h.1⟩
  | _ :: _, _ :: _, i + 1, v, h, e => by
    obtain ⟨d, e1, r⟩ := A2.get (i := i) h.2 (by simpa using e)
    exact ⟨d, by simpa using e1, r⟩
  | [], _ :: _, _, _, h, _ => h.elim
  | _ :: _, [], _, _, h, _ => h.elim
theorem A2.app : ∀ {vs ws : List V} {ds es : List α}, A2 R vs ds → A2 R ws es → A2 R (vs ++ ws) (ds ++ es)
  | [], _, [], _, _, k => k
  | _ :: _, _, _ :: _, _, h, k => ⟨h.1, A2.app h.2 k⟩
  | [], _, _ :: _, _, h, _ => h.elim
  | _ :: _, _, [], _, h, _ => h.elim
theorem A2.take : ∀ {vs : List V} {ds : List α} (n : Nat), A2 R vs ds → A2 R (vs.take n) (ds.take n)
  | vs, ds, 0, _ => by simp [A2]
  | [], [], n + 1, _ => trivial
  | _ :: _, _ :: _, n + 1, h => ⟨h.1, A2.take n h.2⟩
  | [], _ :: _, _ + 1, h => h.elim
  | _ :: _, [], _ + 1, h => h.elim
theorem A2.drop : ∀ {vs : List V} {ds : List α} (n : Nat), A2 R vs ds → A2 R (vs.drop n) (ds.drop n)
  | vs, ds, 0, h => by simpa using h
  | [], [], n + 1, _ => trivial
  | _ :: _, _ :: _, n + 1, h => A2.drop n h.2
  | [], _ :: _, _ + 1, h => h.elim
  | _ :: _, [], _ + 1, h => h.elim
end
/-! ### heaps -/
/-- all that was tracked, but what stands at w, is as it was -/
def Fr (w : Addr) (H H' : Hp) : Prop := ∀ b o, b ≠ w → H b = some o → H' b = some o
theorem Fr.refl (w : Addr) (H : Hp) : Fr w H H := fun _ _ _ h => h
theorem Fr.trans {w : Addr} {H H1 H2 : Hp} (a : Fr w H H1) (b : Fr w H1 H2) : Fr w H H2 := fun c o n h => b c o n (a c o n h)
theorem Fr.of {w : Addr} {H H1 : Hp} (a : Same H H1) : Fr w H H1 := fun b o _ h => a b o h
theorem Fr.sqL {K : PySem.W.Frag} {w : Addr} {H H' : Hp} {a : Addr} {xs : List V} (e : Fr w H H') (n : a ≠ w) (h : SqL K H a xs) : SqL K H' a xs := by
  rcases h with h | h
  · refine Or.inl ?_
    rcases h with h | ⟨o, h⟩
    · exact Or.inl (e a _ n h)
    · exact Or.inr ⟨o, e a _ n h⟩
  · exact Or.inr h
theorem Fr.sqT {K : PySem.W.Frag} {w : Addr} {H H' : Hp} {a : Addr} {xs : List V} (e : Fr w H H') (n : a ≠ w) (h : SqT K H a xs) : SqT K H' a xs := by
  rcases h with h | h
  · refine Or.inl ?_
    rcases h with h | ⟨o, h⟩
    · exact Or.inl (e a _ n h)
    · exact Or.inr ⟨o, e a _ n h⟩
  · exact Or.inr h
theorem sameT {K : PySem.W.Frag} {H H' : Hp} {a : Addr} {xs : List V} (e : Same H H') (h : SqT K H a xs) : SqT K H' a xs := by
  rcases h with h | h
  · refine Or.inl ?_
    rcases h with h | ⟨o, h⟩
    · exact Or.inl (e a _ h)
    · exact Or.inr ⟨o, e a _ h⟩
  · exact Or.inr h
theorem same_new {H : Hp} {p : Addr} {o : HO} (h : H p = none) : Same H (upd H p o) := fun b u e => by
  rw [upd_ne (ne_of_none e h)]
  exact e
theorem same_mut {H H' : Hp} {p : Addr} {o : HO} (e : Same H H') (h : H p = none) : Same H (upd H' p o) := fun b u ha => by
  rw [upd_ne (ne_of_none ha h)]
  exact e b u ha
theorem fr_mut {w : Addr} {H H' : Hp} {o : HO} (e : Fr w H H') : Fr w H (upd H' w o) := fun b u n h => by
  rw [upd_ne n]
  exact e b u n h
theorem fr_new {w : Addr} {H H' : Hp} {p : Addr} {o : HO} (e : Fr w H H') (h : H p = none) : Fr w H (upd H' p o) := fun b u n ha => by
  rw [upd_ne (ne_of_none ha h)]
  exact e b u n ha
theorem fr_free {w : Addr} {H H' : Hp} {p : Addr} (e : Fr w H H') (n : p ≠ w) (h : H' p = none) : H p = none := by
  cases z : H p with
  | none => rfl
  | some o =>
    rw [e p o n z] at h
    cases h
/-- ints as values -/
abbrev vi (l : List Int) : List V := l.map V.int
theorem vi_get {l : List Int} {i : Nat} {y : V} (h : (vi l)[i]? = some y) : ∃ z, l[i]? = some z ∧ y = .int z := by
  rw [List.getElem?_map] at h
  cases e : l[i]? with
  | none =>
    rw [e] at h
    cases h
  | some z =>
    rw [e] at h
    exact ⟨z, rfl, (Option.some.inj h).symm⟩
theorem vi_at {l : List Int} {i : Nat} (h : i < l.length) : atI (vi l) (i : Int) = some (.int (l.getD i 0)) := by
  refine atI_nat ?_
  rw [List.getElem?_map, List.getElem?_eq_getElem h, List.getD_eq_getElem?_getD, List.getElem?_eq_getElem h]
  rfl
end KpR

namespace KpR
open PySem PySem.Spec PyProof.Rows L2
def strB (es : Array DictEntry) : Bool := es.toList.all fun e => match e.key with
  | .str _ _ => true
  | _ => false
theorem strB_keys {es : Array DictEntry} (h : strB es = true) : StrKeys es := fun e he => by
  have q := List.all_eq_true.mp h e (by simpa using he)
  cases k : e.key <;> rw [k] at q <;> first | exact ⟨_, _, rfl⟩ | cases q
theorem ns_at {K : PySem.W.Frag} {h : Heap} {N : Addr} {c : Value} {d : Option Addr} {es : Array DictEntry} {m : Nat} {sl : Array (Option Value)} (X : K.In h) (l : K.lookup N = some ⟨c, d, .dict es m, sl⟩) (ok : strB es = true) :
    h.Ns N fun x => nsFind es x := ⟨_, es, m, X _ _ l, rfl, strB_keys ok, fun _ => rfl⟩
theorem find_some {K : PySem.W.Frag} {N : Addr} {c : Value} {d : Option Addr} {es : Array DictEntry} {m : Nat} {sl : Array (Option Value)} {x : Str} {v : Value} (l : K.lookup N = some ⟨c, d, .dict es m, sl⟩)
    (e : PySem.W.nsIn K N x = some (some v)) : nsFind es x = some v := by
  unfold PySem.W.nsIn at e
  rw [l] at e
  dsimp only at e
  unfold nsFind findBy
  rw [← Array.find?_toList]
  cases q : es.toList.find? (fun en => en.key.isStr x) with
  | none =>
    rw [q] at e
    dsimp only at e
    split at e <;> cases e
  | some en =>
    rw [q] at e
    cases e
    rfl
theorem find_none {K : PySem.W.Frag} {N : Addr} {c : Value} {d : Option Addr} {es : Array DictEntry} {m : Nat} {sl : Array (Option Value)} {x : Str} (l : K.lookup N = some ⟨c, d, .dict es m, sl⟩)
    (e : PySem.W.nsIn K N x = some none) : nsFind es x = none := by
  unfold PySem.W.nsIn at e
  rw [l] at e
  dsimp only at e
  unfold nsFind findBy
  rw [← Array.find?_toList]
  cases q : es.toList.find? (fun en => en.key.isStr x) with
  | none => rfl
  | some en =>
    rw [q] at e
    cases e
/-- what the written part says of such a class -/
structure NeCls (K : PySem.W.Frag) (C f : Addr) : Prop where
  ob : ∃ (nm q : Str) (N : Addr) (bs : List Value) (hd : Bool) (sn : List Str) (sub : List Value) (ab : Bool) (col : Option Bool) (dd : Option Addr) (k0 k1 k2 k3 k5 : Option Value) (nid : String),
    K.lookup C = some (excClassObj nm q C N bs [.type "object"] hd sn sub ab col dd k0 k1 k2 k3 k5 nid) ∧
    ∃ (c : Value) (d : Option Addr) (es : Array DictEntry) (m : Nat) (sl : Array (Option Value)), K.lookup N = some ⟨c, d, .dict es m, sl⟩ ∧ strB es = true ∧ PySem.W.nsIn K N "__eq__" = some (some (.ref f)) ∧ PySem.W.nsIn K N "__ne__" = some none
  fn : ∃ of : Obj, K.lookup f = some of ∧ of.cls = .type "function"
def rNeG (D : Eqv) : R2 := fun x y H Q => D x y H ∧ ∀ H', Ext H H' → Q (.bl false) H'
section
variable {X : Cx} {CX : CXT} {n : Nat} {C f : Addr} {fd : FuncData} {ps : List Str} {R : Addr → Addr → Hp → Prop} {E : XK}
theorem op_neOwn (G : FnOk X.prog X.w X.K X.mg X.base CX n f fd ps (spEq R)) (hc : NeCls X.K C f) (hb : Binds X.K fd ps []) (hx : Passes CX X E) (hr : Room (n + 1) X.A) :
    OpR X (compareOp .NotEq) (rNeG (DIns C R)) := by
  intro pins s σ H x y v u Q I rx ry hq
  obtain ⟨⟨a, b, dx, dy, fs, gs, rfl, rfl, ha, hb1, hR⟩, q⟩ := hq
  cases rx
  cases ry
  obtain ⟨mA, J, _⟩ := ins_get I.hok ha
  obtain ⟨mB, J1, _⟩ := ins_get I.hok hb1
  obtain ⟨od, J, _⟩ := J.look
  obtain ⟨od1, J1, _⟩ := J1.look
  obtain ⟨nm, qn, N, bs, hd, sn, sub, ab, col, dd, k0, k1, k2, k3, k5, nid, lC, c1, d1, es, m, sl, lN, sb, lE, lNe⟩ := hc.ob
  obtain ⟨of, lf, cf⟩ := hc.fn
  have KI := I.kIn
  obtain ⟨mN, hn, e1, e2⟩ : ∃ mN : Str → Option Value, s.heap.Ns N mN ∧ mN "__eq__" = some (.ref f) ∧ mN "__ne__" = none := ⟨_, ns_at KI lN sb, find_some lN lE, find_none lN lNe⟩
  have XX : s.heap.OwnEqNoNe a C f "object" [.type "object"] :=
    ⟨_, of, nm, qn, N, bs, hd, sn, sub, ab, col, dd, k0, k1, k2, k3, k5, nid, mN, _, J.at_, J.cls, KI _ _ lC, hn, e1, KI _ _ lf, cf, rfl, rfl, e2⟩
  have e0 := I.env0
  have sp1 : spEq R [.ref a, .ref b] H (fun v H' => v = .bl true ∧ Ext H H') E := ⟨a, b, rfl, hR, fun H' e => ⟨rfl, e⟩⟩
  have ln := G.len _ _ _ _ sp1
  have vals : Vals [V.ref a, V.ref b] [Value.ref a, Value.ref b] := .cons rfl (.cons rfl .nil)
  have hr1 : Room n X.A.in1 := hr.in1
  have f0 : Env0 X.prog X.w X.K X.mg X.base X.A.in1 X.stack s H := ⟨e0.frames, e0.mod, e0.bs, e0.bsz, e0.funs, e0.frf, e0.hok, e0.bare⟩
  have bd := hb s [.ref a, .ref b] KI (by simpa using ln)
  obtain ⟨hp, g, dr, tk, os⟩ := s
  refine compareOp_ne_ownEq F.cmp_object XX J1.at_ J1.cls (hu_of hr) ?_
  refine wpAny_call (codeAny_mono (G.run X.A.in1 X.stack _ H ⟨[.ref a, .ref b], []⟩ [.ref a, .ref b] [.ref a, .ref b] _ E hr1 f0 (by simpa using bd) vals sp1) fun r s1 hq1 => ?_)
  cases r with
  | error e => exact hx pins σ H _ e s1 I hq1
  | ok fl =>
    cases fl with
    | ret w1 =>
      obtain ⟨z, H1, I1, rz, ez, ex⟩ := I.after hq1
      subst ez
      cases rz
      exact ⟨true, rfl, .bl false, H1, I1, rfl, q H1 ex⟩
    | next => exact False.elim hq1
    | brk => exact False.elim hq1
    | cont => exact False.elim hq1
end
end KpR

namespace KpR
open PySem PySem.Spec PyProof.Rows L2
section
variable {prog : Program} {w : World} {A : Around} {E : Value → Shared → Prop} {s : Shared} {K : PySem.W.Frag} {x C f : Addr} {ox : Obj} {od : Option Obj}
theorem dec_tup {l : Addr} {its : Array Value} {n : Nat} {dd : Option Addr} {sl : Array (Option Value)} {Q : Value → Shared → Prop} (hl : s.heap.get? l = some { cls := .type "tuple", dict := dd, data := .seq its n, slots := sl })
    (hx : s.heap.get? x = some ox) (hc : ox.cls = .ref C) (hs : PySem.W.Looks (model prog w) s.heap (isSubtype (.ref C) (.type "tuple")) false) (q : Q .notImplemented s) :
    wpAny (model prog w) A (call (.builtin "tuple.__eq__") [.ref l, .ref x]) Q E s := by
  refine GQ.call_here F.slot_tuple_eq ⟨_, hl, rfl⟩ F.entry_tuple_eq (F.args_tuple_eq_2 _ _) ?_
  obtain ⟨hp, g, d, tk, os⟩ := s
  wp_walk using PySem.AutoSeq1.wpAny_loadPart' hx
  rw [hc]
  refine hs.at ?_
  wp_walk
  exact q
theorem dec_int {i : Int} {t : Tok} {Q : Value → Shared → Prop}
    (hx : s.heap.get? x = some ox) (hd : ∀ p, ox.data ≠ .prim p) (q : Q .notImplemented s) :
    wpAny (model prog w) A (call (.builtin "int.__eq__") [.int i t, .ref x]) Q E s := by
  refine GQ.call_here F.slot_int_eq (typeIs_int s i t) F.entry_int_eq (F.args_int_eq_2 _ _) ?_
  obtain ⟨hp, g, d, tk, os⟩ := s
  wp_walk using PySem.AutoSeq1.wpAny_loadPart' hx, wpAny_load hx
  split
  · rename_i i' t' e
    exact absurd e (hd _)
  · wp_walk
    exact q
theorem dec_non {Q : Value → Shared → Prop} (q : Q .notImplemented s) :
    wpAny (model prog w) A (call (.builtin "NoneType.__eq__") [.none, .ref x]) Q E s :=
  call_gives F.slot_NoneType_eq rfl F.entry_NoneType_eq (F.args_NoneType_eq_2 _ _) (SeqAt.NoneType___eq___none_ref_0 x) q
/-- a value that declines, then the own == of the other side -/
theorem rc_behind {v : Value} {T id : String} {Q : Value → Shared → Prop} (tv : s.TypeIs v T) (X : K.In s.heap) (I : PySem.W.InstAt s.heap x ox C od) (hsub : PySem.W.subIn K (.ref C) (.type T) = some false)
    (h1 : Slot T "__eq__" id) (dec : ∀ Q' : Value → Shared → Prop, Q' .notImplemented s → wpAny (model prog w) A (call (.builtin id) [v, .ref x]) Q' E s) (hs : PySem.W.findIn K (.ref C) "__eq__" = some (some (.ref f))) (hf : PySem.W.isFn K (.ref f) = true)
    (hu : A.units < cLine) (h : wpAny (model prog w) A (call (.ref f) [.ref x, v]) (PySem.W.CmpBack Q) E s) : wpAny (model prog w) A (richCompare .Eq v (.ref x)) Q E s := by
  have one : wpAny (model prog w) A (tryCompare (.ref x) "__eq__" v) (fun r s' => ∃ z, r = some z ∧ Q z s') E s := by
    unfold tryCompare
    refine wpAny_bind (PySem.W.ifBound_K X I hs hf (wpAny_mono h (fun z s' hz => ?_) fun _ _ e => e))
    cases z with
    | notImplemented => exact False.elim hz
    | _ => exact wpAny_pure ⟨_, rfl, hz⟩
  have nz : (Value.type T != Value.ref C) = true := rfl
  simp only [richCompare, cmpInfo_Eq, tv.oneThing_none]
  refine wpAny_holding (wpAny_bind (wpAny_cRoomFor hu ?_))
  refine wpAny_bind (wpAny_typeOf tv (wpAny_bind (I.type.here ?_)))
  rw [if_pos nz]
  refine wpAny_bind ((PySem.W.looks_subIn X hsub).here ?_)
  rw [if_neg Bool.false_ne_true]
  refine wpAny_bind (m := tryCompare v _ (.ref x)) (wpAny_tryCompare_declines tv h1 (dec _ ⟨rfl, ?_⟩))
  rw [if_pos (show (!false) = true from rfl)]
  refine wpAny_bind (m := tryCompare (.ref x) _ v) (wpAny_mono one (fun r s' z => ?_) fun _ _ e => e)
  obtain ⟨z, rfl, hq⟩ := z
  exact wpAny_pure hq
end
/-- an own == that answers b where R says so, and only makes objects -/
def spEqB (R : Addr → V → Bool → Hp → Prop) : Sp := fun vs H Q _ => ∃ a y b, vs = [.ref a, y] ∧ R a y b H ∧ ∀ H', Ext H H' → Q (.bl b) H'
/-- either answer, by the abstract heap -/
abbrev EqvB := V → V → Bool → Hp → Prop
def EqB (X : Cx) (n : Nat) (D : EqvB) : Prop :=
  ∀ (B : Around) (pins : List (Addr × Obj)) (s : Shared) (σ : L2.St) (H : Hp) (x y : V) (b : Bool) (u v : Value), Sub X n B → Inv X pins σ H s → RelV x u → RelV y v → D x y b H →
    wpAny (model X.prog X.w) B (eqBool u v) (fun r s' => r = b ∧ LoopI X pins σ H s') X.xe s
def RcB (X : Cx) (n : Nat) (D : EqvB) : Prop :=
  ∀ (B : Around) (pins : List (Addr × Obj)) (s : Shared) (σ : L2.St) (H : Hp) (x y : V) (b : Bool) (u v : Value), Sub X n B → Inv X pins σ H s → RelV x u → RelV y v → D x y b H →
    wpAny (model X.prog X.w) B (richCompare .Eq u v) (fun r s' => r = .bool b ∧ LoopI X pins σ H s') X.xe s
/-- what the written part says of a class with an own == -/
structure EqCls (K : PySem.W.Frag) (C f : Addr) : Prop where
  hs : PySem.W.findIn K (.ref C) "__eq__" = some (some (.ref f))
  hf : PySem.W.isFn K (.ref f) = true
/-- both are instances, the second of no class below the first one's -/
def DInsB (K : PySem.W.Frag) (C : Addr) (R : Addr → V → Bool → Hp → Prop) : EqvB := fun x y b H => ∃ a c C' dx dy fs gs, x = .ref a ∧ y = .ref c ∧ H a = some (.ins C dx fs) ∧ H c = some (.ins C' dy gs) ∧ PySem.W.notFirst K C (.ref C') = true ∧ R a (.ref c) b H
/-- the first one is none of the class -/
inductive Alien (K : PySem.W.Frag) (C : Addr) (H : Hp) : V → Prop
  | non (h : PySem.W.subIn K (.ref C) (.type "NoneType") = some false) : Alien K C H .non
  | int {i : Int} (h : PySem.W.subIn K (.ref C) (.type "int") = some false) : Alien K C H (.int i)
  | tup {a : Addr} {xs : List V} (h : PySem.W.subIn K (.ref C) (.type "tuple") = some false) (e : H a = some (.tup xs)) : Alien K C H (.ref a)
  | lst {a : Addr} {xs : List V} (h : PySem.W.subIn K (.ref C) (.type "list") = some false) (e : H a = some (.lst xs)) : Alien K C H (.ref a)
def DBehB (K : PySem.W.Frag) (C : Addr) (R : Addr → V → Bool → Hp → Prop) : EqvB := fun x y b H => ∃ a dx fs, y = .ref a ∧ H a = some (.ins C dx fs) ∧ Alien K C H x ∧ R a x b H
section
variable {prog : Program} {w : World} {A : Around} {E : Value → Shared → Prop} {s : Shared} {x C : Addr} {ox : Obj}
theorem dec_lst {l : Addr} {its : Array Value} {n : Nat} {dd : Option Addr} {sl : Array (Option Value)} {Q : Value → Shared → Prop} (hl : s.heap.get? l = some { cls := .type "list", dict := dd, data := .seq its n, slots := sl })
    (hx : s.heap.get? x = some ox) (hc : ox.cls = .ref C) (hs : PySem.W.Looks (model prog w) s.heap (isSubtype (.ref C) (.type "list")) false) (q : Q .notImplemented s) :
    wpAny (model prog w) A (call (.builtin "list.__eq__") [.ref l, .ref x]) Q E s := by
  refine GQ.call_here F.slot_list_eq ⟨_, hl, rfl⟩ F.entry_list_eq (F.args_list_eq_2 _ _) ?_
  obtain ⟨hp, g, d, tk, os⟩ := s
  wp_walk using PySem.AutoSeq1.wpAny_loadPart' hx
  rw [hc]
  refine hs.at ?_
  wp_walk
  exact q
end
section
variable {X : Cx} {CX : CXT} {n : Nat} {C f : Addr} {fd : FuncData} {ps : List Str} {R : Addr → V → Bool → Hp → Prop} {E : XK} {pins : List (Addr × Obj)} {σ : L2.St} {H : Hp} {s : Shared} {B : Around}
theorem own_runB (G : FnOk X.prog X.w X.K X.mg X.base CX n f fd ps (spEqB R)) (hb : Binds X.K fd ps []) (hx : Passes CX X E) (sb : Sub X n B) (I : Inv X pins σ H s) {a : Addr} {y : V} {v : Value} {b : Bool} (ry : RelV y v) (hr : R a y b H) :
    wpAny (model X.prog X.w) B (call (.ref f) [.ref a, v]) (PySem.W.CmpBack fun r s' => r = .bool b ∧ LoopI X pins σ H s') X.xe s := by
  have sp1 : spEqB R [.ref a, y] H (fun z H' => z = .bl b ∧ Ext H H') E := ⟨a, y, b, rfl, hr, fun H' e => ⟨rfl, e⟩⟩
  have e0 := I.env0
  have ln := G.len _ _ _ _ sp1
  have vals : Vals [V.ref a, y] [Value.ref a, v] := .cons rfl (.cons ry .nil)
  have f0 : Env0 X.prog X.w X.K X.mg X.base B X.stack s H := ⟨by rw [sb.fr]; exact e0.frames, e0.mod, e0.bs, e0.bsz, e0.funs, e0.frf, e0.hok, e0.bare⟩
  have bd := hb s [.ref a, v] I.kIn (by simpa using ln)
  refine wpAny_call (codeAny_mono (G.run B X.stack s H ⟨[.ref a, v], []⟩ [.ref a, v] [.ref a, y] _ E sb.room f0 (by simpa using bd) vals sp1) fun r s1 hq1 => ?_)
  cases r with
  | error e => exact hx pins σ H s e s1 I hq1
  | ok fl =>
    cases fl with
    | ret w1 =>
      obtain ⟨z, H1, I1, rz, ez, ex⟩ := I.after hq1
      subst ez
      cases rz
      exact ⟨rfl, H1, I1, ex⟩
    | next => exact False.elim hq1
    | brk => exact False.elim hq1
    | cont => exact False.elim hq1
theorem rcB_ins (hc : EqCls X.K C f) (G : FnOk X.prog X.w X.K X.mg X.base CX n f fd ps (spEqB R)) (hb : Binds X.K fd ps []) (hx : Passes CX X E) : RcB X n (DInsB X.K C R) := by
  intro B pins s σ H x y b u v sb I rx ry hd
  obtain ⟨a, c, C', dx, dy, fs, gs, rfl, rfl, ha, hc1, nf, hr⟩ := hd
  cases rx
  cases ry
  obtain ⟨mA, J, _⟩ := ins_get I.hok ha
  obtain ⟨mC, J1, _⟩ := ins_get I.hok hc1
  obtain ⟨od, J, _⟩ := J.look
  obtain ⟨od1, J1, _⟩ := J1.look
  obtain ⟨m, hF⟩ := I.fr
  exact PySem.W.cmp_K (op := .Eq) (tb := .ref C') sb.room.units0 hF I.ok.mod.kin J J1.type nf hc.hs hc.hf (own_runB (y := .ref c) (v := .ref c) G hb hx sb I rfl hr)
theorem rcB_beh (hc : EqCls X.K C f) (G : FnOk X.prog X.w X.K X.mg X.base CX n f fd ps (spEqB R)) (hb : Binds X.K fd ps []) (hx : Passes CX X E) : RcB X n (DBehB X.K C R) := by
  intro B pins s σ H x y b u v sb I rx ry hd
  obtain ⟨a, dx, fs, rfl, ha, al, hr⟩ := hd
  cases ry
  obtain ⟨mA, J, _⟩ := ins_get I.hok ha
  obtain ⟨od, J, _⟩ := J.look
  have go := fun {v : Value} (rv : RelV x v) => own_runB G hb hx sb I rv hr
  cases al with
  | non h =>
    cases (show u = Value.none from rx)
    exact rc_behind rfl I.kIn J h F.slot_NoneType_eq (fun _ q => dec_non q) hc.hs hc.hf sb.room.units0 (go rfl)
  | int h =>
    obtain ⟨t, e⟩ := (show ∃ t, u = Value.int _ t from rx)
    cases e
    exact rc_behind (typeIs_int s _ t) I.kIn J h F.slot_int_eq (fun _ q => dec_int J.at_ (fun _ z => nomatch z) q) hc.hs hc.hf sb.room.units0 (go ⟨t, rfl⟩)
  | tup h e =>
    cases (show u = Value.ref _ from rx)
    obtain ⟨its, r, ⟨⟨cl, dd, dt, sl⟩, e1, e2, k, e3⟩, _⟩ := I.tuple (SqT.of e)
    simp only at e2 e3
    subst e2 e3
    exact rc_behind ⟨_, e1, rfl⟩ I.kIn J h F.slot_tuple_eq (fun _ q => dec_tup e1 J.at_ rfl (PySem.W.looks_subIn I.kIn h) q) hc.hs hc.hf sb.room.units0 (go rfl)
  | lst h e =>
    cases (show u = Value.ref _ from rx)
    obtain ⟨z, its, k, r, e1⟩ := I.hok _ _ e
    exact rc_behind ⟨_, e1, rfl⟩ I.kIn J h F.slot_list_eq (fun _ q => dec_lst e1 J.at_ rfl (PySem.W.looks_subIn I.kIn h) q) hc.hs hc.hf sb.room.units0 (go rfl)
end
section
variable {X : Cx} {n m : Nat} {D D' : EqvB}
theorem RcB.or (h : RcB X n D) (h' : RcB X n D') : RcB X n (fun x y b H => D x y b H ∨ D' x y b H) := fun B pins s σ H x y b u v sb I rx ry d =>
  d.elim (h B pins s σ H x y b u v sb I rx ry) (h' B pins s σ H x y b u v sb I rx ry)
theorem EqB.or (h : EqB X n D) (h' : EqB X n D') : EqB X n (fun x y b H => D x y b H ∨ D' x y b H) := fun B pins s σ H x y b u v sb I rx ry d =>
  d.elim (h B pins s σ H x y b u v sb I rx ry) (h' B pins s σ H x y b u v sb I rx ry)
theorem RcB.mono (h : RcB X n D) (k : n ≤ m) : RcB X m D := fun B pins s σ H x y b u v sb => h B pins s σ H x y b u v (sb.mono k)
/-- inside a list or a tuple: the same object is itself -/
theorem RcB.eqB (h : RcB X n D) (hr : ∀ x y b H, D x y b H → (∃ c, x = .ref c ∧ ∃ a, y = .ref a ∧ (c = a → b = true)) ∨ ((x = .non ∨ ∃ i, x = .int i) ∧ ∃ a, y = .ref a)) : EqB X n D := by
  intro B pins s σ H x y b u v sb I rx ry d
  have go : u ≠ v → (∀ p q, ¬ (u = .float p q)) → wpAny (model X.prog X.w) B (eqBool u v) (fun r s' => r = b ∧ LoopI X pins σ H s') X.xe s := by
    intro ne nf
    unfold eqBool
    refine wpAny_holding ?_
    refine wpAny_ite_split (fun e => absurd (eq_of_beq e) ne) (fun _ => ?_)
    have k := h B pins s σ H x y b u v sb I rx ry d
    have k2 : wpAny (model X.prog X.w) B (do truthOfDropped (← richCompare .Eq u v)) (fun r s' => r = b ∧ LoopI X pins σ H s') X.xe s := by
      refine wpAny_bind (wpAny_mono k (fun z s' q => ?_) fun _ _ e => e)
      obtain ⟨rfl, q⟩ := q
      exact wpAny_truthy_bool ⟨rfl, q⟩
    cases u with
    | float p q => exact absurd rfl (nf p q)
    | _ => exact k2
  rcases hr x y b H d with ⟨c, rfl, a, rfl, q⟩ | ⟨hx, a, rfl⟩
  · cases (show u = Value.ref c from rx)
    cases (show v = Value.ref a from ry)
    by_cases e : c = a
    · have eb := q e
      subst e
      subst eb
      exact SeqAt.EqAt.same (A := B) (s := s) (.ref c) X.prog X.w X.xe _ ⟨rfl, H, I, Ext.rfl'⟩
    · exact go (fun z => e (Value.ref.inj z)) (fun _ _ z => nomatch z)
  · cases (show v = Value.ref a from ry)
    rcases hx with rfl | ⟨i, rfl⟩
    · cases (show u = Value.none from rx)
      exact go (fun z => nomatch z) (fun _ _ z => nomatch z)
    · obtain ⟨t, e⟩ := (show ∃ t, u = Value.int i t from rx)
      cases e
      exact go (fun z => nomatch z) (fun _ _ z => nomatch z)
/-- x == y -/
def rEqB (D : EqvB) : R2 := fun x y H Q => ∃ b, D x y b H ∧ ∀ H', Ext H H' → Q (.bl b) H'
theorem op_eqB (h : RcB X n D) (hr : Room n X.A) : OpR X (compareOp .Eq) (rEqB D) := by
  intro pins s σ H x y v u Q I rx ry hq
  obtain ⟨b, d, q⟩ := hq
  show wpAny (model X.prog X.w) X.A (richCompare .Eq v u) (EP X pins σ Q) X.xe s
  refine wpAny_mono (h X.A pins s σ H x y b v u ⟨hr, rfl⟩ I rx ry d) (fun r s1 z => ?_) fun _ _ e => e
  obtain ⟨rfl, H1, I1, e⟩ := z
  exact ⟨.bl b, H1, I1, rfl, q H1 e⟩
/-- x in a list none of whose items is equal to it -/
def rOutB (D : EqvB) : R2 := fun x y H Q => ∃ l ys, y = .ref l ∧ (∀ H', Ext H H' → H' l = some (.lst ys)) ∧ (∀ z, z ∈ ys → ∀ H', Ext H H' → D z x false H') ∧ ∀ H', Ext H H' → Q (.bl false) H'
theorem has_none (h : EqB X n D) {B : Around} (sb : Sub X (n + 1) B) {pins : List (Addr × Obj)} {σ : L2.St} {H : Hp} {x : V} {v : Value} {l : Addr} {ys : List V} (rx : RelV x v) (hl : ∀ H', Ext H H' → H' l = some (.lst ys)) (hd : ∀ z, z ∈ ys → ∀ H', Ext H H' → D z x false H')
    {Q : Value → Shared → Prop} (fin : ∀ s', LoopI X pins σ H s' → Q (.bool false) s') (k : Nat) : ∀ i : Nat, ys.length - i = k → ∀ s, LoopI X pins σ H s →
      wpAny (model X.prog X.w) B.in1 (Builtin.«list.__contains__.loop» ⟨[.ref l, v, rawInt i], []⟩) (GQ.FinOf X.prog X.w B (wants Q X.xe)) (fun e s' => wants Q X.xe (.error e) s') s := by
  induction k with
  | zero =>
    intro i hi s hs
    obtain ⟨H1, I1, e1⟩ := id hs
    obtain ⟨z, its, kk, r, eo⟩ := I1.hok _ _ (hl H1 e1)
    have out := fin s hs
    have no : its.toArray[((i : Nat) : Int).toNat]? = none := by
      have q := r.length
      simp
      omega
    obtain ⟨hp, g, d, tk, os⟩ := s
    wp_walk using PySem.AutoSeq1.wpAny_loadPart' eo
    rw [no]
    wp_walk
    exact out
  | succ k ih =>
    intro i hi s hs
    obtain ⟨H1, I1, e1⟩ := id hs
    obtain ⟨z, its, kk, r, eo⟩ := I1.hok _ _ (hl H1 e1)
    have lt : i < ys.length := by omega
    have lt2 : i < its.length := by rw [← r.length] <;> exact lt
    have so : its.toArray[((i : Nat) : Int).toNat]? = some its[i] := by simp [lt2]
    obtain ⟨u, hu, ru⟩ := r.get (List.getElem?_eq_getElem lt)
    have eu : its[i] = u := by
      rw [List.getElem?_eq_getElem lt2] at hu
      exact Option.some.inj hu
    have turn := h B.in1 pins s σ H1 _ x false u v sb.in1 I1 ru rx (hd _ (List.getElem_mem lt) H1 e1)
    obtain ⟨hp, g, d, tk, os⟩ := s
    wp_walk using PySem.AutoSeq1.wpAny_loadPart' eo
    rw [so, eu]
    refine wpAny_bind (wpAny_mono turn (fun rr s2 q => ?_) fun _ _ e => e)
    obtain ⟨rfl, H2, I2, e2⟩ := q
    have next := ih (i + 1) (by omega) s2 ⟨H2, I2, e1.trans e2⟩
    have up : ((i : Int) + 1) = ((i + 1 : Nat) : Int) := by omega
    obtain ⟨hp2, g2, d2, tk2, os2⟩ := s2
    wp_walk
    rw [up]
    exact ⟨plainId_quiet MeetsSeq.plain_contains_loop _, codeAny_builtin MeetsSeq.entry_contains_loop (by
      rw [Around.under_plainId MeetsSeq.plain_contains_loop _]
      exact next)⟩
theorem op_outB (h : EqB X n D) (hr : Room (n + 1) X.A) : OpR X (compareOp .In) (rOutB D) := by
  intro pins s σ H x y v u Q I rx ry hq
  obtain ⟨l, ys, rfl, hl, hd, q⟩ := hq
  cases (show u = Value.ref l from ry)
  obtain ⟨z, its, kk, r, eo⟩ := I.hok _ _ (hl H Ext.rfl')
  show wpAny (model X.prog X.w) X.A (do return .bool (← contains (.ref l) v)) (EP X pins σ Q) X.xe s
  have end_ : ∀ s', LoopI X pins σ H s' → EP X pins σ Q (.bool false) s' := fun s' ⟨H1, I1, e1⟩ => ⟨.bl false, H1, I1, rfl, q H1 e1⟩
  have run := has_none (B := X.A) h ⟨hr, rfl⟩ rx hl hd (Q := fun r s' => r = .bool false ∧ LoopI X pins σ H s') (fun s' z => ⟨rfl, z⟩) _ 0 rfl s ⟨H, I, Ext.rfl'⟩
  refine wpAny_bind (wpAny_contains_slot (id := "list.__contains__") ⟨_, eo, rfl⟩ F.slot_list_contains (wpAny_mono (GQ.call_here (Q := fun r s' => r = .bool false ∧ LoopI X pins σ H s') F.slot_list_contains ⟨_, eo, rfl⟩ F.entry_list_contains (F.args_list_contains_2 _ _) ?_) (fun r s' z => ?_) fun _ _ e => e))
  · obtain ⟨hp, g, d, tk, os⟩ := s
    wp_walk
    exact ⟨plainId_quiet MeetsSeq.plain_contains_loop _, codeAny_builtin MeetsSeq.entry_contains_loop (by
      rw [Around.under_plainId MeetsSeq.plain_contains_loop _]
      exact run)⟩
  · obtain ⟨rfl, z⟩ := z
    exact wpAny_truthy_bool (wpAny_pure (end_ s' z))
end
end KpR

namespace KpR
open PySem PySem.Spec PyProof.Rows L2
/-- a callee of which nothing comes -/
theorem passF {X : Cx} : Passes (L2.CX X.prog X.w) X (fun _ _ _ => False) := fun _ _ _ _ _ _ _ ⟨_, _, _, _, _, _, _, _, _, _, _, _, z⟩ => z.elim
/-- what a callee in a try's body may raise: whatever the locals are -/
def anyL (n : Nat) (W : WX) : XK := fun cls d H => ∀ σ : L2.St, σ.length = n → W cls d σ H
theorem passL {X : Cx} {W : WX} {n : Nat} (tk : Takes X W) (hn : X.N.length = n) : Passes (L2.CX X.prog X.w) X (anyL n W) := fun _ σ _ _ e s' I c => tk e s' (XE.of_call I (fun _ _ _ h => h σ (by rw [← hn] <;> exact I.len)) c)
/-- a call by keywords of a def without defaults -/
theorem kbOf {K : PySem.W.Frag} {fd : FuncData} {ps ks : List Str} {n : Nat} {g : List Value → List Value → List Value} {gV : List V → List V → List V}
    (h : ∀ us ws : List Value, us.length = n → ws.length = ks.length → bindArgs fd ⟨us, ks.zip ws⟩ = pure (ps.zip (g us ws))) (r : ∀ {vs : List V} {us : List Value} {zs : List V} {ws : List Value}, Vals vs us → Vals zs ws → Vals (gV vs zs) (g us ws)) : KBn K fd ps n ks g gV :=
  ⟨fun s us ws _ l1 l2 => .of_eq (h us ws l1 l2), r⟩
/-- a builtin's type against an own class -/
theorem kit_tc {K : PySem.W.Frag} {T : String} {C : Addr} {b : Bool} (h1 : PySem.W.isClsIn K C = true) (h2 : PySem.W.typeIn K (.ref C) = some (.type "type")) (h3 : PySem.W.subIn K (.type T) (.ref C) = some b) : PySem.W.kitOne K (.type T) (.ref C) = some b := by
  have ne : ¬ (Value.type T == Value.ref C) = true := fun z => nomatch eq_of_beq z
  unfold PySem.W.kitOne
  rw [if_neg ne]
  show (if ((PySem.W.clsIn K C).isSome && PySem.W.typeIn K (.ref C) == some (.type "type")) = true then PySem.W.subIn K (.type T) (.ref C) else none) = some b
  rw [show (PySem.W.clsIn K C).isSome = true from h1, h2, if_pos (by rfl)]
  exact h3
/-- the first clause takes it -/
def wFst (K : PySem.W.Frag) (c : Value) (i : Nat) (tz : Addr → Value → Option Addr → TS) (D : Ends) : WX := fun cls d σ H =>
  PySem.W.exmOne K cls c = some true ∧ ∀ a, H a = none → tz a cls d ⟨fun τ G => D.nx (τ.set i none) G, D.rt, fun τ G => D.bk (τ.set i none) G, fun τ G => D.ct (τ.set i none) G⟩ (σ.set i (some (.ref a))) H
section
variable {X : Cx} {x n : Str} {c : Value} {i : Nat} {body rest : List Stmt} {z₀ : Stmt} {more : List ExceptHandler} {pn pt pw : Pos} {tb : WX → TS} {tz : Addr → Value → Option Addr → TS}
theorem ps_try_fst (st : X.stack = X.env :: X.outer) (fr : X.env.frame = some X.env.locals) (nd : X.N.Nodup) (at_ : X.N[i]? = some n) (lo : X.env.kindOf n = some .local) (nm : Names X x c)
    (bd : ∀ (W : WX) (qn : List (Addr × Obj)) (xe : Value → Shared → Prop), Takes (X.tr qn xe) W → PassesOwn (model X.prog X.w) X.A X.env xe → PSs (X.tr qn xe) body (tb W))
    (su : ∀ (e : Addr) (oe : Obj) (cls : Value) (d : Option Addr) (qn : List (Addr × Obj)), Zc cls d oe → (∃ fs, oe.data = .fields fs) → PSs (X.suite e ((e, oe) :: qn)) (z₀ :: rest) (tz e cls d)) :
    PS X (.Try body (.ExceptHandler (some (.Name x pn)) (some n) (z₀ :: rest) pw :: more) [] [] pt) (fun D σ H => tb (wFst X.K c i tz D) D σ H) := by
  refine ⟨fun pins s σ H D I hyp => ?_⟩
  have okX := I.ok
  have afr : X.A.frames = some (X.env :: X.outer) := by rw [okX.frames, st]
  have lcl : Loc X.env.scope n := .inl lo
  let hs := ExceptHandler.ExceptHandler (some (.Name x pn)) (some n) (z₀ :: rest) pw :: more
  refine wpAny_Try_except ?_
  refine wpAny_mono ((bd (wFst X.K c i tz D) (X.pn ++ pins) (fun e t1 => wpAny (model X.prog X.w) X.A (noteFrame e X.env) (fun _ t2 => wpAny (model X.prog X.w) X.A (setFlight e none) (fun _ t3 =>
    wpAny (model X.prog X.w) X.A (handleBy e X.env hs) (SP X pins D) X.xe t3) X.xe t2) X.xe t1) (fun u t air => ?_) PassesOwn.looking).run [] s σ H D (I.toTry _) hyp) (fun f t done => ?_) (fun _ _ air => air)
  · obtain ⟨e, G, sI, pq, τ, H1, cls, d, rfl, J0, near, upS, sky0, free, osE, bare, hit, go⟩ := air
    have J : Inv X pins τ H1 sI := J0.ofTry okX
    have sky : Sky G (X.env :: X.outer) e (Zc cls d) X.env.locals t.heap := by rw [← st] <;> exact sky0
    show wpAny (model X.prog X.w) X.A (noteFrame (.ref e) X.env) _ _ _
    refine Sky.land Zc.steady afr fr sky fun hp1 fly1 up1 => ?_
    have J1 : Inv X pins τ H1 { t with heap := hp1 } := J.landed near fly1.1 (upS.trans up1) osE bare
    obtain ⟨o1, fs1, at1, z1, dat1⟩ := fly1.there
    have off : e ∉ frs (X.env :: X.outer) := fun mem => by
      obtain ⟨_, o2, at2, no2⟩ := fly1.2.2.1.mem mem
      have q : o1 = o2 := Option.some.inj (at1.symm.trans at2)
      subst q
      exact no2 _ dat1
    have offL : e ≠ X.env.locals := fun q => off (List.mem_filterMap.mpr ⟨X.env, List.mem_cons_self, by rw [fr, q]⟩)
    have offF : e ∉ X.fs := fun mem => by
      obtain ⟨y, hy, q⟩ := List.mem_filterMap.mp mem
      exact off (List.mem_filterMap.mpr ⟨y, List.mem_cons_of_mem _ hy, q⟩)
    have S1 := J1.suite at1 dat1 free offL offF
    refine wpAny_handleBy_cons (codeAny_handlers_test ?_) (fun q => nomatch q)
    have ty : PySem.W.Looks (model X.prog X.w) hp1 (typeOf (.ref e)) cls := fun A Q E s k q => wpAny_typeOf_ref (k _ _ at1) (by rw [z1.1] <;> exact q)
    have mt := PySem.W.exm_one (M := model X.prog X.w) (J1.kIn) ty hit
    have look : ∀ {Q : Value → Shared → Prop} {E : Value → Shared → Prop}, Q c { t with heap := hp1 } → wpAny (model X.prog X.w) (X.A.mark (some (.ref e))) (eval (.Name x pn) X.env) Q E { t with heap := hp1 } := fun {Q E} q => by
      obtain ⟨gl, nd2, own | ⟨none_, boot, nn⟩⟩ := nm
      · exact ld_glob (X := X.suite e ((e, o1) :: (X.pn ++ pins))) S1 gl own q nd2
      · exact ld_blt (X := X.suite e ((e, o1) :: (X.pn ++ pins))) S1 gl none_ boot q nn nd2
    refine look (mt.here ?_)
    refine codeAny_handlers_suite_as ?_
    refine HandSPX.lands_againZ fly1 fun hp2 fly2 up2 => ?_
    have J2 : Inv X pins τ H1 { t with heap := hp2 } := J.landed near fly2.1 ((upS.trans up1).trans up2) osE bare
    obtain ⟨o2, fs2, at2, z2, dat2⟩ := fly2.there
    have S2 := J2.suite at2 dat2 free offL offF
    refine store_ok (X := X.suite e ((e, o2) :: (X.pn ++ pins))) (v := .ref e) S2 nd at_ lcl rfl (fun t2 S3 => ?_) (.inr lo)
    refine wpAny_mono ((su e o2 cls d (X.pn ++ pins) z2 ⟨_, dat2⟩).run [] t2 _ H1 _ S3 (go e free)) (fun f t3 out => ?_) (fun _ _ q => False.elim q)
    have fin : ∀ {τ1 : L2.St} {H2 : Hp} {R : Shared → Prop}, Inv (X.suite e ((e, o2) :: (X.pn ++ pins))) [] τ1 H2 t3 → (∀ t4, Inv X pins (τ1.set i none) H2 t4 → R t4) →
        wpAny (model X.prog X.w) X.A (do bindName X.env n .none; unbindBehindTheSuite X.env n pw) (fun _ t4 => R t4) X.xe t3 := fun {τ1 H2 R} S4 q => gone_ok (S4.unsuite okX) nd at_ lo q
    match f, out with
    | .next, ⟨_, _, S4, q⟩ => exact fin S4 fun _ J4 => ⟨_, _, J4, q⟩
    | .brk, ⟨_, _, S4, q⟩ => exact fin S4 fun _ J4 => ⟨_, _, J4, q⟩
    | .cont, ⟨_, _, S4, q⟩ => exact fin S4 fun _ J4 => ⟨_, _, J4, q⟩
    | .ret u, ⟨_, _, _, S4, ru, q⟩ => exact fin S4 fun _ J4 => ⟨_, _, _, J4, ru, q⟩
  · match f, done with
    | .next, ⟨_, _, J4, q⟩ => exact wpAny_execs_nil ⟨_, _, J4.ofTry okX, q⟩
    | .brk, ⟨_, _, J4, q⟩ => exact ⟨_, _, J4.ofTry okX, q⟩
    | .cont, ⟨_, _, J4, q⟩ => exact ⟨_, _, J4.ofTry okX, q⟩
    | .ret u, ⟨_, _, _, J4, ru, q⟩ => exact ⟨_, _, _, J4.ofTry okX, ru, q⟩
end
/-- what the written part says of a class with an own == and the != of object, anywhere below object -/
structure NeK (K : PySem.W.Frag) (C f : Addr) : Prop where
  hn : PySem.W.findIn K (.ref C) "__ne__" = some (some (.builtin "object.__ne__"))
  hm : PySem.W.mroIn K C (.type "object") = some true
  hs : PySem.W.findIn K (.ref C) "__eq__" = some (some (.ref f))
  hf : PySem.W.isFn K (.ref f) = true
section
variable {prog : Program} {w : World} {A : Around} {E : Value → Shared → Prop} {s : Shared} {K : PySem.W.Frag} {x y C f : Addr} {ox oy : Obj} {od : Option Obj}
theorem objNe_own {Q : Fin → Shared → Prop} (X : K.In s.heap) (I : PySem.W.InstAt s.heap x ox C od) (c : NeK K C f) (hu : A.units < cLine)
    (h : wpAny (model prog w) A (call (.ref f) [.ref x, .ref y]) (fun v s1 => ∃ b, v = .bool b ∧ Q (.done (.ret (.bool (!b)))) s1) E s) : wpAny (model prog w) A (Builtin.«object.__ne__» ⟨[.ref x, .ref y], []⟩) Q E s := by
  have one : wpAny (model prog w) A (callSpecialIfBound? (.ref x) "__eq__" [.ref y]) (fun r s1 => ∃ b, r = some (.bool b) ∧ Q (.done (.ret (.bool (!b)))) s1) E s :=
    PySem.W.ifBound_K X I c.hs c.hf (wpAny_mono h (fun v s1 ⟨b, e, q⟩ => ⟨b, congrArg some e, q⟩) fun _ _ e => e)
  obtain ⟨hp, g, d, tk, os⟩ := s
  unfold Builtin.«object.__ne__»
  repeat (first
    | with_reducible refine wpAny_cRoomFor hu ?_
    | (refine wpAny_bind (m := callSpecialIfBound? (.ref x) (Str.ofString "__eq__") [.ref y]) (wpAny_mono one (fun r s1 hr => by
          obtain ⟨b, rfl, hq⟩ := hr
          repeat (first | exact hq | exact wpAny_pure hq | exact wpAny_truthy_bool hq | (refine wpAny_bind (m := truthy (.bool _)) (wpAny_truthy_bool ?_)) | wp_step)) fun _ _ e => e))
    | wp_step)
theorem call_objNe {Q : Value → Shared → Prop} (X : K.In s.heap) (I : PySem.W.InstAt s.heap x ox C od) (c : NeK K C f) (hu : A.in1.units < cLine)
    (h : wpAny (model prog w) A.in1 (call (.ref f) [.ref x, .ref y]) (fun v s1 => ∃ b, v = .bool b ∧ Q (.bool (!b)) s1) E s) : wpAny (model prog w) A (call (.builtin "object.__ne__") [.ref x, .ref y]) Q E s :=
  wpAny_call (codeAny_call_builtin F.cmp_object.ne.plain F.cmpEntry_ne (PySem.W.check_slot F.cmpKind_ne F.cmpSplit_ne (I.type.andThen (PySem.W.looks_mroIn X c.hm)) (F.cmpArgs_ne _ _) (objNe_own X I c hu h)))
theorem rc_neK {Q : Value → Shared → Prop} (X : K.In s.heap) (I : PySem.W.InstAt s.heap x ox C od) (c : NeK K C f) (hy : s.heap.get? y = some oy) (cy : oy.cls = .ref C) (hu : A.units + 1 < cLine)
    (h : wpAny (model prog w) A.in1 (call (.ref f) [.ref x, .ref y]) (fun v s1 => ∃ b, v = .bool b ∧ Q (.bool (!b)) s1) E s) : wpAny (model prog w) A (richCompare .NotEq (.ref x) (.ref y)) Q E s := by
  have hu0 : A.units < cLine := Nat.lt_of_succ_lt hu
  have run : wpAny (model prog w) A (callSpecialIfBound? (.ref x) "__ne__" [.ref y]) (fun r s1 => ∃ b, r = some (.bool b) ∧ Q (.bool b) s1) E s := by
    simp only [callSpecialIfBound?, bindSpecialIfBound?]
    refine wpAny_holding (wpAny_bind (wpAny_bind (wpAny_bind (I.type.here ((PySem.W.looks_findIn X c.hn).here ?_)))))
    refine wpAny_bind (wpAny_askSetting (wpAny_ite ?_))
    have fin : wpAny (model prog w) A (call (.builtin "object.__ne__") ([.ref x] ++ [.ref y]) >>= fun v => pure (some v)) (fun r s1 => ∃ b, r = some (.bool b) ∧ Q (.bool b) s1) E s :=
      wpAny_bind (wpAny_mono (call_objNe (Q := fun v s1 => ∃ b, v = .bool b ∧ Q (.bool b) s1) X I c hu (wpAny_mono h (fun v s1 ⟨b, e, q⟩ => ⟨b, e, _, rfl, q⟩) fun _ _ e => e)) (fun v s1 ⟨b, e, q⟩ => wpAny_pure ⟨b, congrArg some e, q⟩) fun _ _ e => e)
    split
    · exact wpAny_bind (wpAny_of_eq (F.cmp_object.ne.bind _) (wpAny_pure (by exact fin)))
    · exact wpAny_tryCatch (wpAny_bind (wpAny_of_eq (F.cmp_object.ne.bind _) (wpAny_pure (by exact fin))))
  have one : wpAny (model prog w) A (tryCompare (.ref x) "__ne__" (.ref y)) (fun r s1 => ∃ b, r = some (.bool b) ∧ Q (.bool b) s1) E s := by
    unfold tryCompare
    refine wpAny_bind (wpAny_mono run (fun r s1 z => ?_) fun _ _ e => e)
    obtain ⟨b, rfl, q⟩ := z
    exact wpAny_pure ⟨b, rfl, q⟩
  unfold richCompare
  simp only [oneThing_ref]
  refine wpAny_holding (wpAny_bind (wpAny_cRoomFor hu0 ?_))
  rw [cmpInfo_NotEq]
  dsimp only
  refine wpAny_bind (I.type.here (wpAny_bind (wpAny_typeOf_ref hy ?_)))
  rw [cy, show (Value.ref C != Value.ref C) = false from by simp]
  simp only [Bool.false_eq_true, if_false]
  refine wpAny_bind (wpAny_pure ?_)
  simp only [Bool.false_eq_true, if_false]
  refine wpAny_bind (wpAny_mono one (fun r s1 z => ?_) fun _ _ e => e)
  obtain ⟨b, rfl, q⟩ := z
  exact wpAny_pure q
end
section
variable {X : Cx} {CX : CXT} {n : Nat} {C f : Addr} {fd : FuncData} {ps : List Str} {R : Addr → V → Bool → Hp → Prop} {E : XK}
/-- x != y of two instances of one such class -/
def rNeK (C : Addr) (R : Addr → V → Bool → Hp → Prop) : R2 := fun x y H Q => ∃ a c b dx dy fs gs, x = .ref a ∧ y = .ref c ∧ H a = some (.ins C dx fs) ∧ H c = some (.ins C dy gs) ∧ R a (.ref c) b H ∧ ∀ H', Ext H H' → Q (.bl (!b)) H'
theorem op_neK (G : FnOk X.prog X.w X.K X.mg X.base CX n f fd ps (spEqB R)) (hc : NeK X.K C f) (hb : Binds X.K fd ps []) (hx : Passes CX X E) (hr : Room (n + 1) X.A) : OpR X (compareOp .NotEq) (rNeK C R) := by
  intro pins s σ H x y v u Q I rx ry hq
  obtain ⟨a, c, b, dx, dy, fs, gs, rfl, rfl, ha, hc1, hR, q⟩ := hq
  cases rx
  cases ry
  obtain ⟨mA, J, _⟩ := ins_get I.hok ha
  obtain ⟨mC, J1, _⟩ := ins_get I.hok hc1
  obtain ⟨od, J, _⟩ := J.look
  obtain ⟨od1, J1, _⟩ := J1.look
  have r1 : Room n X.A.in1 := hr.in1
  have go := own_runB (B := X.A.in1) (y := .ref c) (v := .ref c) G hb hx ⟨r1, rfl⟩ I rfl hR
  show wpAny (model X.prog X.w) X.A (richCompare .NotEq (.ref a) (.ref c)) (EP X pins σ Q) X.xe s
  refine rc_neK I.kIn J hc J1.at_ J1.cls (hu_of hr) (wpAny_mono go (fun r s1 z => ?_) fun _ _ e => e)
  cases r with
  | notImplemented => exact False.elim z
  | bool b' =>
    obtain ⟨e, H1, I1, ex⟩ := z
    cases e
    exact ⟨_, rfl, .bl _, H1, I1, rfl, q H1 ex⟩
  | _ => exact (nomatch z.1)
end
end KpR

namespace KpR
open PySem PySem.Spec PyProof.Rows L2
/-- clause by clause: class, the name's slot, the suite's reading; at the end: what is asked where none takes it -/
def wNam (K : PySem.W.Frag) (Wend : WX) (D : Ends) : List (Value × Nat × (Addr → Value → Option Addr → TS)) → WX
  | [] => Wend
  | (c, i, tz) :: r => fun cls d σ H => ∃ b, PySem.W.exmOne K cls c = some b ∧
    (b = true → ∀ a, H a = none → tz a cls d ⟨fun τ G => D.nx (τ.set i none) G, D.rt, fun τ G => D.bk (τ.set i none) G, fun τ G => D.ct (τ.set i none) G⟩ (σ.set i (some (.ref a))) H) ∧ (b = false → wNam K Wend D r cls d σ H)
/-- the clauses that are looked at; more: those behind them, that are never looked at (Wend is then False) -/
inductive NamOk (X : Cx) (more : List ExceptHandler) : List ExceptHandler → List (Value × Nat × (Addr → Value → Option Addr → TS)) → Prop
  | nil : NamOk X more more []
  | cons {x n : Str} {c : Value} {i : Nat} {tz : Addr → Value → Option Addr → TS} {z₀ : Stmt} {rest : List Stmt} {pn pw : Pos} {hs : List ExceptHandler} {l : List (Value × Nat × (Addr → Value → Option Addr → TS))}
      (at_ : X.N[i]? = some n) (lo : X.env.kindOf n = some .local) (nm : Names X x c)
      (su : ∀ (e : Addr) (oe : Obj) (cls : Value) (d : Option Addr) (qn : List (Addr × Obj)), Zc cls d oe → (∃ fs, oe.data = .fields fs) → PSs (X.suite e ((e, oe) :: qn)) (z₀ :: rest) (tz e cls d)) (r : NamOk X more hs l) :
      NamOk X more (.ExceptHandler (some (.Name x pn)) (some n) (z₀ :: rest) pw :: hs) ((c, i, tz) :: l)
section
variable {X : Cx} {body : List Stmt} {more : List ExceptHandler} {h₀ : ExceptHandler} {hds : List ExceptHandler} {l : List (Value × Nat × (Addr → Value → Option Addr → TS))} {pt : Pos} {tb : WX → TS}
theorem ps_try_nam (st : X.stack = X.env :: X.outer) (fr : X.env.frame = some X.env.locals) (nd : X.N.Nodup)
    (bd : ∀ (W : WX) (qn : List (Addr × Obj)) (xe : Value → Shared → Prop), Takes (X.tr qn xe) W → PassesOwn (model X.prog X.w) X.A X.env xe → PSs (X.tr qn xe) body (tb W))
    (hk : NamOk X more (h₀ :: hds) l) : PS X (.Try body (h₀ :: hds) [] [] pt) (fun D σ H => tb (wNam X.K (fun _ _ _ _ => False) D l) D σ H) := by
  refine ⟨fun pins s σ H D I hyp => ?_⟩
  have okX := I.ok
  have afr : X.A.frames = some (X.env :: X.outer) := by rw [okX.frames, st]
  refine wpAny_Try_except ?_
  refine wpAny_mono ((bd (wNam X.K (fun _ _ _ _ => False) D l) (X.pn ++ pins) (fun e t1 => wpAny (model X.prog X.w) X.A (noteFrame e X.env) (fun _ t2 => wpAny (model X.prog X.w) X.A (setFlight e none) (fun _ t3 =>
    wpAny (model X.prog X.w) X.A (handleBy e X.env (h₀ :: hds)) (SP X pins D) X.xe t3) X.xe t2) X.xe t1) (fun u t air => ?_) PassesOwn.looking).run [] s σ H D (I.toTry _) hyp) (fun f t done => ?_) (fun _ _ air => air)
  · obtain ⟨e, G, sI, pq, τ, H1, cls, d, rfl, J0, near, upS, sky0, free, osE, bare, want⟩ := air
    have J : Inv X pins τ H1 sI := J0.ofTry okX
    have sky : Sky G (X.env :: X.outer) e (Zc cls d) X.env.locals t.heap := by rw [← st] <;> exact sky0
    show wpAny (model X.prog X.w) X.A (noteFrame (.ref e) X.env) _ _ _
    refine Sky.land Zc.steady afr fr sky fun hp1 fly1 up1 => ?_
    have J1 : Inv X pins τ H1 { t with heap := hp1 } := J.landed near fly1.1 (upS.trans up1) osE bare
    obtain ⟨o1, fs1, at1, z1, dat1⟩ := fly1.there
    have off : e ∉ frs (X.env :: X.outer) := fun mem => by
      obtain ⟨_, o2, at2, no2⟩ := fly1.2.2.1.mem mem
      have q : o1 = o2 := Option.some.inj (at1.symm.trans at2)
      subst q
      exact no2 _ dat1
    have offL : e ≠ X.env.locals := fun q => off (List.mem_filterMap.mpr ⟨X.env, List.mem_cons_self, by rw [fr, q]⟩)
    have offF : e ∉ X.fs := fun mem => by
      obtain ⟨y, hy, q⟩ := List.mem_filterMap.mp mem
      exact off (List.mem_filterMap.mpr ⟨y, List.mem_cons_of_mem _ hy, q⟩)
    have S1 := J1.suite at1 dat1 free offL offF
    have ty : PySem.W.Looks (model X.prog X.w) hp1 (typeOf (.ref e)) cls := fun A Q E s k q => wpAny_typeOf_ref (k _ _ at1) (by rw [z1.1] <;> exact q)
    have each : ∀ {hs : List ExceptHandler} {l' : List (Value × Nat × (Addr → Value → Option Addr → TS))}, NamOk X more hs l' → wNam X.K (fun _ _ _ _ => False) D l' cls d τ H1 →
        wpAny (model X.prog X.w) X.A (handleBy (.ref e) X.env hs) (SP X pins D) X.xe { t with heap := hp1 } := by
      intro hs l' ok
      induction ok with
      | nil => exact fun w => w.elim
      | @cons x n c i tz z₀ rest pn pw hs2 l2 at_ lo nm su r ih =>
        rintro ⟨b, hit, go, on⟩
        have lcl : Loc X.env.scope n := .inl lo
        refine wpAny_handleBy_cons (codeAny_handlers_test ?_) (fun q => nomatch q)
        have mt := PySem.W.exm_one (M := model X.prog X.w) (J1.kIn) ty hit
        have look : ∀ {Q : Value → Shared → Prop} {E : Value → Shared → Prop}, Q c { t with heap := hp1 } → wpAny (model X.prog X.w) (X.A.mark (some (.ref e))) (eval (.Name x pn) X.env) Q E { t with heap := hp1 } := fun {Q E} q => by
          obtain ⟨gl, nd2, own | ⟨none_, boot, nn⟩⟩ := nm
          · exact ld_glob (X := X.suite e ((e, o1) :: (X.pn ++ pins))) S1 gl own q nd2
          · exact ld_blt (X := X.suite e ((e, o1) :: (X.pn ++ pins))) S1 gl none_ boot q nn nd2
        refine look (mt.here ?_)
        cases b with
        | false =>
          show wpAny _ X.A (handleBy (.ref e) X.env hs2) _ _ _
          exact ih (on rfl)
        | true =>
          refine codeAny_handlers_suite_as ?_
          refine HandSPX.lands_againZ fly1 fun hp2 fly2 up2 => ?_
          have J2 : Inv X pins τ H1 { t with heap := hp2 } := J.landed near fly2.1 ((upS.trans up1).trans up2) osE bare
          obtain ⟨o2, fs2, at2, z2, dat2⟩ := fly2.there
          have S2 := J2.suite at2 dat2 free offL offF
          refine store_ok (X := X.suite e ((e, o2) :: (X.pn ++ pins))) (v := .ref e) S2 nd at_ lcl rfl (fun t2 S3 => ?_) (.inr lo)
          refine wpAny_mono ((su e o2 cls d (X.pn ++ pins) z2 ⟨_, dat2⟩).run [] t2 _ H1 _ S3 (go rfl e free)) (fun f t3 out => ?_) (fun _ _ q => False.elim q)
          have fin : ∀ {τ1 : L2.St} {H2 : Hp} {R : Shared → Prop}, Inv (X.suite e ((e, o2) :: (X.pn ++ pins))) [] τ1 H2 t3 → (∀ t4, Inv X pins (τ1.set i none) H2 t4 → R t4) →
              wpAny (model X.prog X.w) X.A (do bindName X.env n .none; unbindBehindTheSuite X.env n pw) (fun _ t4 => R t4) X.xe t3 := fun {τ1 H2 R} S4 q => gone_ok (S4.unsuite okX) nd at_ lo q
          match f, out with
          | .next, ⟨_, _, S4, q⟩ => exact fin S4 fun _ J4 => ⟨_, _, J4, q⟩
          | .brk, ⟨_, _, S4, q⟩ => exact fin S4 fun _ J4 => ⟨_, _, J4, q⟩
          | .cont, ⟨_, _, S4, q⟩ => exact fin S4 fun _ J4 => ⟨_, _, J4, q⟩
          | .ret u, ⟨_, _, _, S4, ru, q⟩ => exact fin S4 fun _ J4 => ⟨_, _, _, J4, ru, q⟩
    exact each hk want
  · match f, done with
    | .next, ⟨_, _, J4, q⟩ => exact wpAny_execs_nil ⟨_, _, J4.ofTry okX, q⟩
    | .brk, ⟨_, _, J4, q⟩ => exact ⟨_, _, J4.ofTry okX, q⟩
    | .cont, ⟨_, _, J4, q⟩ => exact ⟨_, _, J4.ofTry okX, q⟩
    | .ret u, ⟨_, _, _, J4, ru, q⟩ => exact ⟨_, _, _, J4.ofTry okX, ru, q⟩
end
end KpR

namespace KpR
open PySem PySem.Spec PyProof.Rows L2
open PySem.AutoSeq1 (wpAny_loadPart')
section
variable {prog : Program} {w : World} {A : Around} {R : Result → Shared → Prop}
/-- up to the first pair that is unlike -/
theorem tup_either (l b : Addr) (us vs : Array Value) (n n2 : Nat) (dd dd2 : Option Addr) (sl sl2 : Array (Option Value)) (ans : Nat → Bool) (J : Shared → Prop)
    (turn : ∀ i (h1 : i < us.size) (h2 : i < vs.size) s, J s → wpAny (model prog w) A.in1 (eqBool us[i] vs[i]) (fun r s' => r = ans i ∧ J s') (fun e s' => R (.error e) s') s)
    (no : ∀ i, i < us.size → i < vs.size → ans i = false → ∀ s, J s → R (.ok (.ret (.bool false))) s)
    (fin : (∀ i, i < us.size → i < vs.size → ans i = true) → ∀ s, J s → R (.ok (.ret (.bool (us.size == vs.size)))) s) {s : Shared}
    (hl : s.heap.get? l = some { cls := .type "tuple", dict := dd, data := .seq us n, slots := sl }) (hb : s.heap.get? b = some { cls := .type "tuple", dict := dd2, data := .seq vs n2, slots := sl2 }) (h : J s) :
    wpAny (model prog w) A.in1 (Builtin.«tuple.__eq__» ⟨[.ref l, .ref b], []⟩) (GQ.FinOf prog w A R) (fun e s' => R (.error e) s') s := by
  have f2 := AutoSeq1.sub_tuple_tuple
  have zl : (us.toList.zip vs.toList).length = min us.size vs.size := by simp
  have h0 := h
  obtain ⟨hp, g, d, tk, os⟩ := s
  wp_walk using wpAny_loadPart' hl, wpAny_loadPart' hb, wpAny_forIn_list _ (fun rest q s' => q.1 = none ∧ J s' ∧ ∃ i, rest = (us.toList.zip vs.toList).drop i ∧ i ≤ min us.size vs.size ∧ ∀ j, j < i → ans j = true) _
  case turn =>
    rintro ⟨y, x⟩ rest q s' ⟨hq, hJ, i, hz, hi, before⟩
    have lt : i < (us.toList.zip vs.toList).length := by
      rcases Nat.lt_or_ge i (us.toList.zip vs.toList).length with c | c
      · exact c
      · rw [List.drop_of_length_le c] at hz
        cases hz
    have lm := Nat.lt_min.mp (zl ▸ lt)
    rw [List.drop_eq_getElem_cons lt] at hz
    injection hz with hp1 hrest
    have ey : y = us[i]'lm.1 := by simpa using congrArg Prod.fst hp1
    have ex : x = vs[i]'lm.2 := by simpa using congrArg Prod.snd hp1
    subst ey ex
    refine wpAny_bind (wpAny_mono (turn i lm.1 lm.2 s' hJ) (fun r s2 z => ?_) fun _ _ e => e)
    obtain ⟨rfl, J2⟩ := z
    cases c : ans i with
    | true =>
      wp_walk
      refine ⟨rfl, J2, i + 1, hrest, Nat.lt_min.mpr lm, fun j hj => ?_⟩
      by_cases e : j = i
      · rw [e]
        exact c
      · exact before j (by omega)
    | false =>
      have out := no i lm.1 lm.2 c s2 J2
      wp_walk
      exact out
  case fin =>
    rintro ⟨q1, q2⟩ s' ⟨hq, hJ, i, hz, hi, before⟩
    simp only at hq
    subst hq
    have ge : min us.size vs.size ≤ i := by
      rcases Nat.lt_or_ge i (us.toList.zip vs.toList).length with c | c
      · rw [List.drop_eq_getElem_cons c] at hz
        cases hz
      · exact zl ▸ c
    have out := fin (fun j h1 h2 => before j (Nat.lt_of_lt_of_le (Nat.lt_min.mpr ⟨h1, h2⟩) ge)) s' hJ
    wp_walk
    simpa [Builtin.Tuple.tupleCompareSizes] using out
  case h =>
    exact ⟨rfl, h0, 0, rfl, Nat.zero_le _, fun j hj => absurd hj (Nat.not_lt_zero _)⟩
end
/-- pair by pair; the answer is that of all of them, and of the lengths -/
def DTupB (K : PySem.W.Frag) (D : EqvB) : EqvB := fun x y b H => ∃ a c xs ys, ∃ an : Nat → Bool, x = .ref a ∧ y = .ref c ∧ SqT K H a xs ∧ SqT K H c ys ∧
  (∀ i u v, xs[i]? = some u → ys[i]? = some v → ∀ H', Ext H H' → D u v (an i) H') ∧ (b = true ↔ xs.length = ys.length ∧ ∀ i, i < xs.length → an i = true)
section
variable {X : Cx} {n : Nat} {D : EqvB}
theorem rcB_tup (h : EqB X n D) : RcB X (n + 1) (DTupB X.K D) := by
  intro B pins s σ H x y b u v sb I rx ry hd
  obtain ⟨a, c, xs, ys, an, rfl, rfl, ha, hc, hp, hb⟩ := hd
  cases rx
  cases ry
  obtain ⟨us, r1, ⟨⟨cl, dd, dt, sl⟩, e1, e2, k, e3⟩, _⟩ := I.tuple ha
  obtain ⟨vs, r2, ⟨⟨cl2, dd2, dt2, sl2⟩, g1, g2, k2, g3⟩, _⟩ := I.tuple hc
  simp only at e2 e3 g2 g3
  subst e2 e3 g2 g3
  have l1 : us.toArray.size = xs.length := by rw [List.size_toArray, r1.length]
  have l2 : vs.toArray.size = ys.length := by rw [List.size_toArray, r2.length]
  refine wpAny_richCompare_same_room (op := .Eq) ⟨_, e1, rfl⟩ ⟨_, g1, rfl⟩ F.slot_tuple_eq (GQ.call_here F.slot_tuple_eq ⟨_, e1, rfl⟩ F.entry_tuple_eq (F.args_tuple_eq_2 _ _) ?_) sb.room.units0
  refine tup_either (R := wants (fun r s' => r ≠ .notImplemented ∧ (r = .bool b ∧ LoopI X pins σ H s')) X.xe) a c us.toArray vs.toArray k k2 dd dd2 sl sl2 an (LoopI X pins σ H) (fun i h1 h2 s1 hJ => ?_) (fun i h1 h2 no s1 hJ => ?_) (fun all s1 hJ => ?_) e1 g1 ⟨H, I, Ext.rfl'⟩
  · obtain ⟨H1, I1, x1⟩ := hJ
    have i1 : i < xs.length := by omega
    have i2 : i < ys.length := by omega
    obtain ⟨p, hp1, rp⟩ := r1.get (List.getElem?_eq_getElem i1)
    obtain ⟨q, hq1, rq⟩ := r2.get (List.getElem?_eq_getElem i2)
    have ep : us.toArray[i] = p := by
      obtain ⟨_, z⟩ := List.getElem?_eq_some_iff.mp hp1
      simpa using z
    have eq : vs.toArray[i] = q := by
      obtain ⟨_, z⟩ := List.getElem?_eq_some_iff.mp hq1
      simpa using z
    rw [ep, eq]
    refine wpAny_mono (h B.in1 pins s1 σ H1 _ _ (an i) p q sb.in1 I1 rp rq (hp i _ _ (List.getElem?_eq_getElem i1) (List.getElem?_eq_getElem i2) H1 x1)) (fun r s2 z => ?_) fun _ _ e => e
    obtain ⟨er, H2, I2, x2⟩ := z
    exact ⟨er, H2, I2, x1.trans x2⟩
  · have eb : b = false := by
      cases b with
      | false => rfl
      | true =>
        have z := (hb.mp rfl).2 i (by omega)
        rw [no] at z
        cases z
    subst eb
    exact ⟨(fun z => nomatch z), rfl, hJ⟩
  · have eb : (us.toArray.size == vs.toArray.size) = b := by
      rw [l1, l2]
      cases b with
      | true => exact beq_iff_eq.mpr (hb.mp rfl).1
      | false =>
        refine beq_eq_false_iff_ne.mpr fun e => ?_
        have z := hb.mpr ⟨e, fun i hi => all i (by omega) (by omega)⟩
        cases z
    rw [eb]
    exact ⟨(fun z => nomatch z), rfl, hJ⟩
end
end KpR

namespace KpR
open PySem PySem.Spec PyProof.Rows L2
open PySem.AutoSeq1 (wpAny_loadPart')
section
variable {prog : Program} {w : World} {A : Around} {R : Result → Shared → Prop}
theorem tup_ne_like (l b : Addr) (us vs : Array Value) (n n2 : Nat) (dd dd2 : Option Addr) (sl sl2 : Array (Option Value)) (sz : us.size = vs.size) (J : Shared → Prop)
    (turn : ∀ i (h1 : i < us.size) (h2 : i < vs.size) s, J s → wpAny (model prog w) A.in1 (eqBool us[i] vs[i]) (fun r s' => r = true ∧ J s') (fun e s' => R (.error e) s') s)
    (fin : ∀ s, J s → R (.ok (.ret (.bool false))) s) {s : Shared}
    (hl : s.heap.get? l = some { cls := .type "tuple", dict := dd, data := .seq us n, slots := sl }) (hb : s.heap.get? b = some { cls := .type "tuple", dict := dd2, data := .seq vs n2, slots := sl2 }) (h : J s) :
    wpAny (model prog w) A.in1 (Builtin.«tuple.__ne__» ⟨[.ref l, .ref b], []⟩) (GQ.FinOf prog w A R) (fun e s' => R (.error e) s') s := by
  have f2 := AutoSeq1.sub_tuple_tuple
  have zl : (us.toList.zip vs.toList).length = us.size := by simp [sz]
  have h0 := h
  obtain ⟨hp, g, d, tk, os⟩ := s
  wp_walk using wpAny_loadPart' hl, wpAny_loadPart' hb, wpAny_forIn_list _ (fun rest q s' => q.1 = none ∧ J s' ∧ ∃ i, rest = (us.toList.zip vs.toList).drop i ∧ i ≤ us.size) _
  case turn =>
    rintro ⟨y, x⟩ rest q s' ⟨hq, hJ, i, hz, hi⟩
    have lt : i < (us.toList.zip vs.toList).length := by
      rcases Nat.lt_or_ge i (us.toList.zip vs.toList).length with c | c
      · exact c
      · rw [List.drop_of_length_le c] at hz
        cases hz
    have l1 : i < us.size := zl ▸ lt
    have l2 : i < vs.size := sz ▸ l1
    rw [List.drop_eq_getElem_cons lt] at hz
    injection hz with hp1 hrest
    have ey : y = us[i] := by simpa using congrArg Prod.fst hp1
    have ex : x = vs[i] := by simpa using congrArg Prod.snd hp1
    subst ey ex
    refine wpAny_bind (wpAny_mono (turn i l1 l2 s' hJ) (fun r s2 z => ?_) fun _ _ e => e)
    obtain ⟨rfl, J2⟩ := z
    wp_walk
    exact ⟨rfl, J2, i + 1, hrest, l1⟩
  case fin =>
    rintro ⟨q1, q2⟩ s' ⟨hq, hJ, i, hz, hi⟩
    simp only at hq
    subst hq
    have out := fin s' hJ
    wp_walk
    simpa [Builtin.Tuple.tupleCompareSizes, sz] using out
  case h =>
    exact ⟨rfl, h0, 0, rfl, Nat.zero_le _⟩
end
section
variable {X : Cx} {n : Nat} {D : EqvB}
/-- x != y, two tuples that are equal pair by pair -/
def rNeTup (K : PySem.W.Frag) (D : EqvB) : R2 := fun x y H Q => ∃ (a c : Addr) (xs ys : List V), x = .ref a ∧ y = .ref c ∧ SqT K H a xs ∧ SqT K H c ys ∧ xs.length = ys.length ∧
  (∀ (i : Nat) (u v : V), xs[i]? = some u → ys[i]? = some v → ∀ H' : Hp, Ext H H' → D u v true H') ∧ ∀ H' : Hp, Ext H H' → Q (.bl false) H'
theorem op_neTup (h : EqB X n D) (hr : Room (n + 1) X.A) : OpR X (compareOp .NotEq) (rNeTup X.K D) := by
  intro pins s σ H x y u v Q I rx ry hd
  obtain ⟨a, c, xs, ys, rfl, rfl, ha, hc, hlen, hp, q⟩ := hd
  cases rx
  cases ry
  obtain ⟨us, r1, ⟨⟨cl, dd, dt, sl⟩, e1, e2, k, e3⟩, _⟩ := I.tuple ha
  obtain ⟨vs, r2, ⟨⟨cl2, dd2, dt2, sl2⟩, g1, g2, k2, g3⟩, _⟩ := I.tuple hc
  simp only at e2 e3 g2 g3
  subst e2 e3 g2 g3
  have l1 : us.toArray.size = xs.length := by rw [List.size_toArray, r1.length]
  have l2 : vs.toArray.size = ys.length := by rw [List.size_toArray, r2.length]
  have sb : Sub X (n + 1) X.A := ⟨hr, rfl⟩
  show wpAny (model X.prog X.w) X.A (richCompare .NotEq (.ref a) (.ref c)) (EP X pins σ Q) X.xe s
  refine wpAny_richCompare_same_room (op := .NotEq) ⟨_, e1, rfl⟩ ⟨_, g1, rfl⟩ F.slot_tuple_ne (GQ.call_here F.slot_tuple_ne ⟨_, e1, rfl⟩ F.entry_tuple_ne (F.args_tuple_ne_2 _ _) ?_) hr.units0
  refine tup_ne_like (R := wants (fun r s' => r ≠ .notImplemented ∧ EP X pins σ Q r s') X.xe) a c us.toArray vs.toArray k k2 dd dd2 sl sl2 (by omega) (LoopI X pins σ H) (fun i h1 h2 s1 hJ => ?_) (fun s1 hJ => ?_) e1 g1 ⟨H, I, Ext.rfl'⟩
  · obtain ⟨H1, I1, x1⟩ := hJ
    have i1 : i < xs.length := by omega
    have i2 : i < ys.length := by omega
    obtain ⟨p, hp1, rp⟩ := r1.get (List.getElem?_eq_getElem i1)
    obtain ⟨q1, hq1, rq⟩ := r2.get (List.getElem?_eq_getElem i2)
    have ep : us.toArray[i] = p := by
      obtain ⟨_, z⟩ := List.getElem?_eq_some_iff.mp hp1
      simpa using z
    have eq : vs.toArray[i] = q1 := by
      obtain ⟨_, z⟩ := List.getElem?_eq_some_iff.mp hq1
      simpa using z
    rw [ep, eq]
    refine wpAny_mono (h X.A.in1 pins s1 σ H1 _ _ true p q1 sb.in1 I1 rp rq (hp i _ _ (List.getElem?_eq_getElem i1) (List.getElem?_eq_getElem i2) H1 x1)) (fun r s2 z => ?_) fun _ _ e => e
    obtain ⟨er, H2, I2, x2⟩ := z
    exact ⟨er, H2, I2, x1.trans x2⟩
  · obtain ⟨H1, I1, x1⟩ := hJ
    exact ⟨(fun z => nomatch z), .bl false, H1, I1, rfl, q H1 x1⟩
end
end KpR

namespace KpR
open PySem PySem.Spec PyProof.Rows L2
section
variable {α : Type} {K : PySem.W.Frag} {H : Hp} {f : α → PyData}
theorem dp_map {R : V → α → Prop} (h : ∀ t x, R t x → Dp K H t (f x)) : ∀ {ts : List V} {l : List α}, A2 R ts l → DpAll K H ts (l.map f)
  | [], [], _ => .nil
  | _ :: _, _ :: _, k => .cons (h _ _ k.1) (dp_map h k.2)
  | [], _ :: _, k => k.elim
  | _ :: _, [], k => k.elim
theorem lay_map : ∀ {l : List α}, (∀ x ∈ l, (f x).canLay0 = true) → PyData.canLayAll0 (l.map f) = true
  | [], _ => by simp [PyData.canLayAll0]
  | x :: l, h => by
    simp only [List.map_cons, PyData.canLayAll0, h x (List.mem_cons_self ..), Bool.true_and]
    exact lay_map fun y hy => h y (List.mem_cons_of_mem _ hy)
theorem dep_map {n : Nat} : ∀ {l : List α}, (∀ x ∈ l, (f x).depth ≤ n) → PyData.depthAll (l.map f) ≤ n
  | [], _ => by simp [PyData.depthAll]
  | x :: l, h => by
    simp only [List.map_cons, PyData.depthAll]
    exact Nat.max_le.mpr ⟨h x (List.mem_cons_self ..), dep_map fun y hy => h y (List.mem_cons_of_mem _ hy)⟩
theorem eqv_map [DecidableEq α] (h : ∀ x y, (f x).eqv (f y) = decide (x = y)) : ∀ {l m : List α}, PyData.eqvAll (l.map f) (m.map f) = decide (l = m)
  | [], [] => by simp [PyData.eqvAll]
  | [], _ :: _ => by simp [PyData.eqvAll]
  | _ :: _, [] => by simp [PyData.eqvAll]
  | x :: l, y :: m => by
    simp only [List.map_cons, PyData.eqvAll, h, eqv_map h (l := l) (m := m)]
    by_cases h1 : x = y
    · by_cases h2 : l = m <;> simp [h1, h2]
    · simp [h1]
/-- what can be compared: of no great depth -/
structure Flat (n : Nat) (d : PyData) : Prop where
  lay : d.canLay0 = true
  dep : d.depth ≤ n
theorem Flat.sh {n : Nat} {d : PyData} (h : Flat n d) (hn : n ≤ 64) : SeqAt.shaped d = true := by
  unfold SeqAt.shaped
  rw [h.lay, decide_eq_true (Nat.le_trans h.dep hn)]
  rfl
theorem Flat.list {n : Nat} {l : List α} (h : ∀ x ∈ l, Flat n (f x)) : Flat (n + 1) (.list (l.map f)) :=
  ⟨by simp only [PyData.canLay0]; exact lay_map fun x hx => (h x hx).lay, by simp only [PyData.depth]; exact Nat.succ_le_succ (dep_map fun x hx => (h x hx).dep)⟩
theorem Flat.tup {n : Nat} {l : List α} (h : ∀ x ∈ l, Flat n (f x)) : Flat (n + 1) (.tuple (l.map f)) :=
  ⟨by simp only [PyData.canLay0]; exact lay_map fun x hx => (h x hx).lay, by simp only [PyData.depth]; exact Nat.succ_le_succ (dep_map fun x hx => (h x hx).dep)⟩
theorem Flat.int {n : Nat} {i : Int} : Flat n (.int i) := ⟨rfl, Nat.zero_le _⟩
theorem Flat.bl {n : Nat} {b : Bool} : Flat n (.bool b) := ⟨rfl, Nat.zero_le _⟩
theorem Flat.non {n : Nat} : Flat n .none := ⟨rfl, Nat.zero_le _⟩
theorem Flat.str {n : Nat} {x : Str} (h : (PyData.str x).canLay0 = true) : Flat n (.str x) := ⟨h, Nat.zero_le _⟩
theorem Flat.mono {n m : Nat} {d : PyData} (h : Flat n d) (k : n ≤ m) : Flat m d := ⟨h.lay, Nat.le_trans h.dep k⟩
theorem eqv_int {i j : Int} : PyData.eqv (.int i) (.int j) = decide (i = j) := by
  simp only [PyData.eqv]
  by_cases h : i = j <;> simp [h]
/-- != and == of data -/
theorem neD {x y : V} {d e : PyData} {Q : VK} (h1 : Dp K H x d) (h2 : Dp K H y e) (f1 : Flat 60 d) (f2 : Flat 60 e) (q : Q (.bl (!PyData.eqv d e)) H) : rNeD K x y H Q := ⟨d, e, h1, h2, f1.sh (by decide), f2.sh (by decide), q⟩
theorem eqD {x y : V} {d e : PyData} {Q : VK} (h1 : Dp K H x d) (h2 : Dp K H y e) (f1 : Flat 60 d) (f2 : Flat 60 e) (q : Q (.bl (PyData.eqv d e)) H) : rEqD K x y H Q := ⟨d, e, h1, h2, f1.sh (by decide), f2.sh (by decide), q⟩
end
end KpR

namespace KpR
open PySem PySem.Spec PySem.Calls PyProof.Rows L2
section
variable {prog : Program} {w : World} {K : PySem.W.Frag} {x D : Addr}
/-- what a class says of itself on its instances, whatever fields they have -/
theorem fo_class {od : Option Obj} (hc : (PySem.W.clsIn K D).isSome = true) (ha : PySem.W.findIn K (.ref D) "__class__" = some (some (.builtin "object.__class__"))) (hg : PySem.W.specialIn K (.builtin "object.__class__") "__get__" = some (some (.builtin "getset_descriptor.__get__"))) (ht : PySem.W.takesIn K (.builtin "object.__class__") = some true) :
    PySem.W.findObj K D od "__class__" = some (.bind (.builtin "getset_descriptor.__get__") (.builtin "object.__class__")) := by
  obtain ⟨cd, q⟩ := Option.isSome_iff_exists.mp hc
  unfold PySem.W.findObj
  rw [q, Option.bind_some, ha, Option.bind_some]
  simp [hg, ht]
theorem exc_class (C : ExcC K D) {A : Around} {E : Value → Shared → Prop} {Q : Option Value → Shared → Prop} {s : Shared} {ox : Obj} {od : Option Obj} (X : K.In s.heap) (J : PySem.W.InstAt s.heap x ox D od) (q : Q (some (.ref D)) { s with toks := s.toks + 1 }) :
    wpAny (model prog w) A (getAttr? (.ref x) "__class__") Q E s := by
  have fo : PySem.W.findObj K D od "__class__" = _ := fo_class (by obtain ⟨cd, hc, _⟩ := PySem.W.any_some C.hd; rw [hc]; rfl) C.ha C.hn C.ht
  obtain ⟨hp, sg, sd, st, so⟩ := s
  have ty := J.type (M := model prog w)
  have l1 := PySem.W.looks_findIn (M := model prog w) X C.hg
  have l2 := PySem.W.looks_findIn (M := model prog w) X C.hk
  have l3 := PySem.W.looks_find (M := model prog w) X J fo
  have isx : PySem.W.Looks (model prog w) hp (isInstance (.ref x) (.type "BaseException")) true := ty.andThen (PySem.W.looks_subIn X C.hs)
  have n1 : (Value.builtin "BaseException.__getattribute__" == Value.builtin "object.__getattribute__") = false := by decide +kernel
  have n2 : (onTheHeap (Value.ref D) && Value.builtin "BaseException.__getattribute__" == Value.builtin "object.__getattribute__") = false := by rw [n1]; rfl
  have n3 : (false && onTheHeap (Value.builtin "BaseException.__getattribute__")) = false := rfl
  unfold getAttr? getAttrBy? getAttrBy
  refine wpAny_bind (wpAny_mkText (wpAny_bind (wpAny_attempt (wpAny_holding (wpAny_bind (ty.at (wpAny_bind (l1.at ?_))))))))
  refine (congrArg (fun c : Bool => wpAny (model prog w) A (if c = true then _ else _) _ _ _) n2).mpr ?_
  rw [if_neg Bool.false_ne_true]
  unfold getAttrByItsOwn hookBefore
  refine wpAny_bind ?_
  rw [if_pos (show onTheHeap (Value.ref D) = true from rfl)]
  refine l2.at (wpAny_bind (wpAny_attempt (wpAny_holding ?_)))
  unfold callGetattribute
  rw [n3, if_neg Bool.false_ne_true]
  unfold boundAndCalled
  rw [PySem.F.excAttr_ValueError.ga.bind (.ref x)]
  refine wpAny_bind (wpAny_pure (show wpAny _ _ (call (.builtin "BaseException.__getattribute__") [.ref x, .str "__class__" st]) _ _ _ from ?_))
  refine wpAny_call (codeAny_call_builtin PySem.F.excAttr_ValueError.ga.plain PySem.F.entry_bexc_ga ?_)
  refine @PySem.W.check_slot (model prog w) _ _ ⟨hp, sg, sd, st + 1, so⟩ "BaseException.__getattribute__" "BaseException" "__getattribute__" (.ref x) [.str "__class__" st] [] _ (by decide +kernel) (by decide +kernel) isx (PySem.F.args_bexc_ga (.ref x) (.str "__class__" st)) ?_
  unfold Builtin.«object.__getattribute__»
  refine wpAny_bind (wpAny_of_eq (a := ((Value.ref x : Value), [Value.str "__class__" st])) (by first | rfl | (simp only [slotArgs]; rfl)) (wpAny_bind (wpAny_pure (wpAny_bind (ty.at (wpAny_bind (l3.at ?_)))))))
  show wpAny _ _ (holding [Value.builtin "object.__class__"] (call (.builtin "getset_descriptor.__get__") [.builtin "object.__class__", .ref x, .ref D]) >>= ret) _ _ _
  refine wpAny_bind (wpAny_holding (wpAny_call (PySem.W.class_get (s := ⟨hp, sg, sd, st + 1, so⟩) (ox := ox) (od := od) X J C.hm (wpAny_pure ?_))))
  show wpAny _ _ (handedOut (.ref D)) _ _ _
  rw [PySem.W.handedOut_of (v := .ref D) rfl]
  first
    | exact wpAny_pure (wpAny_pure q)
    | exact wpAny_pure q
    | exact wpAny_pure (wpAny_bind (wpAny_pure (wpAny_pure q)))
theorem kit_exd (C : ExcC K D) : PySem.W.KitX K (.ref x) (.ref D) (fun h => ∃ ox od, PySem.W.InstAt h x ox D od) := by
  obtain ⟨cdD, hcD, _⟩ := PySem.W.any_some C.hd
  have at_ : ∃ (o : Obj) (cd : ClassData), K.lookup D = some o ∧ o.data = .cls cd := by
    unfold PySem.W.clsIn at hcD
    split at hcD
    · rename_i ho
      exact ⟨_, _, ho, rfl⟩
    · cases hcD
  obtain ⟨o, cd, ho, hd⟩ := at_
  refine ⟨fun _ _ _ ⟨_, _, J⟩ => J.type, fun _ _ X _ => ?_, fun h tp dd its n sl X e => ?_, fun X ⟨_, _, J⟩ q => exc_class C X J q⟩
  · intro A' Q' E' s' k q
    unfold isType loadHead
    obtain ⟨oc, od, oda, osl⟩ := o
    cases hd
    exact wpAny_bind (wpAny_loadPart (k _ _ (X _ _ ho)) (wpAny_pure q))
  · refine Bool.eq_false_iff.mpr fun z => ?_
    obtain rfl := Value.ref.inj (beq_iff_eq.mp z)
    have z := (X _ _ ho).symm.trans e
    cases z
    cases hd
end
/-- isinstance(e, c), e the exception that the suite holds, of whatever fields -/
def rIsX (K : PySem.W.Frag) (a D : Addr) (cls : Value) (d : Option Addr) : List V → Hp → VK → Prop := fun xs H Q => ∃ (c : V) (cv : Value) (b : Bool) (dd : Addr) (fs : List (Str × V)), xs = [.ref a, c] ∧ (∀ u, RelV c u → u = cv) ∧ PySem.W.kitOne K (.ref D) cv = some b ∧ cls = .ref D ∧ d = some dd ∧ H dd = some (.xd fs) ∧ Q (.bl b) H
theorem call_isX {X : Cx} {a D : Addr} {oe : Obj} {d : Option Addr} {pn : List (Addr × Obj)} {cls : Value} (C : ExcC X.K D) (hz : Zc cls d oe) (hf : ∃ vs, oe.data = .fields vs) :
    CallR (X.suite a ((a, oe) :: pn)) (.builtin "isinstance") (rIsX X.K a D cls d) := by
  intro pins s σ H xs us Q I r h
  obtain ⟨c, cv, b, dd, fs, rfl, hcv, e, rfl, rfl, hdd, q⟩ := h
  cases r with
  | cons rx rr =>
    cases rr with
    | cons rt rr =>
      cases rr
      cases rx
      obtain rfl := hcv _ rt
      obtain ⟨hget, _⟩ := I.pin (a, oe) (List.mem_append_left _ List.mem_cons_self)
      obtain ⟨vs, hv⟩ := hf
      obtain ⟨mA, hns, _⟩ : ObjOk X.prog X.w H s.heap dd (.xd fs) := I.hok dd _ hdd
      obtain ⟨od, ho, _⟩ := lookIn_ns hns
      have J : PySem.W.InstAt s.heap a oe D (some od) := ⟨hget, hz.1, by unfold PySem.W.notCls; rw [hv] <;> rfl, by rw [hz.2]; exact ho⟩
      exact PySem.W.kia_one (kit_exd C) I.kIn ⟨_, _, J⟩ e (fun z => nomatch z) fun tk => ⟨.bl b, H, I.kept (t' := tk) fun _ _ z => z, rfl, q⟩
end KpR










namespace Kp
/-! a deed of any numbers -/
inductive E1 where
  | pour (a b : Int) | put (a k : Int) | draw (a k : Int) | change (a b : Int)
  deriving DecidableEq
open PySem PySem.Spec PyProof.Rows L2 KpR
def topS (i : Nat) : Stmt := PySem.Challenge.pw_wholedrops_k02_rows_and_the_first_deed_a.main.body.getD i (.Pass ⟨0, 0, 0, 0⟩)
abbrev scheckmuch : Stmt := topS 18
abbrev scheckjar : Stmt := topS 19
abbrev scheckdeed : Stmt := topS 20
abbrev sBadCountInit : Stmt := inClass (topS 2) 0
abbrev sNoJarInit : Stmt := inClass (topS 3) 0
abbrev sSameJarInit : Stmt := inClass (topS 4) 0
abbrev sSizesInit : Stmt := inClass (topS 5) 0
abbrev sJarsInit : Stmt := inClass (topS 11) 0
abbrev sPourInit : Stmt := inClass (topS 13) 0
abbrev sPutInit : Stmt := inClass (topS 14) 0
abbrev sDrawInit : Stmt := inClass (topS 15) 0
abbrev sChangeInit : Stmt := inClass (topS 16) 0
abbrev sRowInit : Stmt := inClass (topS 17) 0
abbrev sJarsEq : Stmt := inClass (topS 11) 1
abbrev sPourEq : Stmt := inClass (topS 13) 1
abbrev sPutEq : Stmt := inClass (topS 14) 1
abbrev sDrawEq : Stmt := inClass (topS 15) 1
abbrev sChangeEq : Stmt := inClass (topS 16) 1
abbrev sRowEq : Stmt := inClass (topS 17) 1
abbrev sLwell : Stmt := topS 22
abbrev sLdraw : Stmt := topS 23
abbrev sLcaps : Stmt := topS 24
abbrev sLfacts : Stmt := topS 25
abbrev sLdeed : Stmt := topS 26
abbrev sLodd : Stmt := topS 27
abbrev sLamiss : Stmt := topS 28
abbrev sLdue : Stmt := topS 29
abbrev sLsaid : Stmt := topS 30
abbrev sLtoldright : Stmt := topS 31
abbrev slaw : Stmt := topS 32
theorem sccheckmuch : FnScope ["what", "much"] ["what", "much"] (defScope scheckmuch) := ⟨rfl, rfl, rfl, by decide +kernel, rfl, by decide +kernel, by decide +kernel⟩
theorem sccheckjar : FnScope ["jars", "jar"] ["jars", "jar"] (defScope scheckjar) := ⟨rfl, rfl, rfl, by decide +kernel, rfl, by decide +kernel, by decide +kernel⟩
theorem sccheckdeed : FnScope ["jars", "deed"] ["jars", "deed"] (defScope scheckdeed) := ⟨rfl, rfl, rfl, by decide +kernel, rfl, by decide +kernel, by decide +kernel⟩
theorem scBadCountInit : FnScope ["self", "what", "count"] ["self", "what", "count"] (defScope sBadCountInit) := ⟨rfl, rfl, rfl, by decide +kernel, rfl, by decide +kernel, by decide +kernel⟩
theorem scNoJarInit : FnScope ["self", "jar"] ["self", "jar"] (defScope sNoJarInit) := ⟨rfl, rfl, rfl, by decide +kernel, rfl, by decide +kernel, by decide +kernel⟩
theorem scSameJarInit : FnScope ["self", "jar"] ["self", "jar"] (defScope sSameJarInit) := ⟨rfl, rfl, rfl, by decide +kernel, rfl, by decide +kernel, by decide +kernel⟩
theorem scSizesInit : FnScope ["self", "a", "b"] ["self", "a", "b"] (defScope sSizesInit) := ⟨rfl, rfl, rfl, by decide +kernel, rfl, by decide +kernel, by decide +kernel⟩
theorem scJarsInit : FnScope ["self", "sizes", "size"] ["self", "sizes"] (defScope sJarsInit) := ⟨rfl, rfl, rfl, by decide +kernel, rfl, by decide +kernel, by decide +kernel⟩
theorem scPourInit : FnScope ["self", "a", "b"] ["self", "a", "b"] (defScope sPourInit) := ⟨rfl, rfl, rfl, by decide +kernel, rfl, by decide +kernel, by decide +kernel⟩
theorem scPutInit : FnScope ["self", "a", "k"] ["self", "a", "k"] (defScope sPutInit) := ⟨rfl, rfl, rfl, by decide +kernel, rfl, by decide +kernel, by decide +kernel⟩
theorem scDrawInit : FnScope ["self", "a", "k"] ["self", "a", "k"] (defScope sDrawInit) := ⟨rfl, rfl, rfl, by decide +kernel, rfl, by decide +kernel, by decide +kernel⟩
theorem scChangeInit : FnScope ["self", "a", "b"] ["self", "a", "b"] (defScope sChangeInit) := ⟨rfl, rfl, rfl, by decide +kernel, rfl, by decide +kernel, by decide +kernel⟩
theorem scRowInit : FnScope ["self", "jars", "deeds", "deed"] ["self", "jars", "deeds"] (defScope sRowInit) := ⟨rfl, rfl, rfl, by decide +kernel, rfl, by decide +kernel, by decide +kernel⟩
theorem scJarsEq : FnScope ["self", "other"] ["self", "other"] (defScope sJarsEq) := ⟨rfl, rfl, rfl, by decide +kernel, rfl, by decide +kernel, by decide +kernel⟩
theorem scPourEq : FnScope ["self", "other"] ["self", "other"] (defScope sPourEq) := ⟨rfl, rfl, rfl, by decide +kernel, rfl, by decide +kernel, by decide +kernel⟩
theorem scPutEq : FnScope ["self", "other"] ["self", "other"] (defScope sPutEq) := ⟨rfl, rfl, rfl, by decide +kernel, rfl, by decide +kernel, by decide +kernel⟩
theorem scDrawEq : FnScope ["self", "other"] ["self", "other"] (defScope sDrawEq) := ⟨rfl, rfl, rfl, by decide +kernel, rfl, by decide +kernel, by decide +kernel⟩
theorem scChangeEq : FnScope ["self", "other"] ["self", "other"] (defScope sChangeEq) := ⟨rfl, rfl, rfl, by decide +kernel, rfl, by decide +kernel, by decide +kernel⟩
theorem scRowEq : FnScope ["self", "other"] ["self", "other"] (defScope sRowEq) := ⟨rfl, rfl, rfl, by decide +kernel, rfl, by decide +kernel, by decide +kernel⟩
theorem scLwell : FnScope ["_law_cell"] ["_law_cell"] (defScope sLwell) := ⟨rfl, rfl, rfl, by decide +kernel, rfl, by decide +kernel, by decide +kernel⟩
theorem scLdraw : FnScope ["_law_well_here", "_law_many", "_law_found", "_law_number"] ["_law_well_here", "_law_many"] (defScope sLdraw) := ⟨rfl, rfl, rfl, by decide +kernel, rfl, by decide +kernel, by decide +kernel⟩
theorem scLcaps : FnScope ["_law_well_here", "_law_most", "_law_unit", "_law_found", "_law_turn"] ["_law_well_here", "_law_most"] (defScope sLcaps) := ⟨rfl, rfl, rfl, by decide +kernel, rfl, by decide +kernel, by decide +kernel⟩
theorem scLfacts : FnScope ["_law_well_here", "_law_caps_here", "_law_many", "_law_found", "_law_turn", "_law_here", "_law_there", "_law_much", "_law_word"] ["_law_well_here", "_law_caps_here", "_law_many"] (defScope sLfacts) := ⟨rfl, rfl, rfl, by decide +kernel, rfl, by decide +kernel, by decide +kernel⟩
theorem scLdeed : FnScope ["_law_fact", "_law_word", "_law_here", "_law_last"] ["_law_fact"] (defScope sLdeed) := ⟨rfl, rfl, rfl, by decide +kernel, rfl, by decide +kernel, by decide +kernel⟩
theorem scLodd : FnScope ["_law_well_here", "_law_caps_here", "_law_many", "_law_good", "_law_far", "_law_other", "_law_some"] ["_law_well_here", "_law_caps_here"] (defScope sLodd) := ⟨rfl, rfl, rfl, by decide +kernel, rfl, by decide +kernel, by decide +kernel⟩
theorem scLamiss : FnScope ["_law_caps_here", "_law_fact", "_law_word", "_law_here", "_law_last", "_law_numbers", "_law_bad", "_law_number"] ["_law_caps_here", "_law_fact"] (defScope sLamiss) := ⟨rfl, rfl, rfl, by decide +kernel, rfl, by decide +kernel, by decide +kernel⟩
theorem scLdue : FnScope ["_law_caps_here", "_law_facts_here", "_law_bad", "_law_fact"] ["_law_caps_here", "_law_facts_here"] (defScope sLdue) := ⟨rfl, rfl, rfl, by decide +kernel, rfl, by decide +kernel, by decide +kernel⟩
theorem scLsaid : FnScope ["_law_caps_here", "_law_facts_here", "_law_fact", "e"] ["_law_caps_here", "_law_facts_here"] (defScope sLsaid) := ⟨rfl, rfl, rfl, by decide +kernel, rfl, by decide +kernel, by decide +kernel⟩
theorem scLtoldright : FnScope ["_law_well_here", "_law_caps_here", "_law_facts_here", "_law_handed", "_law_fact", "_law_first", "_law_due_here", "_law_wider", "_law_at", "_law_other"] ["_law_well_here", "_law_caps_here", "_law_facts_here"] (defScope sLtoldright) := ⟨rfl, rfl, rfl, by decide +kernel, rfl, by decide +kernel, by decide +kernel⟩
theorem sclaw : FnScope ["_law_script", "_law_cell", "_law_well_here", "_law_caps_here", "_law_many", "_law_facts_here", "_law_turn", "_law_bad", "_law_k"] ["_law_script"] (defScope slaw) := ⟨rfl, rfl, rfl, by decide +kernel, rfl, by decide +kernel, by decide +kernel⟩
structure TyIns (K : PySem.W.Frag) (C : Addr) : Prop where
  ha : PySem.W.findIn K (.ref C) "__class__" = some (some (.builtin "object.__class__"))
  hn : PySem.W.specialIn K (.builtin "object.__class__") "__get__" = some (some (.builtin "getset_descriptor.__get__"))
  ht : PySem.W.takesIn K (.builtin "object.__class__") = some true
  hm : PySem.W.mroIn K C (.type "object") = some true
structure Tx (K : PySem.W.Frag) (mg : Str → Option Value) : Type where
  cBadStart : Addr
  cJars : Addr
  cPour : Addr
  cPut : Addr
  cDraw : Addr
  cChange : Addr
  cRow : Addr
  cDeed : Addr
  acheckmuch : Addr
  dcheckmuch : FuncData
  acheckjar : Addr
  dcheckjar : FuncData
  acheckdeed : Addr
  dcheckdeed : FuncData
  aBadCountInit : Addr
  dBadCountInit : FuncData
  aNoJarInit : Addr
  dNoJarInit : FuncData
  aSameJarInit : Addr
  dSameJarInit : FuncData
  aSizesInit : Addr
  dSizesInit : FuncData
  aJarsInit : Addr
  dJarsInit : FuncData
  aPourInit : Addr
  dPourInit : FuncData
  aPutInit : Addr
  dPutInit : FuncData
  aDrawInit : Addr
  dDrawInit : FuncData
  aChangeInit : Addr
  dChangeInit : FuncData
  aRowInit : Addr
  dRowInit : FuncData
  aJarsEq : Addr
  dJarsEq : FuncData
  aPourEq : Addr
  dPourEq : FuncData
  aPutEq : Addr
  dPutEq : FuncData
  aDrawEq : Addr
  dDrawEq : FuncData
  aChangeEq : Addr
  dChangeEq : FuncData
  aRowEq : Addr
  dRowEq : FuncData
  aLwell : Addr
  dLwell : FuncData
  aLdraw : Addr
  dLdraw : FuncData
  aLcaps : Addr
  dLcaps : FuncData
  aLfacts : Addr
  dLfacts : FuncData
  aLdeed : Addr
  dLdeed : FuncData
  aLodd : Addr
  dLodd : FuncData
  aLamiss : Addr
  dLamiss : FuncData
  aLdue : Addr
  dLdue : FuncData
  aLsaid : Addr
  dLsaid : FuncData
  aLtoldright : Addr
  dLtoldright : FuncData
  alaw : Addr
  dlaw : FuncData
  tMOSTJARS : Tok
  tMOSTDEEDS : Tok
  tMOSTMUCH : Tok
  cBadCount : Addr
  cNoJar : Addr
  cSameJar : Addr
  cSizes : Addr
  fcheckmuch : Fun K "check_much" "check_much" scheckmuch acheckmuch dcheckmuch
  bcheckmuch : Binds K dcheckmuch ["what", "much"] []
  gcheckmuch : mg "check_much" = some (.ref acheckmuch)
  fcheckjar : Fun K "check_jar" "check_jar" scheckjar acheckjar dcheckjar
  bcheckjar : Binds K dcheckjar ["jars", "jar"] []
  gcheckjar : mg "check_jar" = some (.ref acheckjar)
  fcheckdeed : Fun K "check_deed" "check_deed" scheckdeed acheckdeed dcheckdeed
  bcheckdeed : Binds K dcheckdeed ["jars", "deed"] []
  gcheckdeed : mg "check_deed" = some (.ref acheckdeed)
  fBadCountInit : Fun K "__init__" "BadCount.__init__" sBadCountInit aBadCountInit dBadCountInit
  bBadCountInit : Binds K dBadCountInit ["self", "what", "count"] []
  iBadCount : PySem.W.findIn K (.ref cBadCount) "__init__" = some (some (.ref aBadCountInit))
  tBadCount : PySem.W.typeIn K (.ref aBadCountInit) = some (.type "function")
  fNoJarInit : Fun K "__init__" "NoJar.__init__" sNoJarInit aNoJarInit dNoJarInit
  bNoJarInit : Binds K dNoJarInit ["self", "jar"] []
  iNoJar : PySem.W.findIn K (.ref cNoJar) "__init__" = some (some (.ref aNoJarInit))
  tNoJar : PySem.W.typeIn K (.ref aNoJarInit) = some (.type "function")
  fSameJarInit : Fun K "__init__" "SameJar.__init__" sSameJarInit aSameJarInit dSameJarInit
  bSameJarInit : Binds K dSameJarInit ["self", "jar"] []
  iSameJar : PySem.W.findIn K (.ref cSameJar) "__init__" = some (some (.ref aSameJarInit))
  tSameJar : PySem.W.typeIn K (.ref aSameJarInit) = some (.type "function")
  fSizesInit : Fun K "__init__" "Sizes.__init__" sSizesInit aSizesInit dSizesInit
  bSizesInit : Binds K dSizesInit ["self", "a", "b"] []
  iSizes : PySem.W.findIn K (.ref cSizes) "__init__" = some (some (.ref aSizesInit))
  tSizes : PySem.W.typeIn K (.ref aSizesInit) = some (.type "function")
  fJarsInit : Fun K "__init__" "Jars.__init__" sJarsInit aJarsInit dJarsInit
  bJarsInit : Binds K dJarsInit ["self", "sizes"] []
  fPourInit : Fun K "__init__" "Pour.__init__" sPourInit aPourInit dPourInit
  bPourInit : Binds K dPourInit ["self", "a", "b"] []
  fPutInit : Fun K "__init__" "Put.__init__" sPutInit aPutInit dPutInit
  bPutInit : Binds K dPutInit ["self", "a", "k"] []
  fDrawInit : Fun K "__init__" "Draw.__init__" sDrawInit aDrawInit dDrawInit
  bDrawInit : Binds K dDrawInit ["self", "a", "k"] []
  fChangeInit : Fun K "__init__" "Change.__init__" sChangeInit aChangeInit dChangeInit
  bChangeInit : Binds K dChangeInit ["self", "a", "b"] []
  fRowInit : Fun K "__init__" "Row.__init__" sRowInit aRowInit dRowInit
  bRowInit : Binds K dRowInit ["self", "jars", "deeds"] []
  fJarsEq : Fun K "__eq__" "Jars.__eq__" sJarsEq aJarsEq dJarsEq
  bJarsEq : Binds K dJarsEq ["self", "other"] []
  eJarsEq : PySem.W.findIn K (.ref cJars) "__eq__" = some (some (.ref aJarsEq))
  eiJarsEq : PySem.W.isFn K (.ref aJarsEq) = true
  fPourEq : Fun K "__eq__" "Pour.__eq__" sPourEq aPourEq dPourEq
  bPourEq : Binds K dPourEq ["self", "other"] []
  ePourEq : PySem.W.findIn K (.ref cPour) "__eq__" = some (some (.ref aPourEq))
  eiPourEq : PySem.W.isFn K (.ref aPourEq) = true
  fPutEq : Fun K "__eq__" "Put.__eq__" sPutEq aPutEq dPutEq
  bPutEq : Binds K dPutEq ["self", "other"] []
  ePutEq : PySem.W.findIn K (.ref cPut) "__eq__" = some (some (.ref aPutEq))
  eiPutEq : PySem.W.isFn K (.ref aPutEq) = true
  fDrawEq : Fun K "__eq__" "Draw.__eq__" sDrawEq aDrawEq dDrawEq
  bDrawEq : Binds K dDrawEq ["self", "other"] []
  eDrawEq : PySem.W.findIn K (.ref cDraw) "__eq__" = some (some (.ref aDrawEq))
  eiDrawEq : PySem.W.isFn K (.ref aDrawEq) = true
  fChangeEq : Fun K "__eq__" "Change.__eq__" sChangeEq aChangeEq dChangeEq
  bChangeEq : Binds K dChangeEq ["self", "other"] []
  eChangeEq : PySem.W.findIn K (.ref cChange) "__eq__" = some (some (.ref aChangeEq))
  eiChangeEq : PySem.W.isFn K (.ref aChangeEq) = true
  fRowEq : Fun K "__eq__" "Row.__eq__" sRowEq aRowEq dRowEq
  bRowEq : Binds K dRowEq ["self", "other"] []
  eRowEq : PySem.W.findIn K (.ref cRow) "__eq__" = some (some (.ref aRowEq))
  eiRowEq : PySem.W.isFn K (.ref aRowEq) = true
  fLwell : Fun K "_law_well" "_law_well" sLwell aLwell dLwell
  bLwell : Binds K dLwell ["_law_cell"] []
  gLwell : mg "_law_well" = some (.ref aLwell)
  fLdraw : Fun K "_law_draw" "_law_draw" sLdraw aLdraw dLdraw
  bLdraw : Binds K dLdraw ["_law_well_here", "_law_many"] []
  gLdraw : mg "_law_draw" = some (.ref aLdraw)
  fLcaps : Fun K "_law_caps" "_law_caps" sLcaps aLcaps dLcaps
  bLcaps : Binds K dLcaps ["_law_well_here", "_law_most"] []
  gLcaps : mg "_law_caps" = some (.ref aLcaps)
  fLfacts : Fun K "_law_facts" "_law_facts" sLfacts aLfacts dLfacts
  bLfacts : Binds K dLfacts ["_law_well_here", "_law_caps_here", "_law_many"] []
  gLfacts : mg "_law_facts" = some (.ref aLfacts)
  fLdeed : Fun K "_law_deed" "_law_deed" sLdeed aLdeed dLdeed
  bLdeed : Binds K dLdeed ["_law_fact"] []
  gLdeed : mg "_law_deed" = some (.ref aLdeed)
  fLodd : Fun K "_law_odd" "_law_odd" sLodd aLodd dLodd
  bLodd : Binds K dLodd ["_law_well_here", "_law_caps_here"] []
  gLodd : mg "_law_odd" = some (.ref aLodd)
  fLamiss : Fun K "_law_amiss" "_law_amiss" sLamiss aLamiss dLamiss
  bLamiss : Binds K dLamiss ["_law_caps_here", "_law_fact"] []
  gLamiss : mg "_law_amiss" = some (.ref aLamiss)
  fLdue : Fun K "_law_due" "_law_due" sLdue aLdue dLdue
  bLdue : Binds K dLdue ["_law_caps_here", "_law_facts_here"] []
  gLdue : mg "_law_due" = some (.ref aLdue)
  fLsaid : Fun K "_law_said" "_law_said" sLsaid aLsaid dLsaid
  bLsaid : Binds K dLsaid ["_law_caps_here", "_law_facts_here"] []
  gLsaid : mg "_law_said" = some (.ref aLsaid)
  fLtoldright : Fun K "_law_told_right" "_law_told_right" sLtoldright aLtoldright dLtoldright
  bLtoldright : Binds K dLtoldright ["_law_well_here", "_law_caps_here", "_law_facts_here"] []
  gLtoldright : mg "_law_told_right" = some (.ref aLtoldright)
  flaw : Fun K "law" "law" slaw alaw dlaw
  blaw : Binds K dlaw ["_law_script"] []
  glaw : mg "law" = some (.ref alaw)
  mJars : mg "Jars" = some (.ref cJars)
  lJars : Cls K cJars
  kJars : Mk K cJars aJarsInit
  nJars_sizes : NoAttr K cJars "sizes"
  mPour : mg "Pour" = some (.ref cPour)
  lPour : Cls K cPour
  kPour : Mk K cPour aPourInit
  nPour_a : NoAttr K cPour "a"
  nPour_b : NoAttr K cPour "b"
  mPut : mg "Put" = some (.ref cPut)
  lPut : Cls K cPut
  kPut : Mk K cPut aPutInit
  nPut_a : NoAttr K cPut "a"
  nPut_k : NoAttr K cPut "k"
  mDraw : mg "Draw" = some (.ref cDraw)
  lDraw : Cls K cDraw
  kDraw : Mk K cDraw aDrawInit
  nDraw_a : NoAttr K cDraw "a"
  nDraw_k : NoAttr K cDraw "k"
  mChange : mg "Change" = some (.ref cChange)
  lChange : Cls K cChange
  kChange : Mk K cChange aChangeInit
  nChange_a : NoAttr K cChange "a"
  nChange_b : NoAttr K cChange "b"
  mRow : mg "Row" = some (.ref cRow)
  lRow : Cls K cRow
  kRow : Mk K cRow aRowInit
  nRow_jars : NoAttr K cRow "jars"
  nRow_deeds : NoAttr K cRow "deeds"
  mDeed : mg "Deed" = some (.ref cDeed)
  lDeed : Cls K cDeed
  mBadCount : mg "BadCount" = some (.ref cBadCount)
  oBadCount : OexC K cBadCount
  xfBadCount : XfC K cBadCount
  nBadCount_what : PySem.W.findIn K (.ref cBadCount) "what" = some none
  nBadCount_count : PySem.W.findIn K (.ref cBadCount) "count" = some none
  emBadCount_BadCount : PySem.W.exmOne K (.ref cBadCount) (.ref cBadCount) = some true
  emBadCount_NoJar : PySem.W.exmOne K (.ref cBadCount) (.ref cNoJar) = some false
  emBadCount_SameJar : PySem.W.exmOne K (.ref cBadCount) (.ref cSameJar) = some false
  emBadCount_Sizes : PySem.W.exmOne K (.ref cBadCount) (.ref cSizes) = some false
  mNoJar : mg "NoJar" = some (.ref cNoJar)
  oNoJar : OexC K cNoJar
  xfNoJar : XfC K cNoJar
  nNoJar_jar : PySem.W.findIn K (.ref cNoJar) "jar" = some none
  emNoJar_BadCount : PySem.W.exmOne K (.ref cNoJar) (.ref cBadCount) = some false
  emNoJar_NoJar : PySem.W.exmOne K (.ref cNoJar) (.ref cNoJar) = some true
  emNoJar_SameJar : PySem.W.exmOne K (.ref cNoJar) (.ref cSameJar) = some false
  emNoJar_Sizes : PySem.W.exmOne K (.ref cNoJar) (.ref cSizes) = some false
  mSameJar : mg "SameJar" = some (.ref cSameJar)
  oSameJar : OexC K cSameJar
  xfSameJar : XfC K cSameJar
  nSameJar_jar : PySem.W.findIn K (.ref cSameJar) "jar" = some none
  emSameJar_BadCount : PySem.W.exmOne K (.ref cSameJar) (.ref cBadCount) = some false
  emSameJar_NoJar : PySem.W.exmOne K (.ref cSameJar) (.ref cNoJar) = some false
  emSameJar_SameJar : PySem.W.exmOne K (.ref cSameJar) (.ref cSameJar) = some true
  emSameJar_Sizes : PySem.W.exmOne K (.ref cSameJar) (.ref cSizes) = some false
  mSizes : mg "Sizes" = some (.ref cSizes)
  oSizes : OexC K cSizes
  xfSizes : XfC K cSizes
  nSizes_a : PySem.W.findIn K (.ref cSizes) "a" = some none
  nSizes_b : PySem.W.findIn K (.ref cSizes) "b" = some none
  emSizes_BadCount : PySem.W.exmOne K (.ref cSizes) (.ref cBadCount) = some false
  emSizes_NoJar : PySem.W.exmOne K (.ref cSizes) (.ref cNoJar) = some false
  emSizes_SameJar : PySem.W.exmOne K (.ref cSizes) (.ref cSameJar) = some false
  emSizes_Sizes : PySem.W.exmOne K (.ref cSizes) (.ref cSizes) = some true
  xcNoJar : ExcC K cNoJar
  mBadStart : mg "BadStart" = some (.ref cBadStart)
  ixNoJar_BadStart : PySem.W.kitOne K (.ref cNoJar) (.ref cBadStart) = some false
  yChange : TyIns K cChange
  yDraw : TyIns K cDraw
  yJars : TyIns K cJars
  yPour : TyIns K cPour
  yPut : TyIns K cPut
  yRow : TyIns K cRow
  iPour_Put : PySem.W.kitOne K (.ref cPour) (.ref cPut) = some false
  iPour_Draw : PySem.W.kitOne K (.ref cPour) (.ref cDraw) = some false
  iPour_Pour : PySem.W.kitOne K (.ref cPour) (.ref cPour) = some true
  iPour_Change : PySem.W.kitOne K (.ref cPour) (.ref cChange) = some false
  iPut_Put : PySem.W.kitOne K (.ref cPut) (.ref cPut) = some true
  iPut_Draw : PySem.W.kitOne K (.ref cPut) (.ref cDraw) = some false
  iPut_Pour : PySem.W.kitOne K (.ref cPut) (.ref cPour) = some false
  iPut_Change : PySem.W.kitOne K (.ref cPut) (.ref cChange) = some false
  iDraw_Put : PySem.W.kitOne K (.ref cDraw) (.ref cPut) = some false
  iDraw_Draw : PySem.W.kitOne K (.ref cDraw) (.ref cDraw) = some true
  iDraw_Pour : PySem.W.kitOne K (.ref cDraw) (.ref cPour) = some false
  iDraw_Change : PySem.W.kitOne K (.ref cDraw) (.ref cChange) = some false
  iChange_Put : PySem.W.kitOne K (.ref cChange) (.ref cPut) = some false
  iChange_Draw : PySem.W.kitOne K (.ref cChange) (.ref cDraw) = some false
  iChange_Pour : PySem.W.kitOne K (.ref cChange) (.ref cPour) = some false
  iChange_Change : PySem.W.kitOne K (.ref cChange) (.ref cChange) = some true
  iJars_Jars : PySem.W.kitOne K (.ref cJars) (.ref cJars) = some true
  iRow_Row : PySem.W.kitOne K (.ref cRow) (.ref cRow) = some true
  iPour_Deed : PySem.W.kitOne K (.ref cPour) (.ref cDeed) = some true
  iPut_Deed : PySem.W.kitOne K (.ref cPut) (.ref cDeed) = some true
  iDraw_Deed : PySem.W.kitOne K (.ref cDraw) (.ref cDeed) = some true
  iChange_Deed : PySem.W.kitOne K (.ref cChange) (.ref cDeed) = some true
  nfPour_Put : PySem.W.notFirst K cPour (.ref cPut) = true
  nfPour_Draw : PySem.W.notFirst K cPour (.ref cDraw) = true
  nfPour_Change : PySem.W.notFirst K cPour (.ref cChange) = true
  nfPut_Pour : PySem.W.notFirst K cPut (.ref cPour) = true
  nfPut_Draw : PySem.W.notFirst K cPut (.ref cDraw) = true
  nfPut_Change : PySem.W.notFirst K cPut (.ref cChange) = true
  nfDraw_Pour : PySem.W.notFirst K cDraw (.ref cPour) = true
  nfDraw_Put : PySem.W.notFirst K cDraw (.ref cPut) = true
  nfDraw_Change : PySem.W.notFirst K cDraw (.ref cChange) = true
  nfChange_Pour : PySem.W.notFirst K cChange (.ref cPour) = true
  nfChange_Put : PySem.W.notFirst K cChange (.ref cPut) = true
  nfChange_Draw : PySem.W.notFirst K cChange (.ref cDraw) = true
  nePour : NeK K cPour aPourEq
  alPour_NoneType : PySem.W.subIn K (.ref cPour) (.type "NoneType") = some false
  ikPour_NoneType : PySem.W.kitOne K (.type "NoneType") (.ref cPour) = some false
  alPour_int : PySem.W.subIn K (.ref cPour) (.type "int") = some false
  ikPour_int : PySem.W.kitOne K (.type "int") (.ref cPour) = some false
  alPour_tuple : PySem.W.subIn K (.ref cPour) (.type "tuple") = some false
  ikPour_tuple : PySem.W.kitOne K (.type "tuple") (.ref cPour) = some false
  alPour_list : PySem.W.subIn K (.ref cPour) (.type "list") = some false
  ikPour_list : PySem.W.kitOne K (.type "list") (.ref cPour) = some false
  nePut : NeK K cPut aPutEq
  alPut_NoneType : PySem.W.subIn K (.ref cPut) (.type "NoneType") = some false
  ikPut_NoneType : PySem.W.kitOne K (.type "NoneType") (.ref cPut) = some false
  alPut_int : PySem.W.subIn K (.ref cPut) (.type "int") = some false
  ikPut_int : PySem.W.kitOne K (.type "int") (.ref cPut) = some false
  alPut_tuple : PySem.W.subIn K (.ref cPut) (.type "tuple") = some false
  ikPut_tuple : PySem.W.kitOne K (.type "tuple") (.ref cPut) = some false
  alPut_list : PySem.W.subIn K (.ref cPut) (.type "list") = some false
  ikPut_list : PySem.W.kitOne K (.type "list") (.ref cPut) = some false
  neDraw : NeK K cDraw aDrawEq
  alDraw_NoneType : PySem.W.subIn K (.ref cDraw) (.type "NoneType") = some false
  ikDraw_NoneType : PySem.W.kitOne K (.type "NoneType") (.ref cDraw) = some false
  alDraw_int : PySem.W.subIn K (.ref cDraw) (.type "int") = some false
  ikDraw_int : PySem.W.kitOne K (.type "int") (.ref cDraw) = some false
  alDraw_tuple : PySem.W.subIn K (.ref cDraw) (.type "tuple") = some false
  ikDraw_tuple : PySem.W.kitOne K (.type "tuple") (.ref cDraw) = some false
  alDraw_list : PySem.W.subIn K (.ref cDraw) (.type "list") = some false
  ikDraw_list : PySem.W.kitOne K (.type "list") (.ref cDraw) = some false
  neChange : NeK K cChange aChangeEq
  alChange_NoneType : PySem.W.subIn K (.ref cChange) (.type "NoneType") = some false
  ikChange_NoneType : PySem.W.kitOne K (.type "NoneType") (.ref cChange) = some false
  alChange_int : PySem.W.subIn K (.ref cChange) (.type "int") = some false
  ikChange_int : PySem.W.kitOne K (.type "int") (.ref cChange) = some false
  alChange_tuple : PySem.W.subIn K (.ref cChange) (.type "tuple") = some false
  ikChange_tuple : PySem.W.kitOne K (.type "tuple") (.ref cChange) = some false
  alChange_list : PySem.W.subIn K (.ref cChange) (.type "list") = some false
  ikChange_list : PySem.W.kitOne K (.type "list") (.ref cChange) = some false
  neJars : NeK K cJars aJarsEq
  alJars_NoneType : PySem.W.subIn K (.ref cJars) (.type "NoneType") = some false
  ikJars_NoneType : PySem.W.kitOne K (.type "NoneType") (.ref cJars) = some false
  alJars_int : PySem.W.subIn K (.ref cJars) (.type "int") = some false
  ikJars_int : PySem.W.kitOne K (.type "int") (.ref cJars) = some false
  alJars_tuple : PySem.W.subIn K (.ref cJars) (.type "tuple") = some false
  ikJars_tuple : PySem.W.kitOne K (.type "tuple") (.ref cJars) = some false
  alJars_list : PySem.W.subIn K (.ref cJars) (.type "list") = some false
  ikJars_list : PySem.W.kitOne K (.type "list") (.ref cJars) = some false
  neRow : NeK K cRow aRowEq
  alRow_NoneType : PySem.W.subIn K (.ref cRow) (.type "NoneType") = some false
  ikRow_NoneType : PySem.W.kitOne K (.type "NoneType") (.ref cRow) = some false
  alRow_int : PySem.W.subIn K (.ref cRow) (.type "int") = some false
  ikRow_int : PySem.W.kitOne K (.type "int") (.ref cRow) = some false
  alRow_tuple : PySem.W.subIn K (.ref cRow) (.type "tuple") = some false
  ikRow_tuple : PySem.W.kitOne K (.type "tuple") (.ref cRow) = some false
  alRow_list : PySem.W.subIn K (.ref cRow) (.type "list") = some false
  ikRow_list : PySem.W.kitOne K (.type "list") (.ref cRow) = some false
  kbRow_deeds_jars : KBn K dRowInit ["self", "jars", "deeds"] 1 ["deeds", "jars"] (fun us ws => us ++ ws.reverse) (fun vs zs => vs ++ zs.reverse)
  cMOSTJARS : mg "MOST_JARS" = some (.int 6 tMOSTJARS)
  cMOSTDEEDS : mg "MOST_DEEDS" = some (.int 20 tMOSTDEEDS)
  cMOSTMUCH : mg "MOST_MUCH" = some (.int 1000000000000 tMOSTMUCH)
  nabs : mg "abs" = none
  nint : mg "int" = none
  nisinstance : mg "isinstance" = none
  nlen : mg "len" = none
  nlist : mg "list" = none
  nmax : mg "max" = none
  nmin : mg "min" = none
  nrange : mg "range" = none
  ntuple : mg "tuple" = none
/-! ### fields -/
theorem put2 {a b : Str} {u v : V} (h : ¬ a = b) : putF b v (putF a u []) = ([(a, u), (b, v)] : List (Str × V)) := by
  show (if a = b then [(a, v)] else (a, u) :: putF b v []) = [(a, u), (b, v)]
  rw [if_neg h]
  rfl
theorem lk1 {a : Str} {x : V} {r : List (Str × V)} : List.lookup a ((a, x) :: r) = some x := by simp [List.lookup]
theorem lk2 {a b : Str} {x y : V} (h : ¬ b = a) : List.lookup b [(a, x), (b, y)] = some y := by
  have : (b == a) = false := by simpa using h
  simp [List.lookup, this]
/-! ### things in the heap -/
section
variable {K : PySem.W.Frag} {mg : Str → Option Value}
def f1s (a : Str) (x : V) : List (Str × V) := [(a, x)]
def f2s (a : Str) (x : V) (b : Str) (y : V) : List (Str × V) := [(a, x), (b, y)]
def DeedAt (T : Tx K mg) (H : Hp) (v : V) (d : E1) : Prop := ∃ p dx, v = .ref p ∧ match d with
  | .pour a b => H p = some (.ins T.cPour dx (f2s "a" (.int a) "b" (.int b)))
  | .put a k => H p = some (.ins T.cPut dx (f2s "a" (.int a) "k" (.int k)))
  | .draw a k => H p = some (.ins T.cDraw dx (f2s "a" (.int a) "k" (.int k)))
  | .change a b => H p = some (.ins T.cChange dx (f2s "a" (.int a) "b" (.int b)))
def JarsAt (T : Tx K mg) (H : Hp) (p : Addr) (caps : List Int) : Prop := ∃ dx t, H p = some (.ins T.cJars dx (f1s "sizes" (.ref t))) ∧ H t = some (.tup (vi caps))
theorem DeedAt.same {T : Tx K mg} {H H' : Hp} {v : V} {d : E1} (e : Same H H') (h : DeedAt T H v d) : DeedAt T H' v d := by
  obtain ⟨p, dx, rfl, h⟩ := h
  refine ⟨p, dx, rfl, ?_⟩
  cases d <;> exact e _ _ h
theorem JarsAt.same {T : Tx K mg} {H H' : Hp} {p : Addr} {caps : List Int} (e : Same H H') (h : JarsAt T H p caps) : JarsAt T H' p caps := by
  obtain ⟨dx, t, h1, h2⟩ := h
  exact ⟨dx, t, e _ _ h1, e _ _ h2⟩
/-- a list, or an instance without fields: what a def may change -/
def Blank (o : HO) : Prop := (∃ ws, o = .lst ws) ∨ ∃ C dx, o = .ins C dx []
theorem bl_l {ws : List V} : Blank (.lst ws) := .inl ⟨ws, rfl⟩
theorem bl_i {C dx : Addr} : Blank (.ins C dx []) := .inr ⟨C, dx, rfl⟩
theorem nb1 {C dx : Addr} {a : Str} {x : V} : ¬ Blank (.ins C dx (f1s a x)) := by
  rintro (⟨_, z⟩ | ⟨_, _, z⟩)
  · cases z
  · injection z with _ _ z
    cases z
theorem nb2 {C dx : Addr} {a b : Str} {x y : V} : ¬ Blank (.ins C dx (f2s a x b y)) := by
  rintro (⟨_, z⟩ | ⟨_, _, z⟩)
  · cases z
  · injection z with _ _ z
    cases z
theorem nbT {xs : List V} : ¬ Blank (.tup xs) := by
  rintro (⟨_, z⟩ | ⟨_, _, z⟩) <;> cases z
/-- all but one thing at w stays: what is no list stays -/
theorem fr_no {w : Addr} {H H' : Hp} {u : HO} {b : Addr} {o : HO} (e : Fr w H H') (hw : H w = some u) (hb : Blank u) (h : H b = some o) (n : ¬ Blank o) : H' b = some o :=
  e b o (fun z => by rw [z, hw] at h; cases h; exact n hb) h
theorem DeedAt.fr {T : Tx K mg} {w : Addr} {H H' : Hp} {u : HO} {v : V} {d : E1} (e : Fr w H H') (hw : H w = some u) (hb : Blank u) (h : DeedAt T H v d) : DeedAt T H' v d := by
  obtain ⟨p, dx, rfl, h⟩ := h
  refine ⟨p, dx, rfl, ?_⟩
  cases d <;> exact fr_no e hw hb h nb2
theorem JarsAt.fr {T : Tx K mg} {w : Addr} {H H' : Hp} {u : HO} {p : Addr} {caps : List Int} (e : Fr w H H') (hw : H w = some u) (hb : Blank u) (h : JarsAt T H p caps) : JarsAt T H' p caps := by
  obtain ⟨dx, t, h1, h2⟩ := h
  exact ⟨dx, t, fr_no e hw hb h1 nb1, fr_no e hw hb h2 nbT⟩
/-! ### the promises of the program's defs -/
def okN (c : Int) : Bool := decide (1 ≤ c) && decide (c ≤ 1000000000000)
def bads (l : List Int) : List Int := l.filter fun c => !okN c
/-- an own exception's __init__ that stores one thing, or two -/
def spX1 (C : Addr) (f : Str) : Sp := fun vs H Q _ => ∃ (a : Addr) (u : V), vs = [.ref a, u] ∧ H a = some (exo a C none) ∧
  ∀ (H' : Hp) (d : Addr), H d = none → d ≠ a → H' a = some (exo a C (some d)) → H' d = some (exd d (f1s f u)) → Fr a H H' → Q .non H'
def spX2 (C : Addr) (f g : Str) : Sp := fun vs H Q _ => ∃ (a : Addr) (u v : V), vs = [.ref a, u, v] ∧ H a = some (exo a C none) ∧
  ∀ (H' : Hp) (d : Addr), H d = none → d ≠ a → H' a = some (exo a C (some d)) → H' d = some (exd d (f2s g v f u)) → Fr a H H' → Q .non H'
def spBadCountInit (T : Tx K mg) : Sp := spX2 T.cBadCount "what" "count"
def spSizesInit (T : Tx K mg) : Sp := spX2 T.cSizes "a" "b"
def spNoJarInit (T : Tx K mg) : Sp := spX1 T.cNoJar "jar"
def spSameJarInit (T : Tx K mg) : Sp := spX1 T.cSameJar "jar"
/-- how a row is refused -/
inductive Rf where
  | count (x : Str) (n : Int) | nojar (j : Int) | same (j : Int) | sizes (a b : Int)
def Rf.cls (T : Tx K mg) : Rf → Addr
  | .count _ _ => T.cBadCount
  | .nojar _ => T.cNoJar
  | .same _ => T.cSameJar
  | .sizes _ _ => T.cSizes
def Rf.fs : Rf → List (Str × V)
  | .count x n => f2s "count" (.int n) "what" (.str x)
  | .nojar j => f1s "jar" (.int j)
  | .same j => f1s "jar" (.int j)
  | .sizes a b => f2s "b" (.int b) "a" (.int a)
def rE (T : Tx K mg) (H : Hp) (E : XK) (r : Rf) : Prop := ∀ (H' : Hp) (d : Addr), H' d = some (.xd r.fs) → Same H H' → E (.ref (r.cls T)) (some d) H'
/-- the first thing amiss of a deed -/
def inJ (n : Nat) (j : Int) : Bool := decide (0 ≤ j) && decide (j < n)
def E1.bad (caps : List Int) : E1 → Option Rf
  | .put a k => if inJ caps.length a then (if okN k then none else some (.count "much" k)) else some (.nojar a)
  | .draw a k => if inJ caps.length a then (if okN k then none else some (.count "much" k)) else some (.nojar a)
  | .pour a b => if inJ caps.length a then (if inJ caps.length b then (if a = b then some (.same a) else none) else some (.nojar b)) else some (.nojar a)
  | .change a b => if inJ caps.length a then (if inJ caps.length b then (if a = b then some (.same a) else if caps.getD a.toNat 0 = caps.getD b.toNat 0 then none else some (.sizes a b)) else some (.nojar b)) else some (.nojar a)
def firstBad (caps : List Int) : List E1 → Option Rf
  | [] => none
  | d :: r => match d.bad caps with
    | some x => some x
    | none => firstBad caps r
def spcheckmuch (T : Tx K mg) : Sp := fun vs H Q E => ∃ (x : Str) (n : Int), vs = [.str x, .int n] ∧ (okN n = true → Q .non H) ∧ (okN n = false → rE T H E (.count x n))
def spcheckjar (T : Tx K mg) : Sp := fun vs H Q E => ∃ (j : Addr) (caps : List Int) (i : Int), vs = [.ref j, .int i] ∧ JarsAt T H j caps ∧ (inJ caps.length i = true → Q .non H) ∧ (inJ caps.length i = false → rE T H E (.nojar i))
def spcheckdeed (T : Tx K mg) : Sp := fun vs H Q E => ∃ (j : Addr) (caps : List Int) (v : V) (d : E1), vs = [.ref j, v] ∧ JarsAt T H j caps ∧ DeedAt T H v d ∧ (d.bad caps = none → Q .non H) ∧ ∀ r, d.bad caps = some r → rE T H E r
/-- an __init__ that stores two ints -/
def spTwo (C : Addr) (f g : Str) : Sp := fun vs H Q _ => ∃ (p dx : Addr) (u v : V), vs = [.ref p, u, v] ∧ H p = some (.ins C dx []) ∧ ∀ H', H' p = some (.ins C dx (f2s f u g v)) → Fr p H H' → Q .non H'
def spPourInit (T : Tx K mg) : Sp := spTwo T.cPour "a" "b"
def spPutInit (T : Tx K mg) : Sp := spTwo T.cPut "a" "k"
def spDrawInit (T : Tx K mg) : Sp := spTwo T.cDraw "a" "k"
def spChangeInit (T : Tx K mg) : Sp := spTwo T.cChange "a" "b"
def spJarsInit (T : Tx K mg) : Sp := fun vs H Q _ => ∃ (p dx a : Addr) (caps : List Int), vs = [.ref p, .ref a] ∧ H p = some (.ins T.cJars dx []) ∧ SqL K H a (vi caps) ∧ Caps caps ∧
  ∀ H', JarsAt T H' p caps → Fr p H H' → Q .non H'
end
section
variable {P : Program} {w : World} {K : PySem.W.Frag} {mg : Str → Option Value} {base : Heap}
theorem okBadCountInit (T : Tx K mg) : FnOk P w K mg base CX0 1 T.aBadCountInit T.dBadCountInit ["self", "what", "count"] (spBadCountInit T) := by
  refine T.fBadCountInit.ok scBadCountInit (fun vs H Q E h => ?_) (fun cdv A outer s H vs Q E hr h => ?_)
  · obtain ⟨a, u, v, rfl, _⟩ := h
    rfl
  · obtain ⟨a, u, v, rfl, ha, hq⟩ := h
    refine ⟨_, (pss_cons (ps_ost (pv 0) (pv 1))
      (pss_one (ps_ost (pv 0) (pv 2)))), ?_⟩
    refine ⟨_, rfl, _, rfl, a, _, rfl, T.oBadCount, T.nBadCount_what, .inl ⟨ha, fun d hd ne => ?_⟩⟩
    refine ⟨_, rfl, _, rfl, a, _, rfl, T.oBadCount, T.nBadCount_count, .inr ⟨d, _, upd_same, by rw [upd_ne ne]; exact upd_same, (by show 1 ≤ 900; decide), ?_⟩⟩
    refine hq _ d hd ne (by rw [upd_ne ne.symm]; exact upd_same) upd_same ?_
    exact fun b o n1 e => by
      have n2 := ne_of_none e hd
      rw [upd_ne n2, upd_ne n1, upd_ne n2]
      exact e
theorem okSizesInit (T : Tx K mg) : FnOk P w K mg base CX0 1 T.aSizesInit T.dSizesInit ["self", "a", "b"] (spSizesInit T) := by
  refine T.fSizesInit.ok scSizesInit (fun vs H Q E h => ?_) (fun cdv A outer s H vs Q E hr h => ?_)
  · obtain ⟨a, u, v, rfl, _⟩ := h
    rfl
  · obtain ⟨a, u, v, rfl, ha, hq⟩ := h
    refine ⟨_, (pss_cons (ps_ost (pv 0) (pv 1))
      (pss_one (ps_ost (pv 0) (pv 2)))), ?_⟩
    refine ⟨_, rfl, _, rfl, a, _, rfl, T.oSizes, T.nSizes_a, .inl ⟨ha, fun d hd ne => ?_⟩⟩
    refine ⟨_, rfl, _, rfl, a, _, rfl, T.oSizes, T.nSizes_b, .inr ⟨d, _, upd_same, by rw [upd_ne ne]; exact upd_same, (by show 1 ≤ 900; decide), ?_⟩⟩
    refine hq _ d hd ne (by rw [upd_ne ne.symm]; exact upd_same) upd_same ?_
    exact fun b o n1 e => by
      have n2 := ne_of_none e hd
      rw [upd_ne n2, upd_ne n1, upd_ne n2]
      exact e
theorem okNoJarInit (T : Tx K mg) : FnOk P w K mg base CX0 1 T.aNoJarInit T.dNoJarInit ["self", "jar"] (spNoJarInit T) := by
  refine T.fNoJarInit.ok scNoJarInit (fun vs H Q E h => ?_) (fun cdv A outer s H vs Q E hr h => ?_)
  · obtain ⟨a, u, rfl, _⟩ := h
    rfl
  · obtain ⟨a, u, rfl, ha, hq⟩ := h
    refine ⟨_, (pss_one (ps_ost (pv 0) (pv 1))), ?_⟩
    refine ⟨_, rfl, _, rfl, a, _, rfl, T.oNoJar, T.nNoJar_jar, .inl ⟨ha, fun d hd ne => ?_⟩⟩
    refine hq _ d hd ne upd_same (by rw [upd_ne ne]; exact upd_same) ?_
    exact fun b o n1 e => by
      have n2 := ne_of_none e hd
      rw [upd_ne n1, upd_ne n2]
      exact e
theorem okSameJarInit (T : Tx K mg) : FnOk P w K mg base CX0 1 T.aSameJarInit T.dSameJarInit ["self", "jar"] (spSameJarInit T) := by
  refine T.fSameJarInit.ok scSameJarInit (fun vs H Q E h => ?_) (fun cdv A outer s H vs Q E hr h => ?_)
  · obtain ⟨a, u, rfl, _⟩ := h
    rfl
  · obtain ⟨a, u, rfl, ha, hq⟩ := h
    refine ⟨_, (pss_one (ps_ost (pv 0) (pv 1))), ?_⟩
    refine ⟨_, rfl, _, rfl, a, _, rfl, T.oSameJar, T.nSameJar_jar, .inl ⟨ha, fun d hd ne => ?_⟩⟩
    refine hq _ d hd ne upd_same (by rw [upd_ne ne]; exact upd_same) ?_
    exact fun b o n1 e => by
      have n2 := ne_of_none e hd
      rw [upd_ne n1, upd_ne n2]
      exact e
/-- what a made exception leaves -/
theorem x2_made {H : Hp} {C : Addr} {f g : Str} {u v : V} {E : XK} (h : ∀ (H' : Hp) (d : Addr), H' d = some (.xd (f2s g v f u)) → Same H H' → E (.ref C) (some d) H') : ∀ a, H a = none → spX2 C f g [.ref a, u, v] (upd H a (exo a C none))
    (fun v H2 => v = .non ∧ ∃ (d : Addr) (fs : List (Str × V)), H2 a = some (exo a C (some d)) ∧ H2 d = some (exd d fs) ∧ H d = none ∧ E (.ref C) (some d) (upd (del H2 a) d (.xd fs))) (fun _ _ _ => False) := fun a ha => by
  refine ⟨a, u, v, rfl, upd_same, fun H' d hd ne e1 e2 fr => ⟨rfl, d, _, e1, e2, by rw [upd_ne ne] at hd; exact hd, ?_⟩⟩
  have hd0 : H d = none := by rw [upd_ne ne] at hd; exact hd
  refine h _ d upd_same fun b o e => ?_
  have n1 := ne_of_none e ha
  have n2 := ne_of_none e hd0
  rw [upd_ne n2, del_ne n1]
  exact fr b o n1 (by rw [upd_ne n1]; exact e)
theorem x1_made {H : Hp} {C : Addr} {f : Str} {u : V} {E : XK} (h : ∀ (H' : Hp) (d : Addr), H' d = some (.xd (f1s f u)) → Same H H' → E (.ref C) (some d) H') : ∀ a, H a = none → spX1 C f [.ref a, u] (upd H a (exo a C none))
    (fun v H2 => v = .non ∧ ∃ (d : Addr) (fs : List (Str × V)), H2 a = some (exo a C (some d)) ∧ H2 d = some (exd d fs) ∧ H d = none ∧ E (.ref C) (some d) (upd (del H2 a) d (.xd fs))) (fun _ _ _ => False) := fun a ha => by
  refine ⟨a, u, rfl, upd_same, fun H' d hd ne e1 e2 fr => ⟨rfl, d, _, e1, e2, by rw [upd_ne ne] at hd; exact hd, ?_⟩⟩
  have hd0 : H d = none := by rw [upd_ne ne] at hd; exact hd
  refine h _ d upd_same fun b o e => ?_
  have n1 := ne_of_none e ha
  have n2 := ne_of_none e hd0
  rw [upd_ne n2, del_ne n1]
  exact fr b o n1 (by rw [upd_ne n1]; exact e)
theorem okcheckmuch (T : Tx K mg) : FnOk P w K mg base (L2.CX P w) 3 T.acheckmuch T.dcheckmuch ["what", "much"] (spcheckmuch T) := by
  refine T.fcheckmuch.okX sccheckmuch (fun vs H Q E h => ?_) (fun cdv A outer s H vs Q E hr h => ?_)
  · obtain ⟨x, n, rfl, _⟩ := h
    rfl
  · obtain ⟨x, n, rfl, h1, h2⟩ := h
    refine ⟨_, (pss_one (ps_if (pt_not (pt_chain op_le op_le pe_int (pv 1) (pe_glob (v := .int 1000000000000) rfl T.cMOSTMUCH ⟨_, rfl⟩))) (pss_one (ps_raise rfl (takes_of rfl rfl rfl rfl) (pmk_oex T.oBadCount T.iBadCount T.tBadCount (okBadCountInit T) (hr.mono (by decide)) T.bBadCountInit .nil pass0 rfl T.mBadCount (pa_cons (pv 0) (pa_cons (pv 1) pa_nil))))) pss_nil)), ?_⟩
    cases ok : okN n with
    | true =>
      have q := h1 ok
      unfold okN at ok
      simp only [Bool.and_eq_true, decide_eq_true_eq] at ok
      refine ⟨_, rfl, _, _, rfl, rfl, _, rfl, ifT (decide_eq_true ok.1) ?_⟩
      exact ⟨_, _, rfl, rfl, _, rfl, iteNS ok.2 q⟩
    | false =>
      have q := h2 ok
      unfold okN at ok
      have bad := x2_made q
      by_cases g : (1 : Int) ≤ n
      · refine ⟨_, rfl, _, _, rfl, rfl, _, rfl, ifT (decide_eq_true g) ?_⟩
        have g2 : ¬ n ≤ 1000000000000 := fun z => by rw [decide_eq_true g, decide_eq_true z] at ok; cases ok
        refine ⟨_, _, rfl, rfl, _, rfl, ?_⟩
        show if (!decide (n ≤ 1000000000000)) = true then _ else _
        rw [decide_eq_false g2]
        refine ifT rfl ?_
        exact ⟨_, rfl, _, rfl, (by show 2 ≤ 1000; decide), bad⟩
      · refine ⟨_, rfl, _, _, rfl, rfl, _, rfl, ifF (decide_eq_false g) ?_⟩
        exact ⟨_, rfl, ifT rfl ⟨_, rfl, _, rfl, (by show 2 ≤ 1000; decide), bad⟩⟩
theorem okcheckjar (T : Tx K mg) : FnOk P w K mg base (L2.CX P w) 3 T.acheckjar T.dcheckjar ["jars", "jar"] (spcheckjar T) := by
  refine T.fcheckjar.okX sccheckjar (fun vs H Q E h => ?_) (fun cdv A outer s H vs Q E hr h => ?_)
  · obtain ⟨j, caps, i, rfl, _⟩ := h
    rfl
  · obtain ⟨j, caps, i, rfl, ⟨dx, t, e1, e2⟩, h1, h2⟩ := h
    refine ⟨_, (pss_one (ps_if (pt_not (pt_chain op_le op_lt pe_int (pv 1) (pe_callB call_len_seq rfl T.nlen PySem.boot_len (pa_cons (pe_fld (pv 0) rfl) pa_nil)))) (pss_one (ps_raise rfl (takes_of rfl rfl rfl rfl) (pmk_oex T.oNoJar T.iNoJar T.tNoJar (okNoJarInit T) (hr.mono (by decide)) T.bNoJarInit .nil pass0 rfl T.mNoJar (pa_cons (pv 1) pa_nil)))) pss_nil)), ?_⟩
    have el : (vi caps).length = caps.length := List.length_map ..
    by_cases g : (0 : Int) ≤ i
    · refine ⟨_, rfl, _, _, rfl, rfl, _, rfl, ifT (decide_eq_true g) ?_⟩
      refine ⟨_, rfl, j, _, dx, _, _, rfl, e1, T.lJars, T.nJars_sizes, lk1, t, _, rfl, .inr (SqT.of e2), _, _, rfl, rfl, _, rfl, ?_⟩
      by_cases g2 : i < (caps.length : Int)
      · exact iteNS (by rw [el]; exact g2) (h1 (by unfold inJ; rw [decide_eq_true g, decide_eq_true g2]; rfl))
      · have q := h2 (by unfold inJ; rw [decide_eq_false g2, Bool.and_false])
        refine (congrArg (fun c : Bool => if (!c) = true then _ else _) (decide_eq_false (by rw [el]; exact g2))).mpr ?_
        exact ifT rfl ⟨_, rfl, (by show 1 ≤ 1000; decide), x1_made q⟩
    · have q := h2 (by unfold inJ; rw [decide_eq_false g]; rfl)
      refine ⟨_, rfl, _, _, rfl, rfl, _, rfl, ifF (decide_eq_false g) ?_⟩
      exact ⟨_, rfl, ifT rfl ⟨_, rfl, (by show 1 ≤ 1000; decide), x1_made q⟩⟩
theorem okPourInit (T : Tx K mg) : FnOk P w K mg base CX0 1 T.aPourInit T.dPourInit ["self", "a", "b"] (spPourInit T) := by
  refine T.fPourInit.ok scPourInit (fun vs H Q E h => ?_) (fun cdv A outer s H vs Q E hr h => ?_)
  · obtain ⟨p, dx, u, v, rfl, _⟩ := h
    rfl
  · obtain ⟨p, dx, u, v, rfl, hp, hq⟩ := h
    refine ⟨_, (pss_cons (ps_fld (pv 0) (pv 1) rfl)
      (pss_one (ps_fld (pv 0) (pv 2) rfl))), ?_⟩
    refine ⟨_, rfl, _, rfl, p, _, dx, _, rfl, hp, T.lPour, T.nPour_a, (by show 0 < 1000; decide), ?_⟩
    refine ⟨_, rfl, _, rfl, p, _, dx, _, rfl, upd_same, T.lPour, T.nPour_b, (by show 1 < 1000; decide), ?_⟩
    refine hq _ ?_ (fr_mut (fr_mut (Fr.refl _ _)))
    rw [upd_same, put2 (by decide +kernel)]
    rfl
theorem okPutInit (T : Tx K mg) : FnOk P w K mg base CX0 1 T.aPutInit T.dPutInit ["self", "a", "k"] (spPutInit T) := by
  refine T.fPutInit.ok scPutInit (fun vs H Q E h => ?_) (fun cdv A outer s H vs Q E hr h => ?_)
  · obtain ⟨p, dx, u, v, rfl, _⟩ := h
    rfl
  · obtain ⟨p, dx, u, v, rfl, hp, hq⟩ := h
    refine ⟨_, (pss_cons (ps_fld (pv 0) (pv 1) rfl)
      (pss_one (ps_fld (pv 0) (pv 2) rfl))), ?_⟩
    refine ⟨_, rfl, _, rfl, p, _, dx, _, rfl, hp, T.lPut, T.nPut_a, (by show 0 < 1000; decide), ?_⟩
    refine ⟨_, rfl, _, rfl, p, _, dx, _, rfl, upd_same, T.lPut, T.nPut_k, (by show 1 < 1000; decide), ?_⟩
    refine hq _ ?_ (fr_mut (fr_mut (Fr.refl _ _)))
    rw [upd_same, put2 (by decide +kernel)]
    rfl
theorem okDrawInit (T : Tx K mg) : FnOk P w K mg base CX0 1 T.aDrawInit T.dDrawInit ["self", "a", "k"] (spDrawInit T) := by
  refine T.fDrawInit.ok scDrawInit (fun vs H Q E h => ?_) (fun cdv A outer s H vs Q E hr h => ?_)
  · obtain ⟨p, dx, u, v, rfl, _⟩ := h
    rfl
  · obtain ⟨p, dx, u, v, rfl, hp, hq⟩ := h
    refine ⟨_, (pss_cons (ps_fld (pv 0) (pv 1) rfl)
      (pss_one (ps_fld (pv 0) (pv 2) rfl))), ?_⟩
    refine ⟨_, rfl, _, rfl, p, _, dx, _, rfl, hp, T.lDraw, T.nDraw_a, (by show 0 < 1000; decide), ?_⟩
    refine ⟨_, rfl, _, rfl, p, _, dx, _, rfl, upd_same, T.lDraw, T.nDraw_k, (by show 1 < 1000; decide), ?_⟩
    refine hq _ ?_ (fr_mut (fr_mut (Fr.refl _ _)))
    rw [upd_same, put2 (by decide +kernel)]
    rfl
theorem okChangeInit (T : Tx K mg) : FnOk P w K mg base CX0 1 T.aChangeInit T.dChangeInit ["self", "a", "b"] (spChangeInit T) := by
  refine T.fChangeInit.ok scChangeInit (fun vs H Q E h => ?_) (fun cdv A outer s H vs Q E hr h => ?_)
  · obtain ⟨p, dx, u, v, rfl, _⟩ := h
    rfl
  · obtain ⟨p, dx, u, v, rfl, hp, hq⟩ := h
    refine ⟨_, (pss_cons (ps_fld (pv 0) (pv 1) rfl)
      (pss_one (ps_fld (pv 0) (pv 2) rfl))), ?_⟩
    refine ⟨_, rfl, _, rfl, p, _, dx, _, rfl, hp, T.lChange, T.nChange_a, (by show 0 < 1000; decide), ?_⟩
    refine ⟨_, rfl, _, rfl, p, _, dx, _, rfl, upd_same, T.lChange, T.nChange_b, (by show 1 < 1000; decide), ?_⟩
    refine hq _ ?_ (fr_mut (fr_mut (Fr.refl _ _)))
    rw [upd_same, put2 (by decide +kernel)]
    rfl
end
end Kp

namespace Kp
open PySem PySem.Spec PyProof.Rows L2 KpR
/-! ### lists of ints compared; slices -/
def pdI (l : List Int) : List PyData := l.map PyData.int
section
variable {K : PySem.W.Frag} {H : Hp}
theorem dpI : ∀ l : List Int, DpAll K H (vi l) (pdI l)
  | [] => .nil
  | i :: l => .cons (.int i) (dpI l)
theorem lay_i : ∀ l : List Int, PyData.canLayAll0 (pdI l) = true
  | [] => by simp [pdI, PyData.canLayAll0]
  | i :: l => by
    have := lay_i l
    simp only [pdI, List.map_cons, PyData.canLayAll0, PyData.canLay0, Bool.true_and]
    exact this
theorem dep_i : ∀ l : List Int, PyData.depthAll (pdI l) = 0
  | [] => by simp [pdI, PyData.depthAll]
  | i :: l => by
    have := dep_i l
    simp only [pdI, List.map_cons, PyData.depthAll, PyData.depth]
    rw [show PyData.depthAll (List.map PyData.int l) = 0 from this]
    rfl
theorem shape_i (l : List Int) : SeqAt.shaped (.list (pdI l)) = true := by
  unfold SeqAt.shaped
  simp only [PyData.canLay0, PyData.depth, lay_i, dep_i]
  rfl
theorem eqv_i : ∀ l m : List Int, PyData.eqvAll (pdI l) (pdI m) = decide (l = m)
  | [], [] => by simp [pdI, PyData.eqvAll]
  | [], _ :: _ => by simp [pdI, PyData.eqvAll]
  | _ :: _, [] => by simp [pdI, PyData.eqvAll]
  | i :: l, j :: m => by
    have := eqv_i l m
    simp only [pdI, List.map_cons, PyData.eqvAll, PyData.eqv]
    rw [show PyData.eqvAll (List.map PyData.int l) (List.map PyData.int m) = decide (l = m) from this]
    by_cases h1 : i = j
    · by_cases h2 : l = m <;> simp [h1, h2]
    · simp [h1]
theorem ne_ints {a b : Addr} {l m : List Int} {Q : VK} (h1 : SqL K H a (vi l)) (h2 : SqL K H b (vi m)) (e : l = m) (q : Q (.bl false) H) : rNeD K (.ref a) (.ref b) H Q := by
  refine ⟨_, _, .lst h1 (dpI l), .lst h2 (dpI m), shape_i l, shape_i m, ?_⟩
  have z : PyData.eqv (.list (pdI l)) (.list (pdI m)) = true := by
    simp only [PyData.eqv, eqv_i]
    exact decide_eq_true e
  rw [z]
  exact q
theorem eq_ints {a b : Addr} {l m : List Int} {Q : VK} (h1 : SqL K H a (vi l)) (h2 : SqL K H b (vi m)) (q : Q (.bl (decide (l = m))) H) : rEqD K (.ref a) (.ref b) H Q := by
  refine ⟨_, _, .lst h1 (dpI l), .lst h2 (dpI m), shape_i l, shape_i m, ?_⟩
  have z : PyData.eqv (.list (pdI l)) (.list (pdI m)) = decide (l = m) := by simp only [PyData.eqv, eqv_i]
  rw [z]
  exact q
end
theorem cut_take {xs : List V} {n : Nat} : cutV xs none (some (n : Int)) = xs.take n := by
  unfold cutV
  rw [HT.sIx_nat, HT.sIx_none, List.drop_zero, Nat.sub_zero]
  by_cases h : n ≤ xs.length
  · rw [Nat.min_eq_left h]
  · rw [Nat.min_eq_right (by omega), List.take_length, List.take_of_length_le (by omega)]
theorem cut_drop {xs : List V} {n : Nat} (h : n ≤ xs.length) : cutV xs (some (n : Int)) none = xs.drop n := by
  unfold cutV
  rw [HT.sIx_nat, HT.sIx_none, Nat.min_eq_left h]
  exact List.take_of_length_le (by rw [List.length_drop]; omega)
section
variable {K : PySem.W.Frag} {H : Hp}
/-- a written list of ints, one of which is drawn -/
theorem pickL {l : Addr} {xs : List Int} {n : Nat} {Q : VK} (h : SqL K H l (vi xs)) (hn : n < xs.length) (q : Q (.int (at0 xs n)) H) : rIxL K (.ref l) (.int n) H Q := ⟨l, _, _, _, rfl, rfl, h, vi_at hn, q⟩
end
end Kp
namespace Kp
open PySem PySem.Spec PyProof.Rows L2 KpR
section
variable {P : Program} {w : World} {K : PySem.W.Frag} {mg : Str → Option Value} {base : Heap}
/-! ### isinstance of a deed -/
def E1.cls (T : Tx K mg) : E1 → Addr
  | .pour _ _ => T.cPour
  | .put _ _ => T.cPut
  | .draw _ _ => T.cDraw
  | .change _ _ => T.cChange
def E1.fst : E1 → Int
  | .pour a _ => a
  | .put a _ => a
  | .draw a _ => a
  | .change a _ => a
def E1.fs : E1 → List (Str × V)
  | .pour a b => f2s "a" (.int a) "b" (.int b)
  | .put a k => f2s "a" (.int a) "k" (.int k)
  | .draw a k => f2s "a" (.int a) "k" (.int k)
  | .change a b => f2s "a" (.int a) "b" (.int b)
theorem deed_at {T : Tx K mg} {H : Hp} {v : V} {d : E1} (h : DeedAt T H v d) : ∃ p dx, v = .ref p ∧ H p = some (.ins (d.cls T) dx d.fs) := by
  obtain ⟨p, dx, rfl, h⟩ := h
  cases d <;> exact ⟨p, dx, rfl, h⟩
theorem cls_cls (T : Tx K mg) (d : E1) : Cls K (d.cls T) := by
  cases d
  · exact T.lPour
  · exact T.lPut
  · exact T.lDraw
  · exact T.lChange
theorem no_a (T : Tx K mg) (d : E1) : NoAttr K (d.cls T) "a" := by
  cases d
  · exact T.nPour_a
  · exact T.nPut_a
  · exact T.nDraw_a
  · exact T.nChange_a
theorem fs_a (d : E1) : d.fs.lookup ("a" : Str) = some (.int d.fst) := by
  cases d <;> exact lk1
theorem ty_deed {T : Tx K mg} {H : Hp} {p dx : Addr} {d : E1} (h : H p = some (.ins (d.cls T) dx d.fs)) : TyX K H (.ref p) (.ref (d.cls T)) := by
  refine .base ?_
  cases d
  · exact .ins h T.lPour T.yPour.ha T.yPour.hn T.yPour.ht T.yPour.hm
  · exact .ins h T.lPut T.yPut.ha T.yPut.hn T.yPut.ht T.yPut.hm
  · exact .ins h T.lDraw T.yDraw.ha T.yDraw.hn T.yDraw.ht T.yDraw.hm
  · exact .ins h T.lChange T.yChange.ha T.yChange.hn T.yChange.ht T.yChange.hm
def E1.isPut : E1 → Bool
  | .put _ _ => true
  | _ => false
def E1.isDraw : E1 → Bool
  | .draw _ _ => true
  | _ => false
def E1.isPour : E1 → Bool
  | .pour _ _ => true
  | _ => false
def E1.isChange : E1 → Bool
  | .change _ _ => true
  | _ => false
theorem is_put (T : Tx K mg) (d : E1) : PySem.W.kitOne K (.ref (d.cls T)) (.ref T.cPut) = some d.isPut := by
  cases d
  · exact T.iPour_Put
  · exact T.iPut_Put
  · exact T.iDraw_Put
  · exact T.iChange_Put
theorem is_draw (T : Tx K mg) (d : E1) : PySem.W.kitOne K (.ref (d.cls T)) (.ref T.cDraw) = some d.isDraw := by
  cases d
  · exact T.iPour_Draw
  · exact T.iPut_Draw
  · exact T.iDraw_Draw
  · exact T.iChange_Draw
theorem is_pour (T : Tx K mg) (d : E1) : PySem.W.kitOne K (.ref (d.cls T)) (.ref T.cPour) = some d.isPour := by
  cases d
  · exact T.iPour_Pour
  · exact T.iPut_Pour
  · exact T.iDraw_Pour
  · exact T.iChange_Pour
theorem is_change (T : Tx K mg) (d : E1) : PySem.W.kitOne K (.ref (d.cls T)) (.ref T.cChange) = some d.isChange := by
  cases d
  · exact T.iPour_Change
  · exact T.iPut_Change
  · exact T.iDraw_Change
  · exact T.iChange_Change
end
end Kp

namespace Kp
open PySem PySem.Spec PyProof.Rows L2 KpR
theorem inJ_nat {n : Nat} {j : Int} (h : inJ n j = true) : ∃ k : Nat, j = (k : Int) ∧ k < n := by
  unfold inJ at h
  simp only [Bool.and_eq_true, decide_eq_true_eq] at h
  exact ⟨j.toNat, by omega, by omega⟩
section
variable {P : Program} {w : World} {K : PySem.W.Frag} {mg : Str → Option Value} {base : Heap}
theorem okcheckdeed (T : Tx K mg) : FnOk P w K mg base (L2.CX P w) 4 T.acheckdeed T.dcheckdeed ["jars", "deed"] (spcheckdeed T) := by
  refine T.fcheckdeed.okX sccheckdeed (fun vs H Q E h => ?_) (fun cdv A outer s H vs Q E hr h => ?_)
  · obtain ⟨j, caps, v, d, rfl, _⟩ := h
    rfl
  · obtain ⟨j, caps, v, d, rfl, hJ, hD, hq, hr2⟩ := h
    refine ⟨_, (pss_cons (ps_expr (pe_call (okcheckjar T) (hr.mono (by decide)) rfl T.gcheckjar T.fcheckjar.kp T.bcheckjar .nil (passes_call (W := fun c d _ H => E c d H) (takes_of rfl rfl rfl rfl) (fun _ _ _ _ h => h)) (pa_cons (pv 0) (pa_cons (pe_fld (pv 1) rfl) pa_nil))))
      (pss_cons (ps_if (PW.pt (pw_or (pt_val (pe_callB call_isi rfl T.nisinstance (by decide +kernel) (pa_cons (pv 1) (pa_cons (pe_glob (v := .ref T.cPut) rfl T.mPut rfl) pa_nil)))) (pw_or1 (pt_val (pe_callB call_isi rfl T.nisinstance (by decide +kernel) (pa_cons (pv 1) (pa_cons (pe_glob (v := .ref T.cDraw) rfl T.mDraw rfl) pa_nil))))))) (pss_cons (ps_expr (pe_call (okcheckmuch T) (hr.mono (by decide)) rfl T.gcheckmuch T.fcheckmuch.kp T.bcheckmuch .nil (passes_call (W := fun c d _ H => E c d H) (takes_of rfl rfl rfl rfl) (fun _ _ _ _ h => h)) (pa_cons pe_str (pa_cons (pe_fld (pv 1) rfl) pa_nil))))
      (pss_one ps_retN)) pss_nil)
      (pss_cons (ps_expr (pe_call (okcheckjar T) (hr.mono (by decide)) rfl T.gcheckjar T.fcheckjar.kp T.bcheckjar .nil (passes_call (W := fun c d _ H => E c d H) (takes_of rfl rfl rfl rfl) (fun _ _ _ _ h => h)) (pa_cons (pv 0) (pa_cons (pe_fld (pv 1) rfl) pa_nil))))
      (pss_cons (ps_if (pt_cmpR op_eq (pe_fld (pv 1) rfl) (pe_fld (pv 1) rfl) (nomark _)) (pss_one (ps_raise rfl (takes_of rfl rfl rfl rfl) (pmk_oex T.oSameJar T.iSameJar T.tSameJar (okSameJarInit T) (hr.mono (by decide)) T.bSameJarInit .nil pass0 rfl T.mSameJar (pa_cons (pe_fld (pv 1) rfl) pa_nil)))) pss_nil)
      (pss_one (ps_if (PW.pt (pw_and (pt_val (pe_callB call_isi rfl T.nisinstance (by decide +kernel) (pa_cons (pv 1) (pa_cons (pe_glob (v := .ref T.cChange) rfl T.mChange rfl) pa_nil)))) (pw_and1 (pt_cmpR op_ne (pe_ix (r := rIxT K) ix_tup (pe_fld (pv 0) rfl) (pe_fld (pv 1) rfl) (fun _ _ => rfl)) (pe_ix (r := rIxT K) ix_tup (pe_fld (pv 0) rfl) (pe_fld (pv 1) rfl) (fun _ _ => rfl)) (nomark _))))) (pss_one (ps_raise rfl (takes_of rfl rfl rfl rfl) (pmk_oex T.oSizes T.iSizes T.tSizes (okSizesInit T) (hr.mono (by decide)) T.bSizesInit .nil pass0 rfl T.mSizes (pa_cons (pe_fld (pv 1) rfl) (pa_cons (pe_fld (pv 1) rfl) pa_nil))))) pss_nil)))))), ?_⟩
    obtain ⟨p, dx, rfl, hp⟩ := deed_at hD
    have ty := ty_deed hp
    refine ⟨_, rfl, _, rfl, p, _, dx, _, _, rfl, hp, cls_cls T d, no_a T d, fs_a d, j, caps, d.fst, rfl, hJ, fun ok1 => ?_, fun no => hr2 _ ?_⟩
    · refine ⟨_, rfl, .ref p, .ref T.cPut, _, _, _, rfl, .own _, ty, is_put T d, _, rfl, ?_⟩
      cases d with
      | put a k =>
        have e1 : inJ caps.length a = true := ok1
        refine ifT rfl (ifT rfl ?_)
        exact ⟨_, rfl, p, _, dx, _, _, rfl, hp, T.lPut, T.nPut_k, lk2 (by decide +kernel), "much", k, rfl, fun ok => hq (by simp [E1.bad, e1, ok]), fun no => hr2 _ (by simp [E1.bad, e1, no])⟩
      | draw a k =>
        have e1 : inJ caps.length a = true := ok1
        refine ifF rfl ⟨_, rfl, .ref p, .ref T.cDraw, _, _, _, rfl, .own _, ty, T.iDraw_Draw, _, rfl, ifT rfl ?_⟩
        exact ⟨_, rfl, p, _, dx, _, _, rfl, hp, T.lDraw, T.nDraw_k, lk2 (by decide +kernel), "much", k, rfl, fun ok => hq (by simp [E1.bad, e1, ok]), fun no => hr2 _ (by simp [E1.bad, e1, no])⟩
      | pour a b =>
        have e1 : inJ caps.length a = true := ok1
        refine ifF rfl ⟨_, rfl, .ref p, .ref T.cDraw, _, _, _, rfl, .own _, ty, T.iPour_Draw, _, rfl, ifF rfl ?_⟩
        refine ⟨_, rfl, _, rfl, p, _, dx, _, _, rfl, hp, T.lPour, T.nPour_b, lk2 (by decide +kernel), j, caps, b, rfl, hJ, fun e2 => ?_, fun no => hr2 _ (by simp [E1.bad, e1, no])⟩
        refine ⟨_, rfl, p, _, dx, _, _, rfl, hp, T.lPour, T.nPour_a, lk1, _, rfl, p, _, dx, _, _, rfl, hp, T.lPour, T.nPour_b, lk2 (by decide +kernel), rfl, _, rfl, ifD (fun e => ?_) fun e => ?_⟩
        · injection e with e
          exact ⟨_, rfl, p, _, dx, _, _, rfl, hp, T.lPour, T.nPour_a, lk1, (by show 1 ≤ 1000; decide), x1_made (hr2 (.same a) (by simp [E1.bad, e1, e2, e]))⟩
        · have ne : ¬ a = b := fun z => e (congrArg V.int z)
          exact ⟨_, rfl, .ref p, .ref T.cChange, _, _, _, rfl, .own _, ty, T.iPour_Change, _, rfl, ifF rfl (ifF rfl (hq (by simp [E1.bad, e1, e2, ne])))⟩
      | change a b =>
        have e1 : inJ caps.length a = true := ok1
        refine ifF rfl ⟨_, rfl, .ref p, .ref T.cDraw, _, _, _, rfl, .own _, ty, T.iChange_Draw, _, rfl, ifF rfl ?_⟩
        refine ⟨_, rfl, _, rfl, p, _, dx, _, _, rfl, hp, T.lChange, T.nChange_b, lk2 (by decide +kernel), j, caps, b, rfl, hJ, fun e2 => ?_, fun no => hr2 _ (by simp [E1.bad, e1, no])⟩
        refine ⟨_, rfl, p, _, dx, _, _, rfl, hp, T.lChange, T.nChange_a, lk1, _, rfl, p, _, dx, _, _, rfl, hp, T.lChange, T.nChange_b, lk2 (by decide +kernel), rfl, _, rfl, ifD (fun e => ?_) fun e => ?_⟩
        · injection e with e
          exact ⟨_, rfl, p, _, dx, _, _, rfl, hp, T.lChange, T.nChange_a, lk1, (by show 1 ≤ 1000; decide), x1_made (hr2 (.same a) (by simp [E1.bad, e1, e2, e]))⟩
        · have ne : ¬ a = b := fun z => e (congrArg V.int z)
          obtain ⟨na, rfl, la⟩ := inJ_nat e1
          obtain ⟨nb, rfl, lb⟩ := inJ_nat e2
          obtain ⟨jx, t, j1, j2⟩ := id hJ
          refine ⟨_, rfl, .ref p, .ref T.cChange, _, _, _, rfl, .own _, ty, T.iChange_Change, _, rfl, ifT rfl ?_⟩
          refine ⟨_, rfl, j, _, jx, _, _, rfl, j1, T.lJars, T.nJars_sizes, lk1, _, rfl, p, _, dx, _, _, rfl, hp, T.lChange, T.nChange_a, lk1, t, _, _, _, rfl, rfl, SqT.of j2, vi_at la, ?_⟩
          refine ⟨_, rfl, j, _, jx, _, _, rfl, j1, T.lJars, T.nJars_sizes, lk1, _, rfl, p, _, dx, _, _, rfl, hp, T.lChange, T.nChange_b, lk2 (by decide +kernel), t, _, _, _, rfl, rfl, SqT.of j2, vi_at lb, ?_⟩
          refine ⟨rfl, _, rfl, ?_⟩
          by_cases s : caps.getD na 0 = caps.getD nb 0
          · exact iteNS (congrArg V.int s) (hq (by simp only [E1.bad, e1, e2, if_pos, if_neg ne, Int.toNat_natCast, s]))
          · refine (congrArg (fun c : Bool => if (!c) = true then _ else _) (decide_eq_false fun z => s (by injection z))).mpr ?_
            exact ifT rfl ⟨_, rfl, p, _, dx, _, _, rfl, hp, T.lChange, T.nChange_a, lk1, _, rfl, p, _, dx, _, _, rfl, hp, T.lChange, T.nChange_b, lk2 (by decide +kernel), (by show 2 ≤ 1000; decide), x2_made (hr2 (.sizes na nb) (by simp only [E1.bad, e1, e2, if_pos, if_neg ne, Int.toNat_natCast, if_neg s]))⟩
    · cases d <;> simp only [E1.fst] at no <;> simp [E1.bad, E1.fst, no]
theorem okJarsInit (T : Tx K mg) : FnOk P w K mg base CX0 4 T.aJarsInit T.dJarsInit ["self", "sizes"] (spJarsInit T) := by
  refine T.fJarsInit.ok scJarsInit (fun vs H Q E h => ?_) (fun cdv A outer s H vs Q E hr h => ?_)
  · obtain ⟨p, dx, a, caps, rfl, _⟩ := h
    rfl
  · obtain ⟨p, dx, a, caps, rfl, hp, hS, hC, hq⟩ := h
    have c1 := hC.l1
    have c6 := hC.l6
    refine ⟨_, (pss_cons (ps_if (pt_not (pt_chain op_le op_le pe_int (pe_callB call_len_seq rfl T.nlen PySem.boot_len (pa_cons (pv 1) pa_nil)) (pe_glob (v := .int 6) rfl T.cMOSTJARS ⟨_, rfl⟩))) (pss_one ps_never) pss_nil)
      (pss_cons (ps_for PassesOwn.never rfl (pi_list (pv 1)) (pg_name (i := 2) scJarsInit.nd rfl (by first | exact Or.inl rfl | exact Or.inr rfl)) (pss_one (ps_expr (pe_call (okcheckmuch T) (hr.mono (by decide)) rfl T.gcheckmuch T.fcheckmuch.kp T.bcheckmuch .nil passF (pa_cons pe_str (pa_cons (pv 2) pa_nil))))))
      (pss_one (ps_fld (pv 0) (pe_callTy call_tuple_of rfl T.ntuple (by decide +kernel) (pa_cons (pv 1) pa_nil)) rfl)))), ?_⟩
    refine ⟨_, rfl, a, _, rfl, .inl hS, 1, _, rfl, rfl, _, rfl, ifT (decide_eq_true (by rw [List.length_map]; omega)) ?_⟩
    refine ⟨_, _, rfl, rfl, _, rfl, iteNS (by rw [List.length_map]; omega) ?_⟩
    refine ⟨_, rfl, a, rfl, ⟨_, hS⟩, for_list (K := K) (a := a) (xs := vi caps) (fun i σ H' => ∃ v : Option V, σ = [some (.ref p), some (.ref a), v] ∧ H' = H) ⟨none, rfl, rfl⟩ (fun i σ H' _ ⟨_, _, e⟩ => by rw [e]; exact hS) ?_ ?_⟩
    · rintro i y σ H' hi ⟨v, rfl, rfl⟩
      obtain ⟨z, hz, rfl⟩ := vi_get hi
      have lt : i < caps.length := (List.getElem?_eq_some_iff.mp hz).1
      have ez := at0_of hz
      have z1 := hC.lo i lt
      have z2 := hC.hi i lt
      rw [ez] at z1 z2
      have okz : okN z = true := by unfold okN; rw [decide_eq_true z1, decide_eq_true z2]; rfl
      exact ⟨_, rfl, "size", z, rfl, fun _ => ⟨some (.int z), rfl, rfl⟩, fun no => by rw [okz] at no; cases no⟩
    · rintro σ H' ⟨v, rfl, rfl⟩
      refine ⟨_, rfl, a, _, rfl, .inl ⟨hS, fun t ht => ?_⟩⟩
      have n : p ≠ t := ne_of_none hp ht
      refine ⟨_, rfl, p, _, dx, _, rfl, (by rw [upd_ne n]; exact hp), T.lJars, T.nJars_sizes, (by show 0 < 1000; decide), ?_⟩
      refine hq _ ⟨dx, t, upd_same, by rw [upd_ne n.symm]; exact upd_same⟩ (fr_mut (fr_new (Fr.refl _ _) ht))
end
end Kp

namespace Kp
open PySem PySem.Spec PyProof.Rows L2 KpR
section
variable {K : PySem.W.Frag} {H : Hp}
theorem eq_tupsB {a b : Addr} {l m : List Int} {Q : VK} (h1 : SqT K H a (vi l)) (h2 : SqT K H b (vi m)) (q : Q (.bl (decide (l = m))) H) : rEqD K (.ref a) (.ref b) H Q := by
  have sh : ∀ l : List Int, SeqAt.shaped (.tuple (pdI l)) = true := fun l => by
    unfold SeqAt.shaped
    simp only [PyData.canLay0, PyData.depth, lay_i, dep_i]
    rfl
  refine ⟨_, _, .tup h1 (dpI l), .tup h2 (dpI m), sh l, sh m, ?_⟩
  have z : PyData.eqv (.tuple (pdI l)) (.tuple (pdI m)) = decide (l = m) := by simp only [PyData.eqv, eqv_i]
  rw [z]
  exact q
theorem alien_ty {C : Addr} {y : V} (h : Alien K C H y) (k1 : PySem.W.kitOne K (.type "NoneType") (.ref C) = some false) (k2 : PySem.W.kitOne K (.type "int") (.ref C) = some false) (k3 : PySem.W.kitOne K (.type "tuple") (.ref C) = some false)
    (k4 : PySem.W.kitOne K (.type "list") (.ref C) = some false) : ∃ t, TyX K H y t ∧ PySem.W.kitOne K t (.ref C) = some false := by
  cases h with
  | non _ => exact ⟨_, .base .non, k1⟩
  | int _ => exact ⟨_, .base (.int _), k2⟩
  | lst _ e => exact ⟨_, .base (.lst e), k4⟩
  | tup _ e => exact ⟨_, .base (.tup e), k3⟩
end
section
variable {K : PySem.W.Frag} {mg : Str → Option Value}
def RJars (T : Tx K mg) (a : Addr) (y : V) (b : Bool) (H : Hp) : Prop := ∃ caps, JarsAt T H a caps ∧ ((∃ c caps2, y = .ref c ∧ JarsAt T H c caps2 ∧ b = decide (caps = caps2)) ∨ (Alien K T.cJars H y ∧ b = false))
/-- a deed of one kind against a deed, or against what is none -/
def RDeed (T : Tx K mg) (C : Addr) (k : E1 → Bool) (a : Addr) (y : V) (b : Bool) (H : Hp) : Prop := ∃ d, k d = true ∧ DeedAt T H (.ref a) d ∧ ((∃ d2, DeedAt T H y d2 ∧ b = decide (d = d2)) ∨ (Alien K C H y ∧ b = false))
def spJarsEq (T : Tx K mg) : Sp := spEqB (RJars T)
end
section
variable {P : Program} {w : World} {K : PySem.W.Frag} {mg : Str → Option Value} {base : Heap}
theorem okJarsEq (T : Tx K mg) : FnOk P w K mg base CX0 1 T.aJarsEq T.dJarsEq ["self", "other"] (spJarsEq T) := by
  refine T.fJarsEq.ok scJarsEq (fun vs H Q E h => ?_) (fun cdv A outer s H vs Q E hr h => ?_)
  · obtain ⟨a, y, b, rfl, _⟩ := h
    rfl
  · obtain ⟨a, y, b, rfl, ⟨caps, ⟨dx, t, h1, h2⟩, hc⟩, hq⟩ := h
    refine ⟨_, (pss_one (ps_ret (pe_and (pe_callB call_isi rfl T.nisinstance (by decide +kernel) (pa_cons (pv 1) (pa_cons (pe_glob (v := .ref T.cJars) rfl T.mJars rfl) pa_nil))) (pe_one (pe_cmpR (r := rEqD K) (op_eqD hr.units) (pe_fld (pv 0) rfl) (pe_fld (pv 1) rfl) (nomark _)))))), ?_⟩
    rcases hc with ⟨c, caps2, rfl, ⟨dy, u, g1, g2⟩, rfl⟩ | ⟨al, rfl⟩
    · refine ⟨_, rfl, .ref c, .ref T.cJars, _, _, true, rfl, .own _, .base (.ins g1 T.lJars T.yJars.ha T.yJars.hn T.yJars.ht T.yJars.hm), T.iJars_Jars, _, rfl, ifT rfl ?_⟩
      exact ⟨_, rfl, a, _, dx, _, _, rfl, h1, T.lJars, T.nJars_sizes, lk1, _, rfl, c, _, dy, _, _, rfl, g1, T.lJars, T.nJars_sizes, lk1, eq_tupsB (SqT.of h2) (SqT.of g2) (hq _ Ext.rfl')⟩
    · obtain ⟨ty, tx, kx⟩ := alien_ty al T.ikJars_NoneType T.ikJars_int T.ikJars_tuple T.ikJars_list
      exact ⟨_, rfl, y, .ref T.cJars, _, _, false, rfl, .own _, tx, kx, _, rfl, ifF rfl (hq _ Ext.rfl')⟩
def spPourEq (T : Tx K mg) : Sp := spEqB (RDeed T T.cPour E1.isPour)
theorem okPourEq (T : Tx K mg) : FnOk P w K mg base CX0 1 T.aPourEq T.dPourEq ["self", "other"] (spPourEq T) := by
  refine T.fPourEq.ok scPourEq (fun vs H Q E h => ?_) (fun cdv A outer s H vs Q E hr h => ?_)
  · obtain ⟨a, y, b, rfl, _⟩ := h
    rfl
  · obtain ⟨a, y, b, rfl, ⟨d, k, ⟨p, dx, e1, h1⟩, hc⟩, hq⟩ := h
    cases e1
    refine ⟨_, (pss_one (ps_ret (pe_and (pe_callB call_isi rfl T.nisinstance (by decide +kernel) (pa_cons (pv 1) (pa_cons (pe_glob (v := .ref T.cPour) rfl T.mPour rfl) pa_nil))) (pe_and (pe_cmpR op_eq (pe_fld (pv 0) rfl) (pe_fld (pv 1) rfl) (nomark _)) (pe_one (pe_cmpR op_eq (pe_fld (pv 0) rfl) (pe_fld (pv 1) rfl) (nomark _))))))), ?_⟩
    cases d with
    | pour x1 x2 =>
      rcases hc with ⟨d2, hd2, rfl⟩ | ⟨al, rfl⟩
      · obtain ⟨q, dy, rfl, g1⟩ := deed_at hd2
        refine ⟨_, rfl, .ref q, .ref T.cPour, _, _, _, rfl, .own _, ty_deed g1, is_pour T d2, _, rfl, ?_⟩
        cases d2 with
        | pour z1 z2 =>
          refine ifT rfl ⟨_, rfl, a, _, dx, _, _, rfl, h1, T.lPour, T.nPour_a, lk1, _, rfl, q, _, dy, _, _, rfl, g1, T.lPour, T.nPour_a, lk1, rfl, _, rfl, ifD (fun e => ?_) fun e => ?_⟩
          · refine ⟨_, rfl, a, _, dx, _, _, rfl, h1, T.lPour, T.nPour_b, lk2 (by decide +kernel), _, rfl, q, _, dy, _, _, rfl, g1, T.lPour, T.nPour_b, lk2 (by decide +kernel), rfl, ?_⟩
            refine (congrArg (fun c => Q (V.bl c) H) (decide_eq_decide.mpr ?_)).mpr (hq _ Ext.rfl')
            injection e with e
            have e := e
            simp
            omega
          · refine (congrArg (fun c => Q (V.bl c) H) (decide_eq_false fun z => ?_).symm).mpr (hq _ Ext.rfl')
            injection z with z1 z2
            subst z1
            exact e rfl
        | put _ _ => exact ifF rfl (hq _ Ext.rfl')
        | draw _ _ => exact ifF rfl (hq _ Ext.rfl')
        | change _ _ => exact ifF rfl (hq _ Ext.rfl')
      · obtain ⟨ty, tx, kx⟩ := alien_ty al T.ikPour_NoneType T.ikPour_int T.ikPour_tuple T.ikPour_list
        exact ⟨_, rfl, y, .ref T.cPour, _, _, false, rfl, .own _, tx, kx, _, rfl, ifF rfl (hq _ Ext.rfl')⟩
    | put _ _ => cases k
    | draw _ _ => cases k
    | change _ _ => cases k
def spPutEq (T : Tx K mg) : Sp := spEqB (RDeed T T.cPut E1.isPut)
theorem okPutEq (T : Tx K mg) : FnOk P w K mg base CX0 1 T.aPutEq T.dPutEq ["self", "other"] (spPutEq T) := by
  refine T.fPutEq.ok scPutEq (fun vs H Q E h => ?_) (fun cdv A outer s H vs Q E hr h => ?_)
  · obtain ⟨a, y, b, rfl, _⟩ := h
    rfl
  · obtain ⟨a, y, b, rfl, ⟨d, k, ⟨p, dx, e1, h1⟩, hc⟩, hq⟩ := h
    cases e1
    refine ⟨_, (pss_one (ps_ret (pe_and (pe_callB call_isi rfl T.nisinstance (by decide +kernel) (pa_cons (pv 1) (pa_cons (pe_glob (v := .ref T.cPut) rfl T.mPut rfl) pa_nil))) (pe_and (pe_cmpR op_eq (pe_fld (pv 0) rfl) (pe_fld (pv 1) rfl) (nomark _)) (pe_one (pe_cmpR op_eq (pe_fld (pv 0) rfl) (pe_fld (pv 1) rfl) (nomark _))))))), ?_⟩
    cases d with
    | put x1 x2 =>
      rcases hc with ⟨d2, hd2, rfl⟩ | ⟨al, rfl⟩
      · obtain ⟨q, dy, rfl, g1⟩ := deed_at hd2
        refine ⟨_, rfl, .ref q, .ref T.cPut, _, _, _, rfl, .own _, ty_deed g1, is_put T d2, _, rfl, ?_⟩
        cases d2 with
        | put z1 z2 =>
          refine ifT rfl ⟨_, rfl, a, _, dx, _, _, rfl, h1, T.lPut, T.nPut_a, lk1, _, rfl, q, _, dy, _, _, rfl, g1, T.lPut, T.nPut_a, lk1, rfl, _, rfl, ifD (fun e => ?_) fun e => ?_⟩
          · refine ⟨_, rfl, a, _, dx, _, _, rfl, h1, T.lPut, T.nPut_k, lk2 (by decide +kernel), _, rfl, q, _, dy, _, _, rfl, g1, T.lPut, T.nPut_k, lk2 (by decide +kernel), rfl, ?_⟩
            refine (congrArg (fun c => Q (V.bl c) H) (decide_eq_decide.mpr ?_)).mpr (hq _ Ext.rfl')
            injection e with e
            have e := e
            simp
            omega
          · refine (congrArg (fun c => Q (V.bl c) H) (decide_eq_false fun z => ?_).symm).mpr (hq _ Ext.rfl')
            injection z with z1 z2
            subst z1
            exact e rfl
        | pour _ _ => exact ifF rfl (hq _ Ext.rfl')
        | draw _ _ => exact ifF rfl (hq _ Ext.rfl')
        | change _ _ => exact ifF rfl (hq _ Ext.rfl')
      · obtain ⟨ty, tx, kx⟩ := alien_ty al T.ikPut_NoneType T.ikPut_int T.ikPut_tuple T.ikPut_list
        exact ⟨_, rfl, y, .ref T.cPut, _, _, false, rfl, .own _, tx, kx, _, rfl, ifF rfl (hq _ Ext.rfl')⟩
    | pour _ _ => cases k
    | draw _ _ => cases k
    | change _ _ => cases k
def spDrawEq (T : Tx K mg) : Sp := spEqB (RDeed T T.cDraw E1.isDraw)
theorem okDrawEq (T : Tx K mg) : FnOk P w K mg base CX0 1 T.aDrawEq T.dDrawEq ["self", "other"] (spDrawEq T) := by
  refine T.fDrawEq.ok scDrawEq (fun vs H Q E h => ?_) (fun cdv A outer s H vs Q E hr h => ?_)
  · obtain ⟨a, y, b, rfl, _⟩ := h
    rfl
  · obtain ⟨a, y, b, rfl, ⟨d, k, ⟨p, dx, e1, h1⟩, hc⟩, hq⟩ := h
    cases e1
    refine ⟨_, (pss_one (ps_ret (pe_and (pe_callB call_isi rfl T.nisinstance (by decide +kernel) (pa_cons (pv 1) (pa_cons (pe_glob (v := .ref T.cDraw) rfl T.mDraw rfl) pa_nil))) (pe_and (pe_cmpR op_eq (pe_fld (pv 0) rfl) (pe_fld (pv 1) rfl) (nomark _)) (pe_one (pe_cmpR op_eq (pe_fld (pv 0) rfl) (pe_fld (pv 1) rfl) (nomark _))))))), ?_⟩
    cases d with
    | draw x1 x2 =>
      rcases hc with ⟨d2, hd2, rfl⟩ | ⟨al, rfl⟩
      · obtain ⟨q, dy, rfl, g1⟩ := deed_at hd2
        refine ⟨_, rfl, .ref q, .ref T.cDraw, _, _, _, rfl, .own _, ty_deed g1, is_draw T d2, _, rfl, ?_⟩
        cases d2 with
        | draw z1 z2 =>
          refine ifT rfl ⟨_, rfl, a, _, dx, _, _, rfl, h1, T.lDraw, T.nDraw_a, lk1, _, rfl, q, _, dy, _, _, rfl, g1, T.lDraw, T.nDraw_a, lk1, rfl, _, rfl, ifD (fun e => ?_) fun e => ?_⟩
          · refine ⟨_, rfl, a, _, dx, _, _, rfl, h1, T.lDraw, T.nDraw_k, lk2 (by decide +kernel), _, rfl, q, _, dy, _, _, rfl, g1, T.lDraw, T.nDraw_k, lk2 (by decide +kernel), rfl, ?_⟩
            refine (congrArg (fun c => Q (V.bl c) H) (decide_eq_decide.mpr ?_)).mpr (hq _ Ext.rfl')
            injection e with e
            have e := e
            simp
            omega
          · refine (congrArg (fun c => Q (V.bl c) H) (decide_eq_false fun z => ?_).symm).mpr (hq _ Ext.rfl')
            injection z with z1 z2
            subst z1
            exact e rfl
        | pour _ _ => exact ifF rfl (hq _ Ext.rfl')
        | put _ _ => exact ifF rfl (hq _ Ext.rfl')
        | change _ _ => exact ifF rfl (hq _ Ext.rfl')
      · obtain ⟨ty, tx, kx⟩ := alien_ty al T.ikDraw_NoneType T.ikDraw_int T.ikDraw_tuple T.ikDraw_list
        exact ⟨_, rfl, y, .ref T.cDraw, _, _, false, rfl, .own _, tx, kx, _, rfl, ifF rfl (hq _ Ext.rfl')⟩
    | pour _ _ => cases k
    | put _ _ => cases k
    | change _ _ => cases k
def spChangeEq (T : Tx K mg) : Sp := spEqB (RDeed T T.cChange E1.isChange)
theorem okChangeEq (T : Tx K mg) : FnOk P w K mg base CX0 1 T.aChangeEq T.dChangeEq ["self", "other"] (spChangeEq T) := by
  refine T.fChangeEq.ok scChangeEq (fun vs H Q E h => ?_) (fun cdv A outer s H vs Q E hr h => ?_)
  · obtain ⟨a, y, b, rfl, _⟩ := h
    rfl
  · obtain ⟨a, y, b, rfl, ⟨d, k, ⟨p, dx, e1, h1⟩, hc⟩, hq⟩ := h
    cases e1
    refine ⟨_, (pss_one (ps_ret (pe_and (pe_callB call_isi rfl T.nisinstance (by decide +kernel) (pa_cons (pv 1) (pa_cons (pe_glob (v := .ref T.cChange) rfl T.mChange rfl) pa_nil))) (pe_and (pe_cmpR op_eq (pe_fld (pv 0) rfl) (pe_fld (pv 1) rfl) (nomark _)) (pe_one (pe_cmpR op_eq (pe_fld (pv 0) rfl) (pe_fld (pv 1) rfl) (nomark _))))))), ?_⟩
    cases d with
    | change x1 x2 =>
      rcases hc with ⟨d2, hd2, rfl⟩ | ⟨al, rfl⟩
      · obtain ⟨q, dy, rfl, g1⟩ := deed_at hd2
        refine ⟨_, rfl, .ref q, .ref T.cChange, _, _, _, rfl, .own _, ty_deed g1, is_change T d2, _, rfl, ?_⟩
        cases d2 with
        | change z1 z2 =>
          refine ifT rfl ⟨_, rfl, a, _, dx, _, _, rfl, h1, T.lChange, T.nChange_a, lk1, _, rfl, q, _, dy, _, _, rfl, g1, T.lChange, T.nChange_a, lk1, rfl, _, rfl, ifD (fun e => ?_) fun e => ?_⟩
          · refine ⟨_, rfl, a, _, dx, _, _, rfl, h1, T.lChange, T.nChange_b, lk2 (by decide +kernel), _, rfl, q, _, dy, _, _, rfl, g1, T.lChange, T.nChange_b, lk2 (by decide +kernel), rfl, ?_⟩
            refine (congrArg (fun c => Q (V.bl c) H) (decide_eq_decide.mpr ?_)).mpr (hq _ Ext.rfl')
            injection e with e
            have e := e
            simp
            omega
          · refine (congrArg (fun c => Q (V.bl c) H) (decide_eq_false fun z => ?_).symm).mpr (hq _ Ext.rfl')
            injection z with z1 z2
            subst z1
            exact e rfl
        | pour _ _ => exact ifF rfl (hq _ Ext.rfl')
        | put _ _ => exact ifF rfl (hq _ Ext.rfl')
        | draw _ _ => exact ifF rfl (hq _ Ext.rfl')
      · obtain ⟨ty, tx, kx⟩ := alien_ty al T.ikChange_NoneType T.ikChange_int T.ikChange_tuple T.ikChange_list
        exact ⟨_, rfl, y, .ref T.cChange, _, _, false, rfl, .own _, tx, kx, _, rfl, ifF rfl (hq _ Ext.rfl')⟩
    | pour _ _ => cases k
    | put _ _ => cases k
    | draw _ _ => cases k
end
end Kp

namespace Kp
open PySem PySem.Spec PyProof.Rows L2 KpR
/-! ### ==, != and in of instances -/
theorem nf_self {K : PySem.W.Frag} {C : Addr} : PySem.W.notFirst K C (.ref C) = true := by simp [PySem.W.notFirst]
section
variable {X : Cx} {K : PySem.W.Frag} {mg : Str → Option Value}
def Al3 (H : Hp) (z : V) : Prop := z = .non ∨ (∃ i, z = .int i) ∨ ∃ a xs, z = .ref a ∧ H a = some (.tup xs)
theorem Al3.ext {H H' : Hp} {z : V} (e : Ext H H') (h : Al3 H z) : Al3 H' z := h.elim .inl fun h => h.elim (fun h => .inr (.inl h)) fun ⟨a, xs, q, r⟩ => .inr (.inr ⟨a, xs, q, e _ _ r⟩)
theorem Al3.alien {C : Addr} {H : Hp} {z : V} (h : Al3 H z) (h1 : PySem.W.subIn K (.ref C) (.type "NoneType") = some false) (h2 : PySem.W.subIn K (.ref C) (.type "int") = some false) (h3 : PySem.W.subIn K (.ref C) (.type "tuple") = some false) : Alien K C H z := by
  rcases h with rfl | ⟨i, rfl⟩ | ⟨a, xs, rfl, e⟩
  · exact .non h1
  · exact .int h2
  · exact .tup h3 e
theorem beh_refs {C : Addr} {R : Addr → V → Bool → Hp → Prop} {x y : V} {b : Bool} {H : Hp} (h : DBehB K C R x y b H) : (∃ c, x = .ref c ∧ ∃ a, y = .ref a ∧ (c = a → b = true)) ∨ ((x = .non ∨ ∃ i, x = .int i) ∧ ∃ a, y = .ref a) := by
  obtain ⟨a, dx, fs, rfl, ha, al, _⟩ := h
  cases al with
  | non _ => exact .inr ⟨.inl rfl, a, rfl⟩
  | int _ => exact .inr ⟨.inr ⟨_, rfl⟩, a, rfl⟩
  | tup _ e => exact .inl ⟨_, rfl, a, rfl, fun z => by rw [z, ha] at e; cases e⟩
  | lst _ e => exact .inl ⟨_, rfl, a, rfl, fun z => by rw [z, ha] at e; cases e⟩
theorem opEqJars (T : Tx K mg) (hr : Room 1 X.A) (hK : X.K = K := by rfl) (hm : X.mg = mg := by rfl) : OpR X (compareOp .Eq) (rEqB (DInsB K T.cJars (RJars T))) := by
  subst hK
  subst hm
  exact op_eqB (rcB_ins (E := E0) ⟨T.eJarsEq, T.eiJarsEq⟩ (okJarsEq T) T.bJarsEq pass0) hr
theorem opNeJars (T : Tx K mg) (hr : Room 2 X.A) (hK : X.K = K := by rfl) (hm : X.mg = mg := by rfl) : OpR X (compareOp .NotEq) (rNeK T.cJars (RJars T)) := by
  subst hK
  subst hm
  exact op_neK (E := E0) (okJarsEq T) T.neJars T.bJarsEq pass0 hr
theorem opInJars (T : Tx K mg) (hr : Room 2 X.A) (hK : X.K = K := by rfl) (hm : X.mg = mg := by rfl) : OpR X (compareOp .In) (rOutB (DBehB K T.cJars (RJars T))) := by
  subst hK
  subst hm
  exact op_outB (n := 1) ((rcB_beh (E := E0) ⟨T.eJarsEq, T.eiJarsEq⟩ (okJarsEq T) T.bJarsEq pass0).eqB fun _ _ _ _ h => beh_refs h) hr
theorem eqJars {T : Tx K mg} {H : Hp} {a b : Addr} {l m : List Int} {Q : VK} (h1 : JarsAt T H a l) (h2 : JarsAt T H b m) (q : ∀ H', Ext H H' → Q (.bl (decide (l = m))) H') : rEqB (DInsB K T.cJars (RJars T)) (.ref a) (.ref b) H Q := by
  obtain ⟨dx, t, e1, _⟩ := id h1
  obtain ⟨dy, u, g1, _⟩ := id h2
  exact ⟨_, ⟨a, b, T.cJars, dx, dy, _, _, rfl, rfl, e1, g1, nf_self, l, h1, .inl ⟨b, m, rfl, h2, rfl⟩⟩, q⟩
theorem neJars {T : Tx K mg} {H : Hp} {a b : Addr} {l : List Int} {Q : VK} (h1 : JarsAt T H a l) (h2 : JarsAt T H b l) (q : ∀ H', Ext H H' → Q (.bl false) H') : rNeK T.cJars (RJars T) (.ref a) (.ref b) H Q := by
  obtain ⟨dx, t, e1, _⟩ := id h1
  obtain ⟨dy, u, g1, _⟩ := id h2
  exact ⟨a, b, true, dx, dy, _, _, rfl, rfl, e1, g1, ⟨l, h1, .inl ⟨b, l, rfl, h2, (decide_eq_true rfl).symm⟩⟩, q⟩
theorem outJars {T : Tx K mg} {H : Hp} {a l : Addr} {caps : List Int} {ys : List V} {Q : VK} (h1 : JarsAt T H a caps) (hl : H l = some (.lst ys)) (hy : ∀ z ∈ ys, Al3 H z) (q : ∀ H', Ext H H' → Q (.bl false) H') : rOutB (DBehB K T.cJars (RJars T)) (.ref a) (.ref l) H Q := by
  refine ⟨l, ys, rfl, fun H' e => e _ _ hl, fun z hz H' e => ?_, q⟩
  obtain ⟨dx, t, e1, e2⟩ := id h1
  have al : Alien K T.cJars H' z := ((hy z hz).ext e).alien T.alJars_NoneType T.alJars_int T.alJars_tuple
  exact ⟨a, dx, _, rfl, e _ _ e1, al, caps, ⟨dx, t, e _ _ e1, e _ _ e2⟩, .inr ⟨al, rfl⟩⟩
/-! deeds -/
def QDeedB (T : Tx K mg) : EqvB := fun x y b H => DInsB K T.cPour (RDeed T T.cPour E1.isPour) x y b H ∨ DInsB K T.cPut (RDeed T T.cPut E1.isPut) x y b H ∨ DInsB K T.cDraw (RDeed T T.cDraw E1.isDraw) x y b H ∨ DInsB K T.cChange (RDeed T T.cChange E1.isChange) x y b H
def QBehD (T : Tx K mg) : EqvB := fun x y b H => DBehB K T.cPour (RDeed T T.cPour E1.isPour) x y b H ∨ DBehB K T.cPut (RDeed T T.cPut E1.isPut) x y b H ∨ DBehB K T.cDraw (RDeed T T.cDraw E1.isDraw) x y b H ∨ DBehB K T.cChange (RDeed T T.cChange E1.isChange) x y b H
def rNeQ4 (T : Tx K mg) : R2 := fun x y H Q => rNeK T.cPour (RDeed T T.cPour E1.isPour) x y H Q ∨ rNeK T.cPut (RDeed T T.cPut E1.isPut) x y H Q ∨ rNeK T.cDraw (RDeed T T.cDraw E1.isDraw) x y H Q ∨ rNeK T.cChange (RDeed T T.cChange E1.isChange) x y H Q
theorem opEqDeeds (T : Tx K mg) (hr : Room 1 X.A) (hK : X.K = K := by rfl) (hm : X.mg = mg := by rfl) : OpR X (compareOp .Eq) (rEqB (QDeedB T)) := by
  subst hK
  subst hm
  exact op_eqB (n := 1) (RcB.or (rcB_ins (E := E0) ⟨T.ePourEq, T.eiPourEq⟩ (okPourEq T) T.bPourEq pass0) (RcB.or  (rcB_ins (E := E0) ⟨T.ePutEq, T.eiPutEq⟩ (okPutEq T) T.bPutEq pass0) (RcB.or  (rcB_ins (E := E0) ⟨T.eDrawEq, T.eiDrawEq⟩ (okDrawEq T) T.bDrawEq pass0) (rcB_ins (E := E0) ⟨T.eChangeEq, T.eiChangeEq⟩ (okChangeEq T) T.bChangeEq pass0)))) hr
theorem opNeDeeds (T : Tx K mg) (hr : Room 2 X.A) (hK : X.K = K := by rfl) (hm : X.mg = mg := by rfl) : OpR X (compareOp .NotEq) (rNeQ4 T) := by
  subst hK
  subst hm
  exact OpR.or (op_neK (E := E0) (okPourEq T) T.nePour T.bPourEq pass0 hr) (OpR.or (op_neK (E := E0) (okPutEq T) T.nePut T.bPutEq pass0 hr) (OpR.or (op_neK (E := E0) (okDrawEq T) T.neDraw T.bDrawEq pass0 hr) (op_neK (E := E0) (okChangeEq T) T.neChange T.bChangeEq pass0 hr)))
theorem opInDeeds (T : Tx K mg) (hr : Room 2 X.A) (hK : X.K = K := by rfl) (hm : X.mg = mg := by rfl) : OpR X (compareOp .In) (rOutB (QBehD T)) := by
  subst hK
  subst hm
  refine op_outB (n := 1) (RcB.eqB (RcB.or (rcB_beh (E := E0) ⟨T.ePourEq, T.eiPourEq⟩ (okPourEq T) T.bPourEq pass0) (RcB.or  (rcB_beh (E := E0) ⟨T.ePutEq, T.eiPutEq⟩ (okPutEq T) T.bPutEq pass0) (RcB.or  (rcB_beh (E := E0) ⟨T.eDrawEq, T.eiDrawEq⟩ (okDrawEq T) T.bDrawEq pass0) (rcB_beh (E := E0) ⟨T.eChangeEq, T.eiChangeEq⟩ (okChangeEq T) T.bChangeEq pass0)))) fun _ _ _ _ h => ?_) hr
  rcases h with h | h | h | h <;> exact beh_refs h
theorem eqDeeds {T : Tx K mg} {H : Hp} {u v : V} {d e : E1} {Q : VK} (h1 : DeedAt T H u d) (h2 : DeedAt T H v e) (q : ∀ H', Ext H H' → Q (.bl (decide (d = e))) H') : rEqB (QDeedB T) u v H Q := by
  obtain ⟨p, dx, rfl, e1⟩ := deed_at h1
  obtain ⟨r, dy, rfl, g1⟩ := deed_at h2
  refine ⟨_, ?_, q⟩
  cases d with
  | pour _ _ =>
    have nf : PySem.W.notFirst K T.cPour (.ref (e.cls T)) = true := by
      cases e
      · exact nf_self
      · exact T.nfPour_Put
      · exact T.nfPour_Draw
      · exact T.nfPour_Change
    exact .inl (⟨p, r, _, dx, dy, _, _, rfl, rfl, e1, g1, nf, _, rfl, h1, .inl ⟨e, h2, rfl⟩⟩)
  | put _ _ =>
    have nf : PySem.W.notFirst K T.cPut (.ref (e.cls T)) = true := by
      cases e
      · exact T.nfPut_Pour
      · exact nf_self
      · exact T.nfPut_Draw
      · exact T.nfPut_Change
    exact .inr (.inl (⟨p, r, _, dx, dy, _, _, rfl, rfl, e1, g1, nf, _, rfl, h1, .inl ⟨e, h2, rfl⟩⟩))
  | draw _ _ =>
    have nf : PySem.W.notFirst K T.cDraw (.ref (e.cls T)) = true := by
      cases e
      · exact T.nfDraw_Pour
      · exact T.nfDraw_Put
      · exact nf_self
      · exact T.nfDraw_Change
    exact .inr (.inr (.inl (⟨p, r, _, dx, dy, _, _, rfl, rfl, e1, g1, nf, _, rfl, h1, .inl ⟨e, h2, rfl⟩⟩)))
  | change _ _ =>
    have nf : PySem.W.notFirst K T.cChange (.ref (e.cls T)) = true := by
      cases e
      · exact T.nfChange_Pour
      · exact T.nfChange_Put
      · exact T.nfChange_Draw
      · exact nf_self
    exact .inr (.inr (.inr (⟨p, r, _, dx, dy, _, _, rfl, rfl, e1, g1, nf, _, rfl, h1, .inl ⟨e, h2, rfl⟩⟩)))
theorem neDeeds {T : Tx K mg} {H : Hp} {u v : V} {d : E1} {Q : VK} (h1 : DeedAt T H u d) (h2 : DeedAt T H v d) (q : ∀ H', Ext H H' → Q (.bl false) H') : rNeQ4 T u v H Q := by
  obtain ⟨p, dx, rfl, e1⟩ := deed_at h1
  obtain ⟨r, dy, rfl, g1⟩ := deed_at h2
  cases d with
  | pour _ _ => exact .inl (⟨p, r, true, dx, dy, _, _, rfl, rfl, e1, g1, ⟨_, rfl, h1, .inl ⟨_, h2, (decide_eq_true rfl).symm⟩⟩, q⟩)
  | put _ _ => exact .inr (.inl (⟨p, r, true, dx, dy, _, _, rfl, rfl, e1, g1, ⟨_, rfl, h1, .inl ⟨_, h2, (decide_eq_true rfl).symm⟩⟩, q⟩))
  | draw _ _ => exact .inr (.inr (.inl (⟨p, r, true, dx, dy, _, _, rfl, rfl, e1, g1, ⟨_, rfl, h1, .inl ⟨_, h2, (decide_eq_true rfl).symm⟩⟩, q⟩)))
  | change _ _ => exact .inr (.inr (.inr (⟨p, r, true, dx, dy, _, _, rfl, rfl, e1, g1, ⟨_, rfl, h1, .inl ⟨_, h2, (decide_eq_true rfl).symm⟩⟩, q⟩)))
theorem DeedAt.ext {T : Tx K mg} {H H' : Hp} {v : V} {d : E1} (e : Ext H H') (h : DeedAt T H v d) : DeedAt T H' v d := h.same fun b o q => e b o q
theorem outDeeds {T : Tx K mg} {H : Hp} {u : V} {d : E1} {l : Addr} {ys : List V} {Q : VK} (h1 : DeedAt T H u d) (hl : H l = some (.lst ys)) (hy : ∀ z ∈ ys, Al3 H z) (q : ∀ H', Ext H H' → Q (.bl false) H') : rOutB (QBehD T) u (.ref l) H Q := by
  refine ⟨l, ys, rfl, fun H' e => e _ _ hl, fun z hz H' e => ?_, q⟩
  have h2 := h1.ext e
  have a3 := (hy z hz).ext e
  obtain ⟨p, dx, rfl, e1⟩ := deed_at h2
  cases d with
  | pour _ _ =>
    have al : Alien K T.cPour H' z := a3.alien T.alPour_NoneType T.alPour_int T.alPour_tuple
    exact .inl (⟨p, dx, _, rfl, e1, al, _, rfl, h2, .inr ⟨al, rfl⟩⟩)
  | put _ _ =>
    have al : Alien K T.cPut H' z := a3.alien T.alPut_NoneType T.alPut_int T.alPut_tuple
    exact .inr (.inl (⟨p, dx, _, rfl, e1, al, _, rfl, h2, .inr ⟨al, rfl⟩⟩))
  | draw _ _ =>
    have al : Alien K T.cDraw H' z := a3.alien T.alDraw_NoneType T.alDraw_int T.alDraw_tuple
    exact .inr (.inr (.inl (⟨p, dx, _, rfl, e1, al, _, rfl, h2, .inr ⟨al, rfl⟩⟩)))
  | change _ _ =>
    have al : Alien K T.cChange H' z := a3.alien T.alChange_NoneType T.alChange_int T.alChange_tuple
    exact .inr (.inr (.inr (⟨p, dx, _, rfl, e1, al, _, rfl, h2, .inr ⟨al, rfl⟩⟩)))
end
end Kp

namespace Kp
open PySem PySem.Spec PyProof.Rows L2 KpR
theorem firstBad_app {caps : List Int} : ∀ l m : List E1, firstBad caps l = none → firstBad caps (l ++ m) = firstBad caps m
  | [], m, _ => rfl
  | d :: l, m, h => by
    simp only [firstBad, List.cons_append] at h ⊢
    cases c : d.bad caps with
    | some x => rw [c] at h; cases h
    | none =>
      rw [c] at h
      exact firstBad_app l m h
theorem firstBad_take {caps : List Int} {l : List E1} {i : Nat} {d : E1} (h : firstBad caps (l.take i) = none) (hd : l[i]? = some d) : (d.bad caps = none → firstBad caps (l.take (i + 1)) = none) ∧ ∀ r, d.bad caps = some r → firstBad caps l = some r := by
  refine ⟨fun k => ?_, fun r k => ?_⟩
  · rw [List.take_add_one, hd, firstBad_app _ _ h]
    simp [firstBad, k]
  · obtain ⟨lt, q⟩ := List.getElem?_eq_some_iff.mp hd
    have e2 : l = l.take i ++ d :: l.drop (i + 1) := by rw [← q, ← List.drop_eq_getElem_cons lt, List.take_append_drop]
    rw [e2, firstBad_app _ _ h]
    simp [firstBad, k]
section
variable {K : PySem.W.Frag} {mg : Str → Option Value}
def RowAt (T : Tx K mg) (H : Hp) (r : Addr) (caps : List Int) (ds : List E1) : Prop := ∃ dx j t vs, H r = some (.ins T.cRow dx (f2s "jars" (.ref j) "deeds" (.ref t))) ∧ JarsAt T H j caps ∧ H t = some (.tup vs) ∧ A2 (DeedAt T H) vs ds
def spRowOf (T : Tx K mg) (S : Hp → Addr → List V → Prop) : Sp := fun vs H Q E => ∃ (p dx j a : Addr) (caps : List Int) (us : List V) (ds : List E1), vs = [.ref p, .ref j, .ref a] ∧ H p = some (.ins T.cRow dx []) ∧ JarsAt T H j caps ∧ S H a us ∧ A2 (DeedAt T H) us ds ∧ ds.length ≤ 1000 ∧
  (ds.length > 20 → rE T H E (.count "deeds" ds.length)) ∧ (ds.length ≤ 20 → ∀ r, firstBad caps ds = some r → rE T H E r) ∧ (ds.length ≤ 20 → firstBad caps ds = none → ∀ H', RowAt T H' p caps ds → Fr p H H' → Q .non H')
def spRowL (T : Tx K mg) : Sp := spRowOf T fun H a us => H a = some (.lst us)
def spRowT (T : Tx K mg) : Sp := spRowOf T fun H a us => H a = some (.tup us)
def spRowInit (T : Tx K mg) : Sp := spRowOf T fun H a us => H a = some (.lst us) ∨ H a = some (.tup us)
end
section
variable {P : Program} {w : World} {K : PySem.W.Frag} {mg : Str → Option Value} {base : Heap}
theorem FnOk.or {CX : CXT} {k : Nat} {f : Addr} {fd : FuncData} {ps : List Str} {s1 s2 s3 : Sp} (F : FnOk P w K mg base CX k f fd ps s1) (G : FnOk P w K mg base CX k f fd ps s2) (h : ∀ vs H Q E, s3 vs H Q E → s1 vs H Q E ∨ s2 vs H Q E) : FnOk P w K mg base CX k f fd ps s3 :=
  ⟨fun vs H Q E q => (h _ _ _ _ q).elim (F.len vs H Q E) (G.len vs H Q E), fun A outer s H args us vs Q E hr he hb hv hs => (h _ _ _ _ hs).elim (F.run A outer s H args us vs Q E hr he hb hv) (G.run A outer s H args us vs Q E hr he hb hv)⟩
theorem okRowL (T : Tx K mg) : FnOk P w K mg base (L2.CX P w) 5 T.aRowInit T.dRowInit ["self", "jars", "deeds"] (spRowL T) := by
  refine T.fRowInit.okX scRowInit (fun vs H Q E h => ?_) (fun cdv A outer s H vs Q E hr h => ?_)
  · obtain ⟨p, dx, j, a, caps, us, ds, rfl, _⟩ := h
    rfl
  · obtain ⟨p, dx, j, a, caps, us, ds, rfl, hp, hJ, hS, hA, hz, h1, h2, hq⟩ := h
    refine ⟨_, (pss_cons (ps_if (pt_cmpR op_gt (pe_callB call_len_seq rfl T.nlen PySem.boot_len (pa_cons (pv 2) pa_nil)) (pe_glob (v := .int 20) rfl T.cMOSTDEEDS ⟨_, rfl⟩) (nomark _)) (pss_one (ps_raise rfl (takes_of rfl rfl rfl rfl) (pmk_oex T.oBadCount T.iBadCount T.tBadCount (okBadCountInit T) (hr.mono (by decide)) T.bBadCountInit .nil pass0 rfl T.mBadCount (pa_cons pe_str (pa_cons (pe_callB call_len_seq rfl T.nlen PySem.boot_len (pa_cons (pv 2) pa_nil)) pa_nil))))) pss_nil)
      (pss_cons (ps_for (passes_of rfl) rfl (pi_list (pv 2)) (pg_name (i := 3) scRowInit.nd rfl (by first | exact Or.inl rfl | exact Or.inr rfl)) (pss_one (ps_expr (pe_call (okcheckdeed T) (hr.mono (by decide)) rfl T.gcheckdeed T.fcheckdeed.kp T.bcheckdeed .nil (passes_call (W := fun c d _ H => E c d H) (takes_of rfl rfl rfl rfl) (fun _ _ _ _ h => h)) (pa_cons (pv 1) (pa_cons (pv 3) pa_nil))))))
      (pss_cons (ps_fld (pv 0) (pv 1) rfl)
      (pss_one (ps_fld (pv 0) (pe_callTy call_tuple_of rfl T.ntuple (by decide +kernel) (pa_cons (pv 2) pa_nil)) rfl))))), ?_⟩
    have el := hA.len
    have h1' : ds.length > 20 → rE T H E (.count "deeds" (us.length : Int)) := by
      rw [el]
      exact h1
    refine ⟨_, rfl, a, _, rfl, .inl (SqL.of hS), _, _, rfl, rfl, _, rfl, ?_⟩
    by_cases g : ds.length > 20
    · refine ifT (decide_eq_true (by rw [el]; omega)) ?_
      exact ⟨_, rfl, a, _, rfl, .inl (SqL.of hS), (by show 2 ≤ 1000; decide), x2_made (h1' g)⟩
    · refine ifF (decide_eq_false (by rw [el]; omega)) ?_
      have h3 := h2 (by omega)
      have hq := hq (by omega)
      refine ⟨_, rfl, a, rfl, ⟨_, SqL.of hS⟩, for_list (K := K) (a := a) (xs := us) (fun i σ H' => ∃ v : Option V, σ = [some (.ref p), some (.ref j), some (.ref a), v] ∧ H' = H ∧ firstBad caps (ds.take i) = none) ⟨none, rfl, rfl, rfl⟩ (fun i σ H' _ ⟨_, _, e, _⟩ => by rw [e]; exact SqL.of hS) ?_ ?_⟩
      · rintro i y σ H' hi ⟨v, rfl, rfl, hb⟩
        obtain ⟨d, hd, hv⟩ := hA.get hi
        obtain ⟨b1, b2⟩ := firstBad_take hb hd
        exact ⟨_, rfl, _, rfl, j, caps, y, d, rfl, hJ, hv, fun ok => ⟨some y, rfl, rfl, b1 ok⟩, fun r e => h3 r (b2 r e)⟩
      · rintro σ H' ⟨v, rfl, rfl, hb⟩
        rw [el, List.take_length] at hb
        refine ⟨_, rfl, _, rfl, p, _, dx, _, rfl, hp, T.lRow, T.nRow_jars, (by show 0 < 1000; decide), ?_⟩
        have f1 : Fr p H' (upd H' p (.ins T.cRow dx (putF "jars" (.ref j) []))) := fr_mut (Fr.refl _ _)
        have na : a ≠ p := ne_of hS hp (by intro z; cases z)
        refine ⟨_, rfl, a, _, rfl, .inl ⟨f1.sqL na (SqL.of hS), fun t ht => ?_⟩⟩
        have n : p ≠ t := fun z => by rw [← z, upd_same] at ht; cases ht
        have ht0 : H' t = none := fr_free f1 n.symm ht
        refine ⟨_, rfl, p, _, dx, _, rfl, (by rw [upd_ne n]; exact upd_same), T.lRow, T.nRow_deeds, (by show 1 < 1000; decide), ?_⟩
        have fr : Fr p H' (upd (upd (upd H' p (.ins T.cRow dx (putF "jars" (.ref j) []))) t (.tup us)) p (.ins T.cRow dx (putF "deeds" (.ref t) (putF "jars" (.ref j) [])))) := fr_mut (fr_new f1 ht0)
        refine hq hb _ ⟨dx, j, t, us, ?_, ?_, ?_, ?_⟩ fr
        · rw [upd_same, put2 (by decide +kernel)]
          rfl
        · exact hJ.fr fr hp bl_i
        · rw [upd_ne n.symm]; exact upd_same
        · exact A2.mono (fun _ _ q => q.fr fr hp bl_i) hA
theorem okRowT (T : Tx K mg) : FnOk P w K mg base (L2.CX P w) 5 T.aRowInit T.dRowInit ["self", "jars", "deeds"] (spRowT T) := by
  refine T.fRowInit.okX scRowInit (fun vs H Q E h => ?_) (fun cdv A outer s H vs Q E hr h => ?_)
  · obtain ⟨p, dx, j, a, caps, us, ds, rfl, _⟩ := h
    rfl
  · obtain ⟨p, dx, j, a, caps, us, ds, rfl, hp, hJ, hS, hA, hz, h1, h2, hq⟩ := h
    refine ⟨_, (pss_cons (ps_if (pt_cmpR op_gt (pe_callB call_len_seq rfl T.nlen PySem.boot_len (pa_cons (pv 2) pa_nil)) (pe_glob (v := .int 20) rfl T.cMOSTDEEDS ⟨_, rfl⟩) (nomark _)) (pss_one (ps_raise rfl (takes_of rfl rfl rfl rfl) (pmk_oex T.oBadCount T.iBadCount T.tBadCount (okBadCountInit T) (hr.mono (by decide)) T.bBadCountInit .nil pass0 rfl T.mBadCount (pa_cons pe_str (pa_cons (pe_callB call_len_seq rfl T.nlen PySem.boot_len (pa_cons (pv 2) pa_nil)) pa_nil))))) pss_nil)
      (pss_cons (ps_for (passes_of rfl) rfl (pi_tup (pv 2)) (pg_name (i := 3) scRowInit.nd rfl (by first | exact Or.inl rfl | exact Or.inr rfl)) (pss_one (ps_expr (pe_call (okcheckdeed T) (hr.mono (by decide)) rfl T.gcheckdeed T.fcheckdeed.kp T.bcheckdeed .nil (passes_call (W := fun c d _ H => E c d H) (takes_of rfl rfl rfl rfl) (fun _ _ _ _ h => h)) (pa_cons (pv 1) (pa_cons (pv 3) pa_nil))))))
      (pss_cons (ps_fld (pv 0) (pv 1) rfl)
      (pss_one (ps_fld (pv 0) (pe_callTy call_tuple_of rfl T.ntuple (by decide +kernel) (pa_cons (pv 2) pa_nil)) rfl))))), ?_⟩
    have el := hA.len
    have h1' : ds.length > 20 → rE T H E (.count "deeds" (us.length : Int)) := by
      rw [el]
      exact h1
    refine ⟨_, rfl, a, _, rfl, .inr (SqT.of hS), _, _, rfl, rfl, _, rfl, ?_⟩
    by_cases g : ds.length > 20
    · refine ifT (decide_eq_true (by rw [el]; omega)) ?_
      exact ⟨_, rfl, a, _, rfl, .inr (SqT.of hS), (by show 2 ≤ 1000; decide), x2_made (h1' g)⟩
    · refine ifF (decide_eq_false (by rw [el]; omega)) ?_
      have h3 := h2 (by omega)
      have hq := hq (by omega)
      refine ⟨_, rfl, a, rfl, ⟨_, SqT.of hS⟩, for_tup (K := K) (a := a) (xs := us) (fun i σ H' => ∃ v : Option V, σ = [some (.ref p), some (.ref j), some (.ref a), v] ∧ H' = H ∧ firstBad caps (ds.take i) = none) ⟨none, rfl, rfl, rfl⟩ (fun i σ H' _ ⟨_, _, e, _⟩ => by rw [e]; exact SqT.of hS) ?_ ?_⟩
      · rintro i y σ H' hi ⟨v, rfl, rfl, hb⟩
        obtain ⟨d, hd, hv⟩ := hA.get hi
        obtain ⟨b1, b2⟩ := firstBad_take hb hd
        exact ⟨_, rfl, _, rfl, j, caps, y, d, rfl, hJ, hv, fun ok => ⟨some y, rfl, rfl, b1 ok⟩, fun r e => h3 r (b2 r e)⟩
      · rintro σ H' ⟨v, rfl, rfl, hb⟩
        rw [el, List.take_length] at hb
        refine ⟨_, rfl, _, rfl, p, _, dx, _, rfl, hp, T.lRow, T.nRow_jars, (by show 0 < 1000; decide), ?_⟩
        have f1 : Fr p H' (upd H' p (.ins T.cRow dx (putF "jars" (.ref j) []))) := fr_mut (Fr.refl _ _)
        have na : a ≠ p := ne_of hS hp (by intro z; cases z)
        refine ⟨_, rfl, a, _, rfl, .inr ⟨SqT.of (by rw [upd_ne na]; exact hS), ?_⟩⟩
        refine ⟨_, rfl, p, _, dx, _, rfl, upd_same, T.lRow, T.nRow_deeds, (by show 1 < 1000; decide), ?_⟩
        have fr : Fr p H' (upd (upd H' p (.ins T.cRow dx (putF "jars" (.ref j) []))) p (.ins T.cRow dx (putF "deeds" (.ref a) (putF "jars" (.ref j) [])))) := fr_mut f1
        refine hq hb _ ⟨dx, j, a, us, ?_, ?_, ?_, ?_⟩ fr
        · rw [upd_same, put2 (by decide +kernel)]
          rfl
        · exact hJ.fr fr hp bl_i
        · rw [upd_ne na, upd_ne na]; exact hS
        · exact A2.mono (fun _ _ q => q.fr fr hp bl_i) hA
theorem okRowInit (T : Tx K mg) : FnOk P w K mg base (L2.CX P w) 5 T.aRowInit T.dRowInit ["self", "jars", "deeds"] (spRowInit T) :=
  FnOk.or (okRowL T) (okRowT T) fun vs H Q E h => by
    obtain ⟨p, dx, j, a, caps, us, ds, e, hp, hJ, hS, r⟩ := h
    rcases hS with hS | hS
    · exact .inl ⟨p, dx, j, a, caps, us, ds, e, hp, hJ, hS, r⟩
    · exact .inr ⟨p, dx, j, a, caps, us, ds, e, hp, hJ, hS, r⟩
end
end Kp

namespace Kp
open PySem PySem.Spec PyProof.Rows L2 KpR
section
variable {K : PySem.W.Frag} {mg : Str → Option Value}
theorem cls_ne {A C : Addr} (h : PySem.W.kitOne K (.ref A) (.ref C) = some false) : A ≠ C := fun z => by
  rw [z, kit_self (by simp)] at h
  cases h
theorem deed_inj {T : Tx K mg} {H : Hp} {v : V} {d e : E1} (h1 : DeedAt T H v d) (h2 : DeedAt T H v e) : d = e := by
  obtain ⟨p, dx, rfl, a1⟩ := deed_at h1
  obtain ⟨q, dy, ev, b1⟩ := deed_at h2
  cases ev
  rw [a1] at b1
  have z := Option.some.inj b1
  injection z with z1 z2 z3
  have kk := is_pour T d
  cases d <;> cases e <;> simp only [E1.cls, E1.fs, f2s] at z1 z3 <;> first
    | (simp only [List.cons.injEq, Prod.mk.injEq, V.int.injEq, true_and, and_true] at z3
       obtain ⟨k1, k2⟩ := z3
       subst k1
       subst k2
       rfl)
    | exact absurd z1 (cls_ne T.iPour_Put)
    | exact absurd z1 (cls_ne T.iPour_Draw)
    | exact absurd z1 (cls_ne T.iPour_Change)
    | exact absurd z1 (cls_ne T.iPut_Pour)
    | exact absurd z1 (cls_ne T.iPut_Draw)
    | exact absurd z1 (cls_ne T.iPut_Change)
    | exact absurd z1 (cls_ne T.iDraw_Pour)
    | exact absurd z1 (cls_ne T.iDraw_Put)
    | exact absurd z1 (cls_ne T.iDraw_Change)
    | exact absurd z1 (cls_ne T.iChange_Pour)
    | exact absurd z1 (cls_ne T.iChange_Put)
    | exact absurd z1 (cls_ne T.iChange_Draw)
end
end Kp

namespace Kp
open PySem PySem.Spec PyProof.Rows L2 KpR
section
variable {X : Cx} {K : PySem.W.Frag} {mg : Str → Option Value}
theorem deeds_self {T : Tx K mg} {x y : V} {b : Bool} {H : Hp} (h : QDeedB T x y b H) : (∃ c, x = .ref c ∧ ∃ a, y = .ref a ∧ (c = a → b = true)) ∨ ((x = .non ∨ ∃ i, x = .int i) ∧ ∃ a, y = .ref a) := by
  have one : ∀ {C : Addr} {k : E1 → Bool}, DInsB K C (RDeed T C k) x y b H → ∃ c, x = .ref c ∧ ∃ a, y = .ref a ∧ (c = a → b = true) := by
    rintro C k ⟨a, c, C', dx, dy, fs, gs, rfl, rfl, ha, hc, _, d, _, hd, r⟩
    refine ⟨a, rfl, c, rfl, fun z => ?_⟩
    subst z
    rcases r with ⟨d2, h2, rfl⟩ | ⟨al, _⟩
    · exact decide_eq_true (deed_inj hd h2)
    · cases al with
      | tup _ e => rw [ha] at e; cases e
      | lst _ e => rw [ha] at e; cases e
  rcases h with h | h | h | h <;> exact .inl (one h)
theorem eqB_deeds {X : Cx} (T : Tx X.K X.mg) : EqB X 1 (QDeedB T) := RcB.eqB (RcB.or (rcB_ins (E := E0) ⟨T.ePourEq, T.eiPourEq⟩ (okPourEq T) T.bPourEq pass0) (RcB.or (rcB_ins (E := E0) ⟨T.ePutEq, T.eiPutEq⟩ (okPutEq T) T.bPutEq pass0) (RcB.or (rcB_ins (E := E0) ⟨T.eDrawEq, T.eiDrawEq⟩ (okDrawEq T) T.bDrawEq pass0) (rcB_ins (E := E0) ⟨T.eChangeEq, T.eiChangeEq⟩ (okChangeEq T) T.bChangeEq pass0)))) fun _ _ _ _ h => deeds_self h
theorem opEqTups (T : Tx K mg) (hr : Room 2 X.A) (hK : X.K = K := by rfl) (hm : X.mg = mg := by rfl) : OpR X (compareOp .Eq) (rEqB (DTupB K (QDeedB T))) := by
  subst hK
  subst hm
  exact op_eqB (n := 2) (rcB_tup (n := 1) (eqB_deeds T)) hr
theorem QDeed_of {T : Tx K mg} {H : Hp} {u v : V} {d e : E1} (h1 : DeedAt T H u d) (h2 : DeedAt T H v e) : QDeedB T u v (decide (d = e)) H := by
  obtain ⟨b, h, q⟩ := eqDeeds (Q := fun v _ => v = .bl (decide (d = e))) h1 h2 fun _ _ => rfl
  have z := q H Ext.rfl'
  cases z
  exact h
theorem eqTups {T : Tx K mg} {H : Hp} {a c : Addr} {us vs : List V} {ds es : List E1} {Q : VK} (ha : H a = some (.tup us)) (hc : H c = some (.tup vs)) (h1 : A2 (DeedAt T H) us ds) (h2 : A2 (DeedAt T H) vs es) (q : ∀ H', Ext H H' → Q (.bl (decide (ds = es))) H') :
    rEqB (DTupB K (QDeedB T)) (.ref a) (.ref c) H Q := by
  have l1 := h1.len
  have l2 := h2.len
  refine ⟨_, ⟨a, c, us, vs, fun i => decide (ds[i]? = es[i]?), rfl, rfl, SqT.of ha, SqT.of hc, fun i u v hu hv H' e => ?_, ?_⟩, q⟩
  · obtain ⟨d, hd, r1⟩ := h1.get hu
    obtain ⟨e2, he, r2⟩ := h2.get hv
    have z := QDeed_of (r1.ext e) (r2.ext e)
    have y : decide (ds[i]? = es[i]?) = decide (d = e2) := by
      rw [hd, he]
      exact decide_eq_decide.mpr ⟨fun z => Option.some.inj z, fun z => congrArg some z⟩
    show QDeedB T u v (decide (ds[i]? = es[i]?)) H'
    rw [y]
    exact z
  · rw [decide_eq_true_iff]
    refine ⟨fun z => ⟨by rw [l1, l2, z], fun i _ => decide_eq_true (by rw [z])⟩, fun ⟨z1, z2⟩ => List.ext_getElem? fun i => ?_⟩
    by_cases c : i < us.length
    · exact of_decide_eq_true (z2 i c)
    · rw [List.getElem?_eq_none (by omega), List.getElem?_eq_none (by omega)]
def RRow (T : Tx K mg) (a : Addr) (y : V) (b : Bool) (H : Hp) : Prop := ∃ caps ds, RowAt T H a caps ds ∧ ((∃ c caps2 ds2, y = .ref c ∧ RowAt T H c caps2 ds2 ∧ b = decide (caps = caps2 ∧ ds = ds2)) ∨ (Alien K T.cRow H y ∧ b = false))
def spRowEq (T : Tx K mg) : Sp := spEqB (RRow T)
end
section
variable {P : Program} {w : World} {K : PySem.W.Frag} {mg : Str → Option Value} {base : Heap}
theorem okRowEq (T : Tx K mg) : FnOk P w K mg base CX0 3 T.aRowEq T.dRowEq ["self", "other"] (spRowEq T) := by
  refine T.fRowEq.ok scRowEq (fun vs H Q E h => ?_) (fun cdv A outer s H vs Q E hr h => ?_)
  · obtain ⟨a, y, b, rfl, _⟩ := h
    rfl
  · obtain ⟨a, y, b, rfl, ⟨caps, ds, ⟨dx, j1, t1, us, h1, hj1, ht1, hA1⟩, hc⟩, hq⟩ := h
    refine ⟨_, (pss_one (ps_ret (pe_and (pe_callB call_isi rfl T.nisinstance (by decide +kernel) (pa_cons (pv 1) (pa_cons (pe_glob (v := .ref T.cRow) rfl T.mRow rfl) pa_nil))) (pe_and (pe_cmpR (opEqJars T (hr.mono (by decide))) (pe_fld (pv 0) rfl) (pe_fld (pv 1) rfl) (nomark _)) (pe_one (pe_cmpR (opEqTups T (hr.mono (by decide))) (pe_fld (pv 0) rfl) (pe_fld (pv 1) rfl) (nomark _))))))), ?_⟩
    rcases hc with ⟨c, caps2, ds2, rfl, ⟨dy, j2, t2, vs, g1, gj1, gt1, gA1⟩, rfl⟩ | ⟨al, rfl⟩
    · refine ⟨_, rfl, .ref c, .ref T.cRow, _, _, true, rfl, .own _, .base (.ins g1 T.lRow T.yRow.ha T.yRow.hn T.yRow.ht T.yRow.hm), T.iRow_Row, _, rfl, ifT rfl ?_⟩
      refine ⟨_, rfl, a, _, dx, _, _, rfl, h1, T.lRow, T.nRow_jars, lk1, _, rfl, c, _, dy, _, _, rfl, g1, T.lRow, T.nRow_jars, lk1, eqJars hj1 gj1 fun H1 e1 => ⟨_, rfl, ifD (fun e => ?_) fun e => ?_⟩⟩
      · refine ⟨_, rfl, a, _, dx, _, _, rfl, e1 _ _ h1, T.lRow, T.nRow_deeds, lk2 (by decide +kernel), _, rfl, c, _, dy, _, _, rfl, e1 _ _ g1, T.lRow, T.nRow_deeds, lk2 (by decide +kernel), eqTups (e1 _ _ ht1) (e1 _ _ gt1) (A2.mono (fun _ _ k => k.ext e1) hA1) (A2.mono (fun _ _ k => k.ext e1) gA1) fun H2 e2 => ?_⟩
        refine (congrArg (fun c => Q (V.bl c) H2) (decide_eq_decide.mpr ?_)).mpr (hq _ (Ext.trans e1 e2))
        exact ⟨fun z => ⟨e, z⟩, fun z => z.2⟩
      · refine (congrArg (fun c => Q (V.bl c) H1) (decide_eq_false fun z => e z.1).symm).mpr (hq _ e1)
    · obtain ⟨ty, tx, kx⟩ := alien_ty al T.ikRow_NoneType T.ikRow_int T.ikRow_tuple T.ikRow_list
      exact ⟨_, rfl, y, .ref T.cRow, _, _, false, rfl, .own _, tx, kx, _, rfl, ifF rfl (hq _ Ext.rfl')⟩
end
end Kp

namespace Kp
open PySem PySem.Spec PyProof.Rows L2 KpR
section
variable {X : Cx} {K : PySem.W.Frag} {mg : Str → Option Value}
theorem opNeTups (T : Tx K mg) (hr : Room 2 X.A) (hK : X.K = K := by rfl) (hm : X.mg = mg := by rfl) : OpR X (compareOp .NotEq) (rNeTup K (QDeedB T)) := by
  subst hK
  subst hm
  exact op_neTup (n := 1) (eqB_deeds T) hr
theorem neTups {T : Tx K mg} {H : Hp} {a c : Addr} {us vs : List V} {ds : List E1} {Q : VK} (ha : H a = some (.tup us)) (hc : H c = some (.tup vs)) (h1 : A2 (DeedAt T H) us ds) (h2 : A2 (DeedAt T H) vs ds) (q : ∀ H', Ext H H' → Q (.bl false) H') :
    rNeTup K (QDeedB T) (.ref a) (.ref c) H Q := by
  refine ⟨a, c, us, vs, rfl, rfl, SqT.of ha, SqT.of hc, by rw [h1.len, h2.len], fun i u v hu hv H' e => ?_, q⟩
  obtain ⟨d, hd, r1⟩ := h1.get hu
  obtain ⟨d2, hd2, r2⟩ := h2.get hv
  rw [hd] at hd2
  cases hd2
  have z := QDeed_of (r1.ext e) (r2.ext e)
  rw [decide_eq_true rfl] at z
  exact z
theorem opEqRow (T : Tx K mg) (hr : Room 3 X.A) (hK : X.K = K := by rfl) (hm : X.mg = mg := by rfl) : OpR X (compareOp .Eq) (rEqB (DInsB K T.cRow (RRow T))) := by
  subst hK
  subst hm
  exact op_eqB (rcB_ins (E := E0) ⟨T.eRowEq, T.eiRowEq⟩ (okRowEq T) T.bRowEq pass0) hr
theorem opNeRow (T : Tx K mg) (hr : Room 4 X.A) (hK : X.K = K := by rfl) (hm : X.mg = mg := by rfl) : OpR X (compareOp .NotEq) (rNeK T.cRow (RRow T)) := by
  subst hK
  subst hm
  exact op_neK (E := E0) (okRowEq T) T.neRow T.bRowEq pass0 hr
theorem opInRow (T : Tx K mg) (hr : Room 4 X.A) (hK : X.K = K := by rfl) (hm : X.mg = mg := by rfl) : OpR X (compareOp .In) (rOutB (DBehB K T.cRow (RRow T))) := by
  subst hK
  subst hm
  exact op_outB (n := 3) ((rcB_beh (E := E0) ⟨T.eRowEq, T.eiRowEq⟩ (okRowEq T) T.bRowEq pass0).eqB fun _ _ _ _ h => beh_refs h) hr
theorem RowAt.same {T : Tx K mg} {H H' : Hp} {p : Addr} {caps : List Int} {ds : List E1} (e : Same H H') (h : RowAt T H p caps ds) : RowAt T H' p caps ds := by
  obtain ⟨dx, j, t, vs, h1, h2, h3, h4⟩ := h
  exact ⟨dx, j, t, vs, e _ _ h1, h2.same e, e _ _ h3, A2.mono (fun _ _ q => q.same e) h4⟩
theorem eqRow {T : Tx K mg} {H : Hp} {a b : Addr} {l m : List Int} {ds es : List E1} {Q : VK} (h1 : RowAt T H a l ds) (h2 : RowAt T H b m es) (q : ∀ H', Ext H H' → Q (.bl (decide (l = m ∧ ds = es))) H') : rEqB (DInsB K T.cRow (RRow T)) (.ref a) (.ref b) H Q := by
  obtain ⟨dx, j, t, vs, e1, _⟩ := id h1
  obtain ⟨dy, i, u, ws, g1, _⟩ := id h2
  exact ⟨_, ⟨a, b, T.cRow, dx, dy, _, _, rfl, rfl, e1, g1, nf_self, l, ds, h1, .inl ⟨b, m, es, rfl, h2, rfl⟩⟩, q⟩
theorem neRow {T : Tx K mg} {H : Hp} {a b : Addr} {l : List Int} {ds : List E1} {Q : VK} (h1 : RowAt T H a l ds) (h2 : RowAt T H b l ds) (q : ∀ H', Ext H H' → Q (.bl false) H') : rNeK T.cRow (RRow T) (.ref a) (.ref b) H Q := by
  obtain ⟨dx, j, t, vs, e1, _⟩ := id h1
  obtain ⟨dy, i, u, ws, g1, _⟩ := id h2
  exact ⟨a, b, true, dx, dy, _, _, rfl, rfl, e1, g1, ⟨l, ds, h1, .inl ⟨b, l, ds, rfl, h2, (decide_eq_true ⟨rfl, rfl⟩).symm⟩⟩, q⟩
theorem outRow {T : Tx K mg} {H : Hp} {a l : Addr} {caps : List Int} {ds : List E1} {ys : List V} {Q : VK} (h1 : RowAt T H a caps ds) (hl : H l = some (.lst ys)) (hy : ∀ z ∈ ys, Al3 H z ∨ ∃ b xs, z = .ref b ∧ H b = some (.lst xs)) (q : ∀ H', Ext H H' → Q (.bl false) H') :
    rOutB (DBehB K T.cRow (RRow T)) (.ref a) (.ref l) H Q := by
  refine ⟨l, ys, rfl, fun H' e => e _ _ hl, fun z hz H' e => ?_, q⟩
  have h2 := h1.same (H' := H') fun b o q => e b o q
  obtain ⟨dx, j, t, vs, e1, _⟩ := id h2
  have al : Alien K T.cRow H' z := by
    rcases hy z hz with h | ⟨b, xs, rfl, hb⟩
    · exact (h.ext e).alien T.alRow_NoneType T.alRow_int T.alRow_tuple
    · exact .lst T.alRow_list (e _ _ hb)
  exact ⟨a, dx, _, rfl, e1, al, caps, ds, h2, .inr ⟨al, rfl⟩⟩
end
end Kp

namespace Kp
open PySem PySem.Spec PyProof.Rows L2 KpR
theorem ixN_nat {n i : Nat} (h : i < n) : ixN n (i : Int) = some i := by
  have e : atI (List.range n) (i : Int) = some i := atI_nat (by simp [h])
  unfold atI at e
  cases z : ixN (List.range n).length (i : Int) with
  | none => rw [z] at e; cases e
  | some j =>
    rw [z] at e
    have e2 : (List.range n)[j]? = some i := e
    have hj := (List.getElem?_eq_some_iff.mp e2).2
    rw [List.getElem_range] at hj
    subst hj
    simpa using z
theorem ixN_last {n : Nat} : ixN (n + 1) (-1) = some n := by
  have e : atI (List.range n ++ [n]) (-1) = some n := atI_last _ _
  unfold atI at e
  have hl : (List.range n ++ [n]).length = n + 1 := by simp
  rw [hl] at e
  cases z : ixN (n + 1) (-1) with
  | none => rw [z] at e; cases e
  | some j =>
    rw [z, ← List.range_succ] at e
    have e2 : (List.range (n + 1))[j]? = some n := e
    have hj := (List.getElem?_eq_some_iff.mp e2).2
    rw [List.getElem_range] at hj
    exact congrArg some hj
theorem vi_set {l : List Int} {i : Nat} {z : Int} : (vi l).set i (.int z) = vi (l.set i z) := (List.map_set ..).symm
def E1.word : E1 → Str
  | .pour _ _ => "pour"
  | .put _ _ => "put"
  | .draw _ _ => "draw"
  | .change _ _ => "change"
def E1.last : E1 → Int
  | .pour _ b => b
  | .put _ k => k
  | .draw _ k => k
  | .change _ b => b
def WellAt (H : Hp) (w : Addr) : Prop := ∃ a b c : Int, H w = some (.lst [.int a, .int b, .int c])
theorem WellAt.ex {H : Hp} {w : Addr} (h : WellAt H w) : ∃ u, H w = some u ∧ Blank u := by
  obtain ⟨a, b, c, h⟩ := h
  exact ⟨_, h, bl_l⟩
def FactAt (H : Hp) (v : V) (d : E1) : Prop := ∃ t, v = .ref t ∧ H t = some (.tup [.str d.word, .int d.fst, .int d.last])
theorem FactAt.same {H H' : Hp} {v : V} {d : E1} (e : Same H H') (h : FactAt H v d) : FactAt H' v d := by
  obtain ⟨t, rfl, h⟩ := h
  exact ⟨t, rfl, e _ _ h⟩
theorem FactAt.fr {w : Addr} {H H' : Hp} {u : HO} {v : V} {d : E1} (e : Fr w H H') (hw : H w = some u) (hb : Blank u) (h : FactAt H v d) : FactAt H' v d := by
  obtain ⟨t, rfl, h⟩ := h
  exact ⟨t, rfl, fr_no e hw hb h nbT⟩
theorem made_same {H H' : Hp} {x dx : Addr} {o1 o2 : HO} (hx : H x = none) (hdx : H dx = none) (fr : Fr x (upd (upd H dx o1) x o2) H') : Same H H' := fun b o e => by
  have n1 : b ≠ x := ne_of_none e hx
  refine fr b o n1 ?_
  rw [upd_ne n1, upd_ne (ne_of_none e hdx)]
  exact e
theorem WellAt.new {H : Hp} {w p : Addr} {o : HO} (h : WellAt H w) (n : H p = none) : WellAt (upd H p o) w := by
  obtain ⟨a, b, c, q⟩ := h
  exact ⟨a, b, c, by rw [upd_ne (ne_of_none q n)]; exact q⟩
theorem WellAt.ne {H : Hp} {w p : Addr} (h : WellAt H w) (n : H p = none) : p ≠ w := fun z => by
  obtain ⟨_, _, _, q⟩ := h
  rw [← z, n] at q
  cases q
theorem WellAt.mut {H : Hp} {w p : Addr} {o : HO} (h : WellAt H w) (n : p ≠ w) : WellAt (upd H p o) w := by
  obtain ⟨a, b, c, q⟩ := h
  exact ⟨a, b, c, by rw [upd_ne (Ne.symm n)]; exact q⟩
theorem WellAt.same {H H' : Hp} {w : Addr} (h : WellAt H w) (e : Same H H') : WellAt H' w := by
  obtain ⟨a, b, c, q⟩ := h
  exact ⟨a, b, c, e _ _ q⟩
section
variable {K : PySem.W.Frag} {mg : Str → Option Value}
def spLwell (T : Tx K mg) : Sp := fun vs H Q _ => ∃ n : Int, vs = [.int n] ∧ ∀ (H' : Hp) (p : Addr), H p = none → WellAt H' p → Same H H' → Q (.ref p) H'
def spLdraw (T : Tx K mg) : Sp := fun vs H Q _ => ∃ (w : Addr) (m : Int), vs = [.ref w, .int m] ∧ WellAt H w ∧ 1 ≤ m ∧ m < 2 ^ 100 ∧ ∀ (H' : Hp) (v : Nat), (v : Int) < m → WellAt H' w → Fr w H H' → Q (.int v) H'
def spLcaps (T : Tx K mg) : Sp := fun vs H Q _ => ∃ (w : Addr) (m : Int), vs = [.ref w, .int m] ∧ WellAt H w ∧ 1 ≤ m ∧ m ≤ 6 ∧
  ∀ (H' : Hp) (p : Addr) (caps : List Int), H p = none → H' p = some (.lst (vi caps)) → Caps caps → (caps.length : Int) ≤ m → WellAt H' w → Fr w H H' → Q (.ref p) H'
def spLdeed (T : Tx K mg) : Sp := fun vs H Q _ => ∃ (v : V) (d : E1), vs = [v] ∧ FactAt H v d ∧ ∀ (H' : Hp) (p : Addr), H p = none → DeedAt T H' (.ref p) d → Same H H' → Q (.ref p) H'
end
section
variable {P : Program} {w : World} {K : PySem.W.Frag} {mg : Str → Option Value} {base : Heap}
theorem okLwell (T : Tx K mg) : FnOk P w K mg base CX0 1 T.aLwell T.dLwell ["_law_cell"] (spLwell T) := by
  refine T.fLwell.ok scLwell (fun vs H Q E h => ?_) (fun cdv A outer s H vs Q E hr h => ?_)
  · obtain ⟨n, rfl, _⟩ := h
    rfl
  · obtain ⟨n, rfl, hq⟩ := h
    refine ⟨_, (pss_one (ps_ret (pe_lst (pa_cons (pe_callB call_abs rfl T.nabs (by decide +kernel) (pa_cons (pv 0) pa_nil)) (pa_cons (pe_op op_mod (pv 0) pe_int) (pa_cons pe_int pa_nil)))))), ?_⟩
    refine ⟨_, rfl, n, rfl, _, rfl, _, _, rfl, rfl, (by show (0 : Int) < 2147483629; decide), (by show 3 ≤ sizeLine; decide), fun p hp => ?_⟩
    exact hq _ p hp ⟨_, _, _, upd_same⟩ (same_new hp)
theorem okLdraw (T : Tx K mg) : FnOk P w K mg base CX0 1 T.aLdraw T.dLdraw ["_law_well_here", "_law_many"] (spLdraw T) := by
  refine T.fLdraw.ok scLdraw (fun vs H Q E h => ?_) (fun cdv A outer s H vs Q E hr h => ?_)
  · obtain ⟨u, m, rfl, _⟩ := h
    rfl
  · obtain ⟨u, m, rfl, ⟨a, b, c, hw⟩, m1, m2, hq⟩ := h
    refine ⟨_, (pss_cons (ps_if (pt_cmpR op_ge (pe_ix (r := rIxL K) ix_list (pv 0) pe_int (fun _ _ => rfl)) (pe_op op_pow pe_int pe_int) (nomark _)) (pss_cons (ps_set (i := 2) scLdraw.nd rfl (by first | exact Or.inl rfl | exact Or.inr rfl) (pe_op op_mod (pe_ix (r := rIxL K) ix_list (pv 0) pe_int (fun _ _ => rfl)) (pv 1)))
      (pss_cons (ps_asg (pe_op op_fdivW (pe_ix (r := rIxL K) ix_list (pv 0) pe_int (fun _ _ => rfl)) (pv 1)) (pg_sub (pv 0) pe_int set_list))
      (pss_one (ps_ret (pv 2))))) pss_nil)
      (pss_cons (ps_asg (pe_op op_add (pe_ix (r := rIxL K) ix_list (pv 0) pe_int (fun _ _ => rfl)) pe_int) (pg_sub (pv 0) pe_int set_list))
      (pss_cons (ps_set (i := 3) scLdraw.nd rfl (by first | exact Or.inl rfl | exact Or.inr rfl) (pe_op op_mod (pe_op op_mul (pe_op op_add (pe_op op_add (pe_ix (r := rIxL K) ix_list (pv 0) pe_int (fun _ _ => rfl)) (pe_op op_mul pe_int (pe_ix (r := rIxL K) ix_list (pv 0) pe_int (fun _ _ => rfl)))) pe_int) pe_int) pe_int))
      (pss_cons (ps_set (i := 3) scLdraw.nd rfl (by first | exact Or.inl rfl | exact Or.inr rfl) (pe_op op_mod (pe_op op_mul (pv 3) (pe_op op_add (pe_op op_fdivW (pv 3) pe_int) pe_int)) pe_int))
      (pss_one (ps_ret (pe_op op_mod (pe_op op_mod (pe_op op_add (pe_op op_fdivW (pv 3) pe_int) (pe_op op_mul (pe_op op_mod (pv 3) pe_int) pe_int)) pe_int) (pv 1)))))))), ?_⟩
    have wd : CDivW a m := wide_div (b := 100) (by omega) (by omega) (by decide) (by decide)
    have back : ∀ (x : Int) (H' : Hp), WellAt H' u → Fr u H H' → Q (.int (x % m)) H' := fun x H' h1 h2 => by
      have q0 := Int.emod_nonneg x (show m ≠ 0 by omega)
      have q1 := Int.emod_lt_of_pos x (show 0 < m by omega)
      have e : x % m = ((x % m).toNat : Int) := by omega
      rw [e]
      exact hq H' _ (by omega) h1 h2
    refine ⟨_, rfl, u, _, _, _, rfl, rfl, SqL.of hw, rfl, _, _, rfl, rfl, ⟨by decide, by decide, by decide⟩, _, _, rfl, rfl, _, rfl, ifD (fun _ => ?_) (fun _ => ?_)⟩
    · refine ⟨_, rfl, u, _, _, _, rfl, rfl, SqL.of hw, rfl, _, rfl, _, _, rfl, rfl, (by show 0 < m; omega), ?_⟩
      refine ⟨_, rfl, u, _, _, _, rfl, rfl, SqL.of hw, rfl, _, rfl, _, _, rfl, rfl, wd, _, rfl, u, _, _, 0, rfl, rfl, hw, rfl, _, rfl, ?_⟩
      exact back a _ ⟨_, _, _, upd_same⟩ (fr_mut (Fr.refl _ _))
    · refine ⟨_, rfl, u, _, _, _, rfl, rfl, SqL.of hw, rfl, _, _, rfl, rfl, _, rfl, u, _, _, 2, rfl, rfl, hw, rfl, ?_⟩
      refine ⟨_, rfl, u, _, _, _, rfl, rfl, SqL.of upd_same, rfl, _, rfl, u, _, _, _, rfl, rfl, SqL.of upd_same, rfl, _, _, rfl, rfl, .inl ⟨by decide, by decide⟩, _, _, rfl, rfl, _, _, rfl, rfl, _, _, rfl, rfl, .inr ⟨by decide, by decide⟩, _, _, rfl, rfl, (by show (0 : Int) < 2147483647; decide), ?_⟩
      refine ⟨_, rfl, _, rfl, _, _, rfl, rfl, ⟨by decide, by decide⟩, _, _, rfl, rfl, _, _, rfl, rfl, .inl ⟨by omega, by omega⟩, _, _, rfl, rfl, (by show (0 : Int) < 2147483587; decide), ?_⟩
      refine ⟨_, rfl, _, _, rfl, rfl, ⟨by decide, by decide⟩, _, rfl, _, _, rfl, rfl, (by show (0 : Int) < 7919; decide), _, _, rfl, rfl, .inr ⟨by decide, by decide⟩, _, _, rfl, rfl, _, _, rfl, rfl, (by show (0 : Int) < 2147483399; decide), _, rfl, _, _, rfl, rfl, (by show 0 < m; omega), ?_⟩
      exact back _ _ ⟨_, _, _, upd_same⟩ (fr_mut (Fr.refl _ _))
theorem okLcaps (T : Tx K mg) : FnOk P w K mg base CX0 2 T.aLcaps T.dLcaps ["_law_well_here", "_law_most"] (spLcaps T) := by
  refine T.fLcaps.ok scLcaps (fun vs H Q E h => ?_) (fun cdv A outer s H vs Q E hr h => ?_)
  · obtain ⟨u, m, rfl, _⟩ := h
    rfl
  · obtain ⟨u, m, rfl, hw, m1, m2, hq⟩ := h
    refine ⟨_, (pss_cons (ps_set (i := 2) scLcaps.nd rfl (by first | exact Or.inl rfl | exact Or.inr rfl) (pe_ix (r := rIxL K) ix_list (pe_lst (pa_cons pe_int (pa_cons pe_int (pa_cons pe_int (pa_cons pe_int (pa_cons (pe_op op_pow pe_int pe_int) (pa_cons (pe_op op_pow pe_int pe_int) pa_nil))))))) (pe_call (okLdraw T) (hr.mono (by decide)) rfl T.gLdraw T.fLdraw.kp T.bLdraw .nil pass0 (pa_cons (pv 0) (pa_cons pe_int pa_nil))) (fun _ _ => rfl)))
      (pss_cons (ps_set (i := 3) scLcaps.nd rfl (by first | exact Or.inl rfl | exact Or.inr rfl) (pe_lst pa_nil))
      (pss_cons (ps_for PassesOwn.never rfl (pi_range1 rfl T.nrange (pa_cons (pe_op op_add pe_int (pe_call (okLdraw T) (hr.mono (by decide)) rfl T.gLdraw T.fLdraw.kp T.bLdraw .nil pass0 (pa_cons (pv 0) (pa_cons (pv 1) pa_nil)))) pa_nil)) (pg_name (i := 4) scLcaps.nd rfl (by first | exact Or.inl rfl | exact Or.inr rfl)) (pss_cons (ps_expr (pe_bm PySem.F.plainAttrs_list PySem.F.slot_list_append PySem.F.type_list_append mt_append (pv 3) (pa_cons (pe_op op_mul (pv 2) (pe_op op_add pe_int (pe_call (okLdraw T) (hr.mono (by decide)) rfl T.gLdraw T.fLdraw.kp T.bLdraw .nil pass0 (pa_cons (pv 0) (pa_cons pe_int pa_nil))))) pa_nil)))
      (pss_one (ps_if (pt_cmpR op_eq (pe_call (okLdraw T) (hr.mono (by decide)) rfl T.gLdraw T.fLdraw.kp T.bLdraw .nil pass0 (pa_cons (pv 0) (pa_cons pe_int pa_nil))) pe_int (nomark _)) (pss_one (ps_asg (pe_ix (r := rIxL K) ix_list (pv 3) pe_int (fun _ _ => rfl)) (pg_sub (pv 3) (pe_un un_neg pe_int) set_list))) pss_nil))))
      (pss_one (ps_ret (pv 3)))))), ?_⟩
    refine ⟨_, _, rfl, rfl, ⟨by decide, by decide, by decide⟩, _, _, rfl, rfl, ⟨by decide, by decide, by decide⟩, (by show 6 ≤ sizeLine; decide), fun l hl => ?_⟩
    have nw : ∀ {G : Hp} {x : Addr}, WellAt G u → G x = none → x ≠ u := fun hW hx z => by
      obtain ⟨_, _, _, q⟩ := hW
      rw [← z, hx] at q
      cases q
    have lu := nw hw hl
    have w1 : WellAt (upd H l (.lst (vi [1, 1, 1, 7, 10 ^ (6 : Int).toNat, 10 ^ (11 : Int).toNat]))) u := by
      obtain ⟨a, b, c, q⟩ := hw
      exact ⟨a, b, c, by rw [upd_ne lu.symm]; exact q⟩
    refine ⟨_, rfl, u, 6, rfl, w1, by decide, by decide, fun H1 n hn w2 f1 => ?_⟩
    have hn6 : n < 6 := by omega
    refine ⟨l, vi [1, 1, 1, 7, 10 ^ (6 : Int).toNat, 10 ^ (11 : Int).toNat], _, _, rfl, rfl, SqL.of (f1 _ _ lu upd_same), vi_at hn6, ?_⟩
    have fr1 : Fr u H H1 := (Fr.of (same_new hl)).trans f1
    obtain ⟨un, hun, ub⟩ : ∃ un : Int, at0 [1, 1, 1, 7, 10 ^ (6 : Int).toNat, 10 ^ (11 : Int).toNat] n = un ∧ 1 ≤ un ∧ un ≤ 100000000000 := ⟨_, rfl, unit_ok hn6⟩
    unfold at0 at hun
    rw [hun]
    refine ⟨(by show 0 ≤ sizeLine; decide), fun f hf => ?_⟩
    have fu := nw w2 hf
    have w3 : WellAt (upd H1 f (.lst [])) u := by
      obtain ⟨a, b, c, q⟩ := w2
      exact ⟨a, b, c, by rw [upd_ne fu.symm]; exact q⟩
    have f0 : H f = none := fr_free fr1 fu hf
    refine ⟨_, rfl, _, rfl, u, m, rfl, w3, m1, by omega, fun H2 k hk w4 f2 => ?_⟩
    have fr2 : Fr u H H2 := (fr1.trans (Fr.of (same_new hf))).trans f2
    refine ⟨_, _, rfl, rfl, _, rfl, by omega, by omega, ?_⟩
    refine for_range (lo := 0) (n := (1 + (k : Int)).toNat) (fun i σ H' => ∃ (v : Option V) (caps : List Int), σ = [some (.ref u), some (.int m), some (.int un), some (.ref f), v] ∧ H' f = some (.lst (vi caps)) ∧ caps.length = i ∧ Mid caps ∧ WellAt H' u ∧ Fr u H H')
      ⟨none, [], rfl, f2 _ _ fu upd_same, rfl, Mid.nil, w4, fr2⟩ ?_ ?_
    · rintro i σ H' hi ⟨v, caps, rfl, hf', rfl, mid, wl, fr⟩
      have i6 : caps.length < 6 := by omega
      refine ⟨_, rfl, .inl ⟨rfl, _, SqL.of hf'⟩, _, rfl, _, rfl, u, 10, rfl, wl, by decide, by decide, fun H3 x hx w5 f3 => ?_⟩
      refine ⟨_, _, rfl, rfl, _, _, rfl, rfl, .inl ⟨by omega, by omega⟩, f, _, _, rfl, rfl, f3 _ _ fu hf', (by rw [List.length_map]; exact Nat.lt_of_lt_of_le i6 (by decide)), ?_⟩
      have z1 : 1 ≤ un * (1 + (x : Int)) := by
        have := Int.mul_le_mul ub.1 (show (1 : Int) ≤ 1 + x by omega) (by decide) (by omega)
        simpa using this
      have z2 : un * (1 + (x : Int)) ≤ 1000000000000 := by
        have := Int.mul_le_mul ub.2 (show (1 + x : Int) ≤ 10 by omega) (by omega) (by decide)
        simpa using this
      have ea : vi caps ++ [V.int (un * (1 + (x : Int)))] = vi (caps ++ [un * (1 + (x : Int))]) := by simp
      have w6 : WellAt (upd H3 f (.lst (vi caps ++ [V.int (un * (1 + (x : Int)))]))) u := by
        obtain ⟨a, b, c, q⟩ := w5
        exact ⟨a, b, c, by rw [upd_ne fu.symm]; exact q⟩
      refine ⟨_, rfl, u, 3, rfl, w6, by decide, by decide, fun H4 y hy w7 f4 => ?_⟩
      have g4 : H4 f = some (.lst (vi (caps ++ [un * (1 + (x : Int))]))) := f4 _ _ fu (by rw [upd_same, ea])
      have fr4 : Fr u H H4 := (fr_new (fr.trans f3) f0).trans f4
      refine ⟨rfl, _, rfl, ifD (fun _ => ?_) (fun _ => ?_)⟩
      · have ln : (vi (caps ++ [un * (1 + (x : Int))])).length = caps.length + 1 := by simp
        refine ⟨_, rfl, f, _, _, _, rfl, rfl, SqL.of g4, vi_at (i := 0) (by simp), _, rfl, _, rfl, f, _, _, caps.length, rfl, rfl, g4, ?_, ?_⟩
        · rw [ln]
          exact ixN_last
        · refine ⟨_, (caps ++ [un * (1 + (x : Int))]).set caps.length (at0 (caps ++ [un * (1 + (x : Int))]) 0), rfl, ?_, by simp, (mid.app z1 z2).set (by simp), ?_, fr_new fr4 f0⟩
          · rw [upd_same, vi_set]
            rfl
          · obtain ⟨a, b, c, q⟩ := w7
            exact ⟨a, b, c, by rw [upd_ne fu.symm]; exact q⟩
      · exact ⟨_, _, rfl, g4, by simp, mid.app z1 z2, w7, fr4⟩
    · rintro σ H' ⟨v, caps, rfl, hf', hl', mid, wl, fr⟩
      exact ⟨_, rfl, hq H' f caps f0 hf' (mid.caps (by omega) (by omega)) (by omega) wl fr⟩
theorem okLdeed (T : Tx K mg) : FnOk P w K mg base CX0 3 T.aLdeed T.dLdeed ["_law_fact"] (spLdeed T) := by
  refine T.fLdeed.ok scLdeed (fun vs H Q E h => ?_) (fun cdv A outer s H vs Q E hr h => ?_)
  · obtain ⟨v, d, rfl, _⟩ := h
    rfl
  · obtain ⟨v, d, rfl, ⟨t, rfl, ht⟩, hq⟩ := h
    refine ⟨_, (pss_cons (ps_asg (pv 0) (pg_tup rfl (pgs_cons (pg_name (i := 1) scLdeed.nd rfl (by first | exact Or.inl rfl | exact Or.inr rfl)) (pgs_cons (pg_name (i := 2) scLdeed.nd rfl (by first | exact Or.inl rfl | exact Or.inr rfl)) (pgs_cons (pg_name (i := 3) scLdeed.nd rfl (by first | exact Or.inl rfl | exact Or.inr rfl)) pgs_nil)))))
      (pss_cons (ps_if (pt_cmpR op_eq (pv 1) pe_str (nomark _)) (pss_one (ps_ret (pe_make T.kPour (okPourInit T) (hr.mono (by decide)) rfl T.mPour T.bPourInit .nil pass0 (pa_cons (pv 2) (pa_cons (pv 3) pa_nil))))) pss_nil)
      (pss_cons (ps_if (pt_cmpR op_eq (pv 1) pe_str (nomark _)) (pss_one (ps_ret (pe_make T.kPut (okPutInit T) (hr.mono (by decide)) rfl T.mPut T.bPutInit .nil pass0 (pa_cons (pv 2) (pa_cons (pv 3) pa_nil))))) pss_nil)
      (pss_cons (ps_if (pt_cmpR op_eq (pv 1) pe_str (nomark _)) (pss_one (ps_ret (pe_make T.kDraw (okDrawInit T) (hr.mono (by decide)) rfl T.mDraw T.bDrawInit .nil pass0 (pa_cons (pv 2) (pa_cons (pv 3) pa_nil))))) pss_nil)
      (pss_one (ps_ret (pe_make T.kChange (okChangeInit T) (hr.mono (by decide)) rfl T.mChange T.bChangeInit .nil pass0 (pa_cons (pv 2) (pa_cons (pv 3) pa_nil))))))))), ?_⟩
    refine ⟨_, rfl, t, _, rfl, SqT.of ht, rfl, _, _, rfl, _, _, rfl, _, _, rfl, rfl, _, rfl, rfl, _, rfl, ?_⟩
    cases d with
    | pour a b =>
      refine ifT (show decide (V.str "pour" = V.str "pour") = true by decide +kernel) ⟨_, rfl, _, rfl, fun x dx hx hdx ne => ⟨x, dx, _, _, rfl, upd_same, fun H1 h1 fr => ⟨rfl, ?_⟩⟩⟩
      exact hq H1 x hx ⟨x, dx, rfl, h1⟩ (made_same hx hdx fr)
    | put a k =>
      refine ifF (show decide (V.str "put" = V.str "pour") = false by decide +kernel) ⟨_, rfl, rfl, _, rfl, ifT (show decide (V.str "put" = V.str "put") = true by decide +kernel) ⟨_, rfl, _, rfl, fun x dx hx hdx ne => ⟨x, dx, _, _, rfl, upd_same, fun H1 h1 fr => ⟨rfl, ?_⟩⟩⟩⟩
      exact hq H1 x hx ⟨x, dx, rfl, h1⟩ (made_same hx hdx fr)
    | draw a k =>
      refine ifF (show decide (V.str "draw" = V.str "pour") = false by decide +kernel) ⟨_, rfl, rfl, _, rfl, ifF (show decide (V.str "draw" = V.str "put") = false by decide +kernel) ⟨_, rfl, rfl, _, rfl, ifT (show decide (V.str "draw" = V.str "draw") = true by decide +kernel) ⟨_, rfl, _, rfl, fun x dx hx hdx ne => ⟨x, dx, _, _, rfl, upd_same, fun H1 h1 fr => ⟨rfl, ?_⟩⟩⟩⟩⟩
      exact hq H1 x hx ⟨x, dx, rfl, h1⟩ (made_same hx hdx fr)
    | change a b =>
      refine ifF (show decide (V.str "change" = V.str "pour") = false by decide +kernel) ⟨_, rfl, rfl, _, rfl, ifF (show decide (V.str "change" = V.str "put") = false by decide +kernel) ⟨_, rfl, rfl, _, rfl, ifF (show decide (V.str "change" = V.str "draw") = false by decide +kernel) ⟨_, rfl, _, rfl, fun x dx hx hdx ne => ⟨x, dx, _, _, rfl, upd_same, fun H1 h1 fr => ⟨rfl, ?_⟩⟩⟩⟩⟩
      exact hq H1 x hx ⟨x, dx, rfl, h1⟩ (made_same hx hdx fr)
end
end Kp

namespace Kp
open PySem PySem.Spec PyProof.Rows L2 KpR
/-! good deeds, over Kmath's deeds -/
def D.word : D → Str
  | .pour _ _ => "pour"
  | .put _ _ => "put"
  | .draw _ _ => "draw"
  | .change _ _ => "change"
def D.last : D → Int
  | .pour _ b => b
  | .put _ k => k
  | .draw _ k => k
  | .change _ b => b
def D.fst : D → Nat
  | .pour a _ => a
  | .put a _ => a
  | .draw a _ => a
  | .change a _ => a
def FactD (H : Hp) (v : V) (d : D) : Prop := ∃ t, v = .ref t ∧ H t = some (.tup [.str d.word, .int d.fst, .int d.last])
theorem FactD.same {H H' : Hp} {v : V} {d : D} (e : Same H H') (h : FactD H v d) : FactD H' v d := by
  obtain ⟨t, rfl, h⟩ := h
  exact ⟨t, rfl, e _ _ h⟩
theorem FactD.fr {w : Addr} {H H' : Hp} {u : HO} {v : V} {d : D} (e : Fr w H H') (hw : H w = some u) (hb : Blank u) (h : FactD H v d) : FactD H' v d := by
  obtain ⟨t, rfl, h⟩ := h
  exact ⟨t, rfl, fr_no e hw hb h nbT⟩
def wn : Wd → Str
  | .pour => "pour"
  | .put => "put"
  | .draw => "draw"
  | .change => "change"
theorem wn_eq {a b : Wd} : decide (V.str (wn a) = V.str (wn b)) = decide (a = b) := by
  cases a <;> cases b <;> first | rfl | decide +kernel
/-- a deed of what was drawn -/
def mkD : Wd → Nat → Nat → Int → D
  | .pour, a, b, _ => .pour a b
  | .put, a, _, k => .put a k
  | .draw, a, _, k => .draw a k
  | .change, a, b, _ => .change a b
theorem mkD_ok {caps : List Int} {k : Wd} {a b : Nat} {m : Int} (ha : a < caps.length) (hb : b < caps.length) (m1 : 1 ≤ m) (m2 : m ≤ 1000000000000) (h1 : k = .pour → a ≠ b) (h2 : k = .change → a ≠ b ∧ at0 caps a = at0 caps b) : (mkD k a b m).ok caps := by
  cases k
  · exact ⟨ha, hb, h1 rfl⟩
  · exact ⟨ha, m1, m2⟩
  · exact ⟨ha, m1, m2⟩
  · exact ⟨ha, hb, h2 rfl⟩
theorem mkD_word {k : Wd} {a b : Nat} {m : Int} : (mkD k a b m).word = wn k := by cases k <;> rfl
theorem mkD_fst {k : Wd} {a b : Nat} {m : Int} : (mkD k a b m).fst = a := by cases k <;> rfl
theorem mkD_last {k : Wd} {a b : Nat} {m : Int} : (mkD k a b m).last = if k = .put ∨ k = .draw then m else (b : Int) := by cases k <;> rfl
theorem inV_word {k : Wd} : inV (.str (wn k)) [.str "put", .str "draw"] = decide (k = .put ∨ k = .draw) := by
  cases k <;> decide +kernel
section
variable {K : PySem.W.Frag} {mg : Str → Option Value}
def spLfacts (T : Tx K mg) : Sp := fun vs H Q _ => ∃ (w c : Addr) (m : Nat) (caps : List Int), vs = [.ref w, .ref c, .int m] ∧ WellAt H w ∧ H c = some (.lst (vi caps)) ∧ c ≠ w ∧ Caps caps ∧ m ≤ 22 ∧
  ∀ (H' : Hp) (p : Addr) (ts : List V) (ds : List D), H p = none → H' p = some (.lst ts) → A2 (FactD H') ts ds → ds.length = m → (∀ d ∈ ds, d.ok caps) → WellAt H' w → Fr w H H' → Q (.ref p) H'
end
theorem six_at {n : Nat} (h : n < 6) : atI (sixW.map fun k => V.str (wn k)) (n : Int) = some (.str (wn (sixW.getD n .pour))) := by
  refine atI_nat ?_
  have h' : n < sixW.length := h
  rw [List.getElem?_map, List.getElem?_eq_getElem h', List.getD_eq_getElem?_getD, List.getElem?_eq_getElem h']
  rfl
theorem pick2 {x y : Int} {c : Bool} : atI [V.int x, V.int y] (if c = true then 1 else 0) = some (.int (if c = true then y else x)) := by
  cases c <;> rfl
theorem wnT {k j : Wd} (h : k = j) : decide (V.str (wn k) = V.str (wn j)) = true := by rw [wn_eq]; exact decide_eq_true h
theorem wnF {k j : Wd} (h : ¬ k = j) : decide (V.str (wn k) = V.str (wn j)) = false := by rw [wn_eq]; exact decide_eq_false h
section
variable {P : Program} {w : World} {K : PySem.W.Frag} {mg : Str → Option Value} {base : Heap}
theorem okLfacts (T : Tx K mg) : FnOk P w K mg base CX0 2 T.aLfacts T.dLfacts ["_law_well_here", "_law_caps_here", "_law_many"] (spLfacts T) := by
  refine T.fLfacts.ok scLfacts (fun vs H Q E h => ?_) (fun cdv A outer s H vs Q E hr h => ?_)
  · obtain ⟨u, c, m, caps, rfl, _⟩ := h
    rfl
  · obtain ⟨u, c, m, caps, rfl, hw, hc, cu, hC, hm, hq⟩ := h
    refine ⟨_, (pss_cons (ps_set (i := 3) scLfacts.nd rfl (by first | exact Or.inl rfl | exact Or.inr rfl) (pe_lst pa_nil))
      (pss_cons (ps_for PassesOwn.never rfl (pi_range1 rfl T.nrange (pa_cons (pv 2) pa_nil)) (pg_name (i := 4) scLfacts.nd rfl (by first | exact Or.inl rfl | exact Or.inr rfl)) (pss_cons (ps_par (i := 5) (j := 6) rfl scLfacts.nd rfl rfl (by decide) rfl rfl (pa_cons (pe_call (okLdraw T) (hr.mono (by decide)) rfl T.gLdraw T.fLdraw.kp T.bLdraw .nil pass0 (pa_cons (pv 0) (pa_cons (pe_callB call_len_seq rfl T.nlen PySem.boot_len (pa_cons (pv 1) pa_nil)) pa_nil))) (pa_cons (pe_call (okLdraw T) (hr.mono (by decide)) rfl T.gLdraw T.fLdraw.kp T.bLdraw .nil pass0 (pa_cons (pv 0) (pa_cons (pe_callB call_len_seq rfl T.nlen PySem.boot_len (pa_cons (pv 1) pa_nil)) pa_nil))) pa_nil)) rfl)
      (pss_cons (ps_set (i := 7) scLfacts.nd rfl (by first | exact Or.inl rfl | exact Or.inr rfl) (pe_ix (r := rIxL K) ix_list (pe_lst (pa_cons pe_int (pa_cons (pe_op op_add pe_int (pe_call (okLdraw T) (hr.mono (by decide)) rfl T.gLdraw T.fLdraw.kp T.bLdraw .nil pass0 (pa_cons (pv 0) (pa_cons (pe_ix (r := rIxL K) ix_list (pv 1) (pv 5) (fun _ _ => rfl)) pa_nil)))) (pa_cons (pe_ix (r := rIxL K) ix_list (pv 1) (pv 5) (fun _ _ => rfl)) (pa_cons (pe_callB (call_min2 rfl) rfl T.nmin (by decide +kernel) (pa_cons (pe_op op_pow pe_int pe_int) (pa_cons (pe_op op_add (pe_ix (r := rIxL K) ix_list (pv 1) (pv 5) (fun _ _ => rfl)) pe_int) pa_nil))) pa_nil))))) (pe_call (okLdraw T) (hr.mono (by decide)) rfl T.gLdraw T.fLdraw.kp T.bLdraw .nil pass0 (pa_cons (pv 0) (pa_cons pe_int pa_nil))) (fun _ _ => rfl)))
      (pss_cons (ps_set (i := 8) scLfacts.nd rfl (by first | exact Or.inl rfl | exact Or.inr rfl) (pe_ix (r := rIxL K) ix_list (pe_lst (pa_cons pe_str (pa_cons pe_str (pa_cons pe_str (pa_cons pe_str (pa_cons pe_str (pa_cons pe_str pa_nil))))))) (pe_call (okLdraw T) (hr.mono (by decide)) rfl T.gLdraw T.fLdraw.kp T.bLdraw .nil pass0 (pa_cons (pv 0) (pa_cons pe_int pa_nil))) (fun _ _ => rfl)))
      (C8.pss_cut (ps_if (PW.pt (pw_and (pt_cmpR op_eq (pv 8) pe_str (nomark _)) (pw_and1 (PW.pt (pw_or (pt_cmpR op_eq (pv 5) (pv 6) (nomark _)) (pw_or1 (pt_cmpR op_ne (pe_ix (r := rIxL K) ix_list (pv 1) (pv 5) (fun _ _ => rfl)) (pe_ix (r := rIxL K) ix_list (pv 1) (pv 6) (fun _ _ => rfl)) (nomark _)))))))) (pss_one (ps_set (i := 8) scLfacts.nd rfl (by first | exact Or.inl rfl | exact Or.inr rfl) pe_str)) pss_nil)
      (C8.pss_cut (ps_if (PW.pt (pw_and (pt_cmpR op_eq (pv 8) pe_str (nomark _)) (pw_and1 (pt_cmpR op_eq (pv 5) (pv 6) (nomark _))))) (pss_one (ps_set (i := 8) scLfacts.nd rfl (by first | exact Or.inl rfl | exact Or.inr rfl) pe_str)) pss_nil)
      (pss_one (ps_expr (pe_bm PySem.F.plainAttrs_list PySem.F.slot_list_append PySem.F.type_list_append mt_append (pv 3) (pa_cons (pe_tup (pa_cons (pv 8) (pa_cons (pv 5) (pa_cons (pe_ix (r := rIxL K) ix_list (pe_lst (pa_cons (pv 6) (pa_cons (pv 7) pa_nil))) (pe_callTy call_int1 rfl T.nint (by decide +kernel) (pa_cons (pe_cmpR (r := rIn K false) op_in_seq (pv 8) (pe_tup (pa_cons pe_str (pa_cons pe_str pa_nil))) (by rfl)) pa_nil)) (fun _ _ => rfl)) pa_nil)))) pa_nil))))))))))
      (pss_one (ps_ret (pv 3))))), ?_⟩
    have c1 := hC.l1
    have c6 := hC.l6
    have vl : (vi caps).length = caps.length := List.length_map ..
    refine ⟨(by show 0 ≤ sizeLine; decide), fun f hf => ?_⟩
    have fu := hw.ne hf
    have cf : c ≠ f := ne_of_none hc hf
    refine ⟨_, rfl, m, rfl, by omega, by omega, ?_⟩
    refine for_range (lo := 0) (n := (m : Int).toNat) (fun i σ H' => ∃ (v4 v5 v6 v7 v8 : Option V) (ts : List V) (ds : List D), σ = [some (.ref u), some (.ref c), some (.int m), some (.ref f), v4, v5, v6, v7, v8] ∧ H' f = some (.lst ts) ∧
        A2 (FactD H') ts ds ∧ ds.length = i ∧ (∀ d ∈ ds, d.ok caps) ∧ WellAt H' u ∧ Fr u H H')
      ⟨none, none, none, none, none, [], [], rfl, upd_same, trivial, rfl, (fun d h => by cases h), hw.new hf, Fr.of (same_new hf)⟩ ?_ ?_
    · rintro i σ H' hi ⟨v4, v5, v6, v7, v8, ts, ds, rfl, gf, gA, gl, gok, wl, fr⟩
      have gc := fr _ _ cu hc
      refine ⟨_, rfl, _, rfl, c, _, rfl, .inl (SqL.of gc), u, _, rfl, wl, by omega, by omega, fun H1 a la w1 f1 => ?_⟩
      have gc1 := f1 _ _ cu gc
      refine ⟨_, rfl, _, rfl, c, _, rfl, .inl (SqL.of gc1), u, _, rfl, w1, by omega, by omega, fun H2 b lb w2 f2 => ⟨_, _, rfl, ?_⟩⟩
      have gc2 := f2 _ _ cu gc1
      have ha : a < caps.length := by omega
      have hb : b < caps.length := by omega
      have k0 := hC.lo a ha
      have k1 := hC.hi a ha
      refine ⟨_, rfl, _, rfl, _, rfl, c, _, _, _, rfl, rfl, SqL.of gc2, vi_at ha, u, at0 caps a, rfl, w2, k0, by omega, fun H3 x lx w3 f3 => ?_⟩
      have gc3 := f3 _ _ cu gc2
      refine ⟨_, _, rfl, rfl, _, rfl, _, rfl, c, _, _, _, rfl, rfl, SqL.of gc3, vi_at ha, _, _, rfl, rfl, ⟨by decide, by decide, by decide⟩, _, rfl, _, rfl, c, _, _, _, rfl, rfl, SqL.of gc3, vi_at ha, _, _, rfl, rfl, _, _, rfl, (by show 4 ≤ sizeLine; decide), fun s hs => ?_⟩
      have su := w3.ne hs
      have fr3 : Fr u H H3 := ((fr.trans f1).trans f2).trans f3
      have gf3 := f3 _ _ fu (f2 _ _ fu (f1 _ _ fu gf))
      have sm3 : Same H3 (upd H3 s (.lst (vi [1, 1 + (x : Int), at0 caps a, (if at0 caps a + 1 < 10 ^ (12 : Int).toNat then at0 caps a + 1 else 10 ^ (12 : Int).toNat)]))) := same_new hs
      refine ⟨_, rfl, u, 4, rfl, w3.new hs, by decide, by decide, fun H4 n ln w4 f4 => ?_⟩
      have n4 : n < 4 := by omega
      refine ⟨s, vi [1, 1 + (x : Int), at0 caps a, (if at0 caps a + 1 < 10 ^ (12 : Int).toNat then at0 caps a + 1 else 10 ^ (12 : Int).toNat)], _, _, rfl, rfl, SqL.of (f4 _ _ su upd_same), vi_at n4, ?_⟩
      obtain ⟨mu, hmu, mb⟩ : ∃ r : Int, at0 [1, 1 + (x : Int), at0 caps a, (if at0 caps a + 1 < 10 ^ (12 : Int).toNat then at0 caps a + 1 else 10 ^ (12 : Int).toNat)] n = r ∧ 1 ≤ r ∧ r ≤ 1000000000000 :=
        ⟨_, rfl, pick4 n4 ⟨by omega, by omega⟩ ⟨by omega, by omega⟩ ⟨by omega, by omega⟩ (by
          have e12 : (10 : Int) ^ (12 : Int).toNat = 1000000000000 := by decide
          rw [e12]
          split <;> exact ⟨by omega, by omega⟩)⟩
      unfold at0 at hmu
      unfold at0
      rw [hmu]
      refine ⟨(by show 6 ≤ sizeLine; decide), fun s2 hs2 => ?_⟩
      have s2u := w4.ne hs2
      have fr4 : Fr u H H4 := (fr3.trans (Fr.of sm3)).trans f4
      have gf4 := f4 _ _ fu (sm3 _ _ gf3)
      have gc4 := f4 _ _ cu (sm3 _ _ gc3)
      have sm4 : Same H4 (upd H4 s2 (.lst (sixW.map fun k => V.str (wn k)))) := same_new hs2
      refine ⟨_, rfl, u, 6, rfl, w4.new hs2, by decide, by decide, fun H5 n2 ln2 w5 f5 => ?_⟩
      have n6 : n2 < 6 := by omega
      refine ⟨s2, sixW.map fun k => V.str (wn k), _, _, rfl, rfl, SqL.of (f5 _ _ s2u upd_same), six_at n6, ?_⟩
      generalize sixW.getD n2 .pour = k0'
      have fr5 : Fr u H H5 := (fr4.trans (Fr.of sm4)).trans f5
      have gf5 := f5 _ _ fu (sm4 _ _ gf4)
      have gc5 := f5 _ _ cu (sm4 _ _ gc4)
      have gA5 : A2 (FactD H5) ts ds := by
        obtain ⟨o, ho, hb⟩ := wl.ex
        exact A2.mono (fun _ _ q => q.fr (((((f1.trans f2).trans f3).trans (Fr.of sm3)).trans f4).trans ((Fr.of sm4).trans f5)) ho hb) gA
      refine ⟨fun σ' H' => ∃ k : Wd, σ' = [some (.ref u), some (.ref c), some (.int m), some (.ref f), some (.int (0 + (i : Int))), some (.int a), some (.int b), some (.int mu), some (.str (wn k))] ∧ H' = H5 ∧ (k = .change → a ≠ b ∧ at0 caps a = at0 caps b), ?_, ?_⟩
      · refine ⟨_, rfl, rfl, _, rfl, ?_⟩
        by_cases hk : k0' = .change
        · refine ifT (wnT (j := .change) hk) ⟨_, rfl, _, rfl, rfl, _, rfl, ifD (fun _ => ifT rfl ⟨.pour, rfl, rfl, fun z => by cases z⟩) (fun hab => ?_)⟩
          refine ⟨_, rfl, _, rfl, c, _, _, _, rfl, rfl, SqL.of gc5, vi_at ha, _, rfl, _, rfl, c, _, _, _, rfl, rfl, SqL.of gc5, vi_at hb, rfl, _, rfl, ifN (fun hcap => ⟨k0', rfl, rfl, fun _ => ⟨fun z => hab (by rw [z]), ?_⟩⟩) (fun _ => ⟨.pour, rfl, rfl, fun z => by cases z⟩)⟩
          injection hcap
        · exact ifF (wnF (j := .change) hk) (ifF rfl ⟨k0', rfl, rfl, fun z => absurd z hk⟩)
      · rintro σ' H' ⟨k, rfl, rfl, hk⟩
        refine ⟨fun σ' H'' => ∃ k : Wd, σ' = [some (.ref u), some (.ref c), some (.int m), some (.ref f), some (.int (0 + (i : Int))), some (.int a), some (.int b), some (.int mu), some (.str (wn k))] ∧ H'' = H' ∧ (k = .change → a ≠ b ∧ at0 caps a = at0 caps b) ∧ (k = .pour → a ≠ b), ?_, ?_⟩
        · refine ⟨_, rfl, rfl, _, rfl, ?_⟩
          by_cases hp : k = .pour
          · exact ifT (wnT (j := .pour) hp) ⟨_, rfl, _, rfl, rfl, _, rfl, ifD (fun _ => ⟨.put, rfl, rfl, (fun z => by cases z), fun z => by cases z⟩) (fun hab => ⟨k, rfl, rfl, hk, fun _ z => hab (by rw [z])⟩)⟩
          · exact ifF (wnF (j := .pour) hp) (ifF rfl ⟨k, rfl, rfl, hk, fun z => absurd z hp⟩)
        · rintro σ' H'' ⟨k, rfl, rfl, hk, hp⟩
          refine ⟨_, rfl, .inl ⟨rfl, _, SqL.of gf5⟩, _, rfl, _, rfl, _, rfl, _, rfl, (by show 2 ≤ sizeLine; decide), fun s3 hs3 => ?_⟩
          have sm5 : Same H'' (upd H'' s3 (.lst [.int b, .int mu])) := same_new hs3
          refine ⟨_, rfl, (by show 2 ≤ sizeLine; decide), fun s4 hs4 => ?_⟩
          have sm6 := sm5.trans (same_new (o := .tup [.str "put", .str "draw"]) hs4)
          have n34 : s3 ≠ s4 := fun z => by rw [← z, upd_same] at hs4; cases hs4
          refine ⟨s4, _, rfl, .inr (SqT.of upd_same), rfl, rfl, .inr ⟨_, rfl, s3, _, _, _, rfl, rfl, SqL.of (by rw [upd_ne n34]; exact upd_same), pick2, (by show 3 ≤ sizeLine; decide), fun t ht => ?_⟩⟩
          have sm7 := sm6.trans (same_new (o := .tup [.str (wn k), .int a, .int (if inV (.str (wn k)) [.str "put", .str "draw"] = true then mu else (b : Int))]) ht)
          have tf : f ≠ t := ne_of_none (sm6 _ _ gf5) ht
          have tl := gA5.len
          refine ⟨f, _, _, rfl, rfl, sm7 _ _ gf5, Nat.lt_of_lt_of_le (by omega : ts.length < 100) (by decide), ?_⟩
          have bl : Fr f (upd (upd (upd H'' s3 (.lst [.int b, .int mu])) s4 (.tup [.str "put", .str "draw"])) t (.tup [.str (wn k), .int a, .int (if inV (.str (wn k)) [.str "put", .str "draw"] = true then mu else (b : Int))])) _ := fr_mut (o := .lst (ts ++ [.ref t])) (Fr.refl _ _)
          refine ⟨_, _, _, _, _, ts ++ [.ref t], ds ++ [mkD k a b mu], rfl, upd_same, ?_, by simp [gl], ?_, ?_, ?_⟩
          · refine A2.app (A2.mono (fun _ _ q => (q.same sm7).fr bl (sm7 _ _ gf5) bl_l) gA5) ⟨⟨t, rfl, ?_⟩, trivial⟩
            refine bl _ _ tf.symm ?_
            rw [upd_same, mkD_word, mkD_fst, mkD_last, inV_word]
            by_cases hpd : k = .put ∨ k = .draw
            · rw [if_pos hpd, if_pos (decide_eq_true hpd)]
            · rw [if_neg hpd, if_neg (by rw [decide_eq_false hpd]; exact Bool.false_ne_true)]
          · intro d hd
            rcases List.mem_append.mp hd with q | q
            · exact gok d q
            · obtain rfl : d = mkD k a b mu := by simpa using q
              exact mkD_ok ha hb mb.1 mb.2 hp hk
          · exact (w5.same sm7).mut fu
          · exact fr_new (fr5.trans (Fr.of sm7)) hf
    · rintro σ H' ⟨v4, v5, v6, v7, v8, ts, ds, rfl, gf, gA, gl, gok, wl, fr⟩
      rw [Int.toNat_natCast] at gl
      exact ⟨_, rfl, hq H' f ts ds hf gf gA gl gok wl fr⟩
end
end Kp
namespace Kp
open PySem PySem.Spec PyProof.Rows L2 KpR
def D.toE : D → E1
  | .pour a b => .pour a b
  | .put a k => .put a k
  | .draw a k => .draw a k
  | .change a b => .change a b
theorem FactD.e {H : Hp} {v : V} {d : D} (h : FactD H v d) : FactAt H v d.toE := by
  obtain ⟨t, rfl, ht⟩ := h
  cases d <;> exact ⟨t, rfl, ht⟩
theorem inJ_of {n k : Nat} (h : k < n) : inJ n (k : Int) = true := by
  unfold inJ
  rw [decide_eq_true (by omega), decide_eq_true (by omega)]
  rfl
theorem good_toE {caps : List Int} {d : D} (h : d.ok caps) : d.toE.bad caps = none := by
  cases d with
  | put a k => simp [D.toE, E1.bad, inJ_of h.1, okN, h.2.1, h.2.2]
  | draw a k => simp [D.toE, E1.bad, inJ_of h.1, okN, h.2.1, h.2.2]
  | pour a b =>
    have ne : ¬ (a : Int) = (b : Int) := fun z => h.2.2 (Int.ofNat.inj z)
    simp only [D.toE, E1.bad, inJ_of h.1, inJ_of h.2.1, if_pos, if_neg ne]
  | change a b =>
    have ne : ¬ (a : Int) = (b : Int) := fun z => h.2.2.1 (Int.ofNat.inj z)
    have e : caps.getD a 0 = caps.getD b 0 := h.2.2.2
    simp only [D.toE, E1.bad, inJ_of h.1, inJ_of h.2.1, if_pos, if_neg ne, Int.toNat_natCast, e]
end Kp

namespace Kp
open PySem PySem.Spec PyProof.Rows L2 KpR
theorem FactAt.mk {H : Hp} {t : Addr} (e : E1) (h : H t = some (.tup [.str e.word, .int e.fst, .int e.last])) : FactAt H (.ref t) e := ⟨t, rfl, h⟩
section
variable {K : PySem.W.Frag} {mg : Str → Option Value}
def spLodd (T : Tx K mg) : Sp := fun vs H Q _ => ∃ (w c : Addr) (caps : List Int), vs = [.ref w, .ref c] ∧ WellAt H w ∧ H c = some (.lst (vi caps)) ∧ c ≠ w ∧ Caps caps ∧
  ∀ (H' : Hp) (p : V) (e : E1), FactAt H' p e → WellAt H' w → Fr w H H' → Q p H'
end
section
variable {P : Program} {w : World} {K : PySem.W.Frag} {mg : Str → Option Value} {base : Heap}
theorem okLodd (T : Tx K mg) : FnOk P w K mg base CX0 2 T.aLodd T.dLodd ["_law_well_here", "_law_caps_here"] (spLodd T) := by
  refine T.fLodd.ok scLodd (fun vs H Q E h => ?_) (fun cdv A outer s H vs Q E hr h => ?_)
  · obtain ⟨u, c, caps, rfl, _⟩ := h
    rfl
  · obtain ⟨u, c, caps, rfl, hw, hc, cu, hC, hq⟩ := h
    refine ⟨_, (pss_cons (ps_set (i := 2) scLodd.nd rfl (by first | exact Or.inl rfl | exact Or.inr rfl) (pe_callB call_len_seq rfl T.nlen PySem.boot_len (pa_cons (pv 1) pa_nil)))
      (pss_cons (ps_set (i := 3) scLodd.nd rfl (by first | exact Or.inl rfl | exact Or.inr rfl) (pe_call (okLdraw T) (hr.mono (by decide)) rfl T.gLdraw T.fLdraw.kp T.bLdraw .nil pass0 (pa_cons (pv 0) (pa_cons (pv 2) pa_nil))))
      (pss_cons (ps_set (i := 4) scLodd.nd rfl (by first | exact Or.inl rfl | exact Or.inr rfl) (pe_ix (r := rIxL K) ix_list (pe_lst (pa_cons (pv 2) (pa_cons (pe_un un_neg pe_int) (pa_cons pe_int (pa_cons (pe_op op_pow pe_int pe_int) pa_nil))))) (pe_call (okLdraw T) (hr.mono (by decide)) rfl T.gLdraw T.fLdraw.kp T.bLdraw .nil pass0 (pa_cons (pv 0) (pa_cons pe_int pa_nil))) (fun _ _ => rfl)))
      (pss_cons (ps_set (i := 5) scLodd.nd rfl (by first | exact Or.inl rfl | exact Or.inr rfl) (pe_op op_mod (pe_op op_add (pv 3) pe_int) (pv 2)))
      (pss_cons (ps_set (i := 6) scLodd.nd rfl (by first | exact Or.inl rfl | exact Or.inr rfl) (pe_lst (pa_cons (pe_tup (pa_cons pe_str (pa_cons (pv 4) (pa_cons (pv 3) pa_nil)))) (pa_cons (pe_tup (pa_cons pe_str (pa_cons (pv 3) (pa_cons (pv 4) pa_nil)))) (pa_cons (pe_tup (pa_cons pe_str (pa_cons (pv 4) (pa_cons (pv 4) pa_nil)))) (pa_cons (pe_tup (pa_cons pe_str (pa_cons (pv 3) (pa_cons (pv 3) pa_nil)))) (pa_cons (pe_tup (pa_cons pe_str (pa_cons (pv 4) (pa_cons pe_int pa_nil)))) pa_nil)))))))
      (pss_cons (ps_set (i := 6) scLodd.nd rfl (by first | exact Or.inl rfl | exact Or.inr rfl) (pe_op op_catR (pv 6) (pe_lst (pa_cons (pe_tup (pa_cons pe_str (pa_cons (pv 3) (pa_cons pe_int pa_nil)))) (pa_cons (pe_tup (pa_cons pe_str (pa_cons (pv 3) (pa_cons (pe_op op_add (pe_op op_pow pe_int pe_int) pe_int) pa_nil)))) (pa_cons (pe_tup (pa_cons pe_str (pa_cons (pv 3) (pa_cons (pe_un un_neg pe_int) pa_nil)))) (pa_cons (pe_tup (pa_cons pe_str (pa_cons (pv 4) (pa_cons pe_int pa_nil)))) pa_nil)))))))
      (pss_cons (ps_set (i := 6) scLodd.nd rfl (by first | exact Or.inl rfl | exact Or.inr rfl) (pe_op op_catR (pv 6) (pe_lst (pa_cons (pe_tup (pa_cons pe_str (pa_cons (pv 3) (pa_cons (pv 3) pa_nil)))) (pa_cons (pe_tup (pa_cons pe_str (pa_cons (pv 4) (pa_cons (pv 3) pa_nil)))) (pa_cons (pe_tup (pa_cons pe_str (pa_cons (pv 3) (pa_cons (pv 4) pa_nil)))) (pa_cons (pe_tup (pa_cons pe_str (pa_cons (pv 3) (pa_cons (pv 5) pa_nil)))) pa_nil)))))))
      (pss_cons (ps_set (i := 6) scLodd.nd rfl (by first | exact Or.inl rfl | exact Or.inr rfl) (pe_op op_catR (pv 6) (pe_lst (pa_cons (pe_tup (pa_cons pe_str (pa_cons (pv 4) (pa_cons (pv 4) pa_nil)))) (pa_cons (pe_tup (pa_cons pe_str (pa_cons (pv 3) (pa_cons pe_int pa_nil)))) (pa_cons (pe_tup (pa_cons pe_str (pa_cons (pv 3) (pa_cons (pe_op op_add (pe_op op_pow pe_int pe_int) pe_int) pa_nil)))) (pa_cons (pe_tup (pa_cons pe_str (pa_cons (pv 4) (pa_cons (pe_un un_neg pe_int) pa_nil)))) pa_nil)))))))
      (pss_one (ps_ret (pe_ix (r := rIxL K) ix_list (pv 6) (pe_call (okLdraw T) (hr.mono (by decide)) rfl T.gLdraw T.fLdraw.kp T.bLdraw .nil pass0 (pa_cons (pv 0) (pa_cons pe_int pa_nil))) (fun _ _ => rfl)))))))))))), ?_⟩
    have c1 := hC.l1
    have c6 := hC.l6
    have vl : (vi caps).length = caps.length := List.length_map ..
    refine ⟨_, rfl, c, _, rfl, .inl (SqL.of hc), ?_⟩
    rw [vl]
    refine ⟨_, rfl, _, rfl, u, _, rfl, hw, by omega, by omega, fun H1 g lg w1 f1 => ?_⟩
    refine ⟨_, rfl, _, rfl, _, _, rfl, rfl, ⟨by decide, by decide, by decide⟩, (by show 4 ≤ sizeLine; decide), fun lf hlf => ?_⟩
    have lfu := w1.ne hlf
    refine ⟨_, rfl, u, 4, rfl, w1.new hlf, by decide, by decide, fun H2 k lk w2 f2 => ?_⟩
    refine pickL (xs := [(caps.length : Int), -1, 6, 10 ^ (12 : Int).toNat]) (SqL.of (f2 _ _ lfu upd_same)) (by simp; omega) ?_
    generalize at0 [(caps.length : Int), -1, 6, 10 ^ (12 : Int).toNat] k = far
    have fr2 : Fr u H H2 := (f1.trans (Fr.of (same_new hlf))).trans f2
    refine ⟨_, rfl, _, _, rfl, rfl, _, rfl, _, _, rfl, rfl, (by show (0 : Int) < (caps.length : Int); omega), ?_⟩
    refine ⟨_, rfl, _, rfl, (by show 3 ≤ sizeLine; decide), fun t0 h0 => ?_⟩
    have s0 := same_new (o := HO.tup [V.str "pour", V.int far, V.int (g : Int)]) h0
    refine ⟨_, rfl, _, rfl, (by show 3 ≤ sizeLine; decide), fun t1 h1 => ?_⟩
    have s1 := same_new (o := HO.tup [V.str "pour", V.int (g : Int), V.int far]) h1
    refine ⟨_, rfl, _, rfl, (by show 3 ≤ sizeLine; decide), fun t2 h2 => ?_⟩
    have s2 := same_new (o := HO.tup [V.str "pour", V.int far, V.int far]) h2
    refine ⟨_, rfl, _, rfl, (by show 3 ≤ sizeLine; decide), fun t3 h3 => ?_⟩
    have s3 := same_new (o := HO.tup [V.str "pour", V.int (g : Int), V.int (g : Int)]) h3
    refine ⟨_, rfl, (by show 3 ≤ sizeLine; decide), fun t4 h4 => ?_⟩
    have s4 := same_new (o := HO.tup [V.str "put", V.int far, V.int 0]) h4
    refine ⟨(by show 5 ≤ sizeLine; decide), fun l0 hl0 => ?_⟩
    have sl0 := same_new (o := HO.lst [V.ref t0, V.ref t1, V.ref t2, V.ref t3, V.ref t4]) hl0
    refine ⟨_, rfl, ?_⟩
    refine ⟨_, rfl, (by show 3 ≤ sizeLine; decide), fun t5 h5 => ?_⟩
    have s5 := same_new (o := HO.tup [V.str "put", V.int (g : Int), V.int 0]) h5
    refine ⟨_, rfl, _, _, rfl, rfl, ⟨by decide, by decide, by decide⟩, _, _, rfl, rfl, (by show 3 ≤ sizeLine; decide), fun t6 h6 => ?_⟩
    have s6 := same_new (o := HO.tup [V.str "put", V.int (g : Int), V.int (10 ^ (12 : Int).toNat + 1)]) h6
    refine ⟨_, rfl, _, rfl, (by show 3 ≤ sizeLine; decide), fun t7 h7 => ?_⟩
    have s7 := same_new (o := HO.tup [V.str "put", V.int (g : Int), V.int (-1)]) h7
    refine ⟨_, rfl, (by show 3 ≤ sizeLine; decide), fun t8 h8 => ?_⟩
    have s8 := same_new (o := HO.tup [V.str "draw", V.int far, V.int 3]) h8
    refine ⟨(by show 4 ≤ sizeLine; decide), fun l1 hl1 => ?_⟩
    have sl1 := same_new (o := HO.lst [V.ref t5, V.ref t6, V.ref t7, V.ref t8]) hl1
    refine ⟨l0, l1, _, _, rfl, rfl, SqL.of (((((s5.trans s6).trans s7).trans s8).trans sl1) _ _ upd_same), SqL.of upd_same, (by show 9 ≤ sizeLine; decide), fun m1 hm1 => ?_⟩
    have sm1 := same_new (o := HO.lst [V.ref t0, V.ref t1, V.ref t2, V.ref t3, V.ref t4, V.ref t5, V.ref t6, V.ref t7, V.ref t8]) hm1
    refine ⟨_, rfl, ?_⟩
    refine ⟨_, rfl, _, rfl, (by show 3 ≤ sizeLine; decide), fun t9 h9 => ?_⟩
    have s9 := same_new (o := HO.tup [V.str "change", V.int (g : Int), V.int (g : Int)]) h9
    refine ⟨_, rfl, _, rfl, (by show 3 ≤ sizeLine; decide), fun t10 h10 => ?_⟩
    have s10 := same_new (o := HO.tup [V.str "change", V.int far, V.int (g : Int)]) h10
    refine ⟨_, rfl, _, rfl, (by show 3 ≤ sizeLine; decide), fun t11 h11 => ?_⟩
    have s11 := same_new (o := HO.tup [V.str "change", V.int (g : Int), V.int far]) h11
    refine ⟨_, rfl, _, rfl, (by show 3 ≤ sizeLine; decide), fun t12 h12 => ?_⟩
    have s12 := same_new (o := HO.tup [V.str "change", V.int (g : Int), V.int (((g : Int) + 1) % (caps.length : Int))]) h12
    refine ⟨(by show 4 ≤ sizeLine; decide), fun l2 hl2 => ?_⟩
    have sl2 := same_new (o := HO.lst [V.ref t9, V.ref t10, V.ref t11, V.ref t12]) hl2
    refine ⟨m1, l2, _, _, rfl, rfl, SqL.of (((((s9.trans s10).trans s11).trans s12).trans sl2) _ _ upd_same), SqL.of upd_same, (by show 13 ≤ sizeLine; decide), fun m2 hm2 => ?_⟩
    have sm2 := same_new (o := HO.lst [V.ref t0, V.ref t1, V.ref t2, V.ref t3, V.ref t4, V.ref t5, V.ref t6, V.ref t7, V.ref t8, V.ref t9, V.ref t10, V.ref t11, V.ref t12]) hm2
    refine ⟨_, rfl, ?_⟩
    refine ⟨_, rfl, _, rfl, (by show 3 ≤ sizeLine; decide), fun t13 h13 => ?_⟩
    have s13 := same_new (o := HO.tup [V.str "change", V.int far, V.int far]) h13
    refine ⟨_, rfl, (by show 3 ≤ sizeLine; decide), fun t14 h14 => ?_⟩
    have s14 := same_new (o := HO.tup [V.str "draw", V.int (g : Int), V.int 0]) h14
    refine ⟨_, rfl, _, _, rfl, rfl, ⟨by decide, by decide, by decide⟩, _, _, rfl, rfl, (by show 3 ≤ sizeLine; decide), fun t15 h15 => ?_⟩
    have s15 := same_new (o := HO.tup [V.str "draw", V.int (g : Int), V.int (10 ^ (12 : Int).toNat + 1)]) h15
    refine ⟨_, rfl, _, rfl, (by show 3 ≤ sizeLine; decide), fun t16 h16 => ?_⟩
    have s16 := same_new (o := HO.tup [V.str "draw", V.int far, V.int (-1)]) h16
    refine ⟨(by show 4 ≤ sizeLine; decide), fun l3 hl3 => ?_⟩
    have sl3 := same_new (o := HO.lst [V.ref t13, V.ref t14, V.ref t15, V.ref t16]) hl3
    refine ⟨m2, l3, _, _, rfl, rfl, SqL.of (((((s13.trans s14).trans s15).trans s16).trans sl3) _ _ upd_same), SqL.of upd_same, (by show 17 ≤ sizeLine; decide), fun m3 hm3 => ?_⟩
    have sm3 := same_new (o := HO.lst [V.ref t0, V.ref t1, V.ref t2, V.ref t3, V.ref t4, V.ref t5, V.ref t6, V.ref t7, V.ref t8, V.ref t9, V.ref t10, V.ref t11, V.ref t12, V.ref t13, V.ref t14, V.ref t15, V.ref t16]) hm3
    have z23 := sm3
    have z22 := sl3.trans z23
    have z21 := s16.trans z22
    have z20 := s15.trans z21
    have z19 := s14.trans z20
    have z18 := s13.trans z19
    have z17 := sm2.trans z18
    have z16 := sl2.trans z17
    have z15 := s12.trans z16
    have z14 := s11.trans z15
    have z13 := s10.trans z14
    have z12 := s9.trans z13
    have z11 := sm1.trans z12
    have z10 := sl1.trans z11
    have z9 := s8.trans z10
    have z8 := s7.trans z9
    have z7 := s6.trans z8
    have z6 := s5.trans z7
    have z5 := sl0.trans z6
    have z4 := s4.trans z5
    have z3 := s3.trans z4
    have z2 := s2.trans z3
    have z1 := s1.trans z2
    have z0 := s0.trans z1
    have w3 := w2.same z0
    have fr3 := fr2.trans (Fr.of z0)
    have hA : A2 (FactAt _) [V.ref t0, V.ref t1, V.ref t2, V.ref t3, V.ref t4, V.ref t5, V.ref t6, V.ref t7, V.ref t8, V.ref t9, V.ref t10, V.ref t11, V.ref t12, V.ref t13, V.ref t14, V.ref t15, V.ref t16] [E1.pour far (g : Int), E1.pour (g : Int) far, E1.pour far far, E1.pour (g : Int) (g : Int), E1.put far 0, E1.put (g : Int) 0, E1.put (g : Int) (10 ^ (12 : Int).toNat + 1), E1.put (g : Int) (-1), E1.draw far 3, E1.change (g : Int) (g : Int), E1.change far (g : Int), E1.change (g : Int) far, E1.change (g : Int) (((g : Int) + 1) % (caps.length : Int)), E1.change far far, E1.draw (g : Int) 0, E1.draw (g : Int) (10 ^ (12 : Int).toNat + 1), E1.draw far (-1)] := ⟨FactAt.mk _ (z1 _ _ upd_same), FactAt.mk _ (z2 _ _ upd_same), FactAt.mk _ (z3 _ _ upd_same), FactAt.mk _ (z4 _ _ upd_same), FactAt.mk _ (z5 _ _ upd_same), FactAt.mk _ (z7 _ _ upd_same), FactAt.mk _ (z8 _ _ upd_same), FactAt.mk _ (z9 _ _ upd_same), FactAt.mk _ (z10 _ _ upd_same), FactAt.mk _ (z13 _ _ upd_same), FactAt.mk _ (z14 _ _ upd_same), FactAt.mk _ (z15 _ _ upd_same), FactAt.mk _ (z16 _ _ upd_same), FactAt.mk _ (z19 _ _ upd_same), FactAt.mk _ (z20 _ _ upd_same), FactAt.mk _ (z21 _ _ upd_same), FactAt.mk _ (z22 _ _ upd_same), trivial⟩
    refine ⟨_, rfl, _, rfl, u, 17, rfl, w3, by decide, by decide, fun H3 n ln w4 f4 => ?_⟩
    have mu : m3 ≠ u := fun z => by
      obtain ⟨_, _, _, q⟩ := w3
      rw [← z, upd_same] at q
      cases q
    have n17 : n < [V.ref t0, V.ref t1, V.ref t2, V.ref t3, V.ref t4, V.ref t5, V.ref t6, V.ref t7, V.ref t8, V.ref t9, V.ref t10, V.ref t11, V.ref t12, V.ref t13, V.ref t14, V.ref t15, V.ref t16].length := by
      show n < 17
      omega
    obtain ⟨v, hv⟩ : ∃ v, [V.ref t0, V.ref t1, V.ref t2, V.ref t3, V.ref t4, V.ref t5, V.ref t6, V.ref t7, V.ref t8, V.ref t9, V.ref t10, V.ref t11, V.ref t12, V.ref t13, V.ref t14, V.ref t15, V.ref t16][n]? = some v := ⟨_, List.getElem?_eq_getElem n17⟩
    obtain ⟨e, _, hF⟩ := hA.get hv
    obtain ⟨uo, ho, bl⟩ := w3.ex
    refine ⟨m3, [V.ref t0, V.ref t1, V.ref t2, V.ref t3, V.ref t4, V.ref t5, V.ref t6, V.ref t7, V.ref t8, V.ref t9, V.ref t10, V.ref t11, V.ref t12, V.ref t13, V.ref t14, V.ref t15, V.ref t16], _, _, rfl, rfl, SqL.of (f4 _ _ mu upd_same), atI_nat hv, ?_⟩
    exact hq H3 v e (hF.fr f4 ho bl) w4 (fr3.trans f4)
end
end Kp

namespace Kp
open PySem PySem.Spec PyProof.Rows L2 KpR
def rLenK (K : PySem.W.Frag) : List V → Hp → VK → Prop := fun xs H Q => ∃ p ys, xs = [V.ref p] ∧ (SqL K H p ys ∨ SqT K H p ys) ∧ Q (V.int (ys.length : Nat)) H
def AmAt (H : Hp) (x : V) : Option Rf → Prop
  | none => x = .non
  | some (.count s n) => ∃ p, x = .ref p ∧ H p = some (.tup [.str "badcount", .str s, .int n])
  | some (.nojar j) => ∃ p, x = .ref p ∧ H p = some (.tup [.str "nojar", .int j])
  | some (.same j) => ∃ p, x = .ref p ∧ H p = some (.tup [.str "samejar", .int j])
  | some (.sizes a b) => ∃ p, x = .ref p ∧ H p = some (.tup [.str "sizes", .int a, .int b])
theorem AmAt.same {H H' : Hp} {x : V} {r : Option Rf} (e : Same H H') (h : AmAt H x r) : AmAt H' x r := by
  cases r with
  | none => exact h
  | some r =>
    cases r <;> obtain ⟨p, rfl, k⟩ := h <;> exact ⟨p, rfl, e _ _ k⟩
def E1.two : E1 → Bool
  | .pour _ _ => true
  | .change _ _ => true
  | _ => false
def E1.nums (e : E1) : List Int := if e.two then [e.fst, e.last] else [e.fst]
theorem two_in (e : E1) : inV (.str e.word) [.str "pour", .str "change"] = e.two := by
  cases e with
  | pour _ _ => exact (by decide +kernel : inV (.str "pour") [.str "pour", .str "change"] = true)
  | put _ _ => exact (by decide +kernel : inV (.str "put") [.str "pour", .str "change"] = false)
  | draw _ _ => exact (by decide +kernel : inV (.str "draw") [.str "pour", .str "change"] = false)
  | change _ _ => exact (by decide +kernel : inV (.str "change") [.str "pour", .str "change"] = true)
theorem nums_cut (e : E1) : cutV [V.int e.fst, V.int e.last] none (some (1 + (if (if false = true then !inV (.str e.word) [.str "pour", .str "change"] else inV (.str e.word) [.str "pour", .str "change"]) = true then 1 else 0))) = vi e.nums := by
  rw [if_neg Bool.false_ne_true, two_in]
  unfold E1.nums
  cases e.two with
  | true => exact cut_take (n := 2)
  | false => exact cut_take (n := 1)
section
variable {K : PySem.W.Frag}
theorem ne_intsB {H : Hp} {a b : Addr} {l m : List Int} {Q : VK} (h1 : SqL K H a (vi l)) (h2 : SqL K H b (vi m)) (q : Q (.bl (!decide (l = m))) H) : rNeD K (.ref a) (.ref b) H Q := by
  refine ⟨_, _, .lst h1 (dpI l), .lst h2 (dpI m), shape_i l, shape_i m, ?_⟩
  have z : PyData.eqv (.list (pdI l)) (.list (pdI m)) = decide (l = m) := by simp only [PyData.eqv, eqv_i]
  rw [z]
  exact q
end
theorem bad_head {caps : List Int} {e : E1} {z : Int} {r : List Int} (h : (e.nums.filter fun z => !inJ caps.length z) = z :: r) : e.bad caps = some (.nojar z) := by
  have one : ∀ {a : Int}, ([a].filter fun z => !inJ caps.length z) = z :: r → inJ caps.length a = false ∧ a = z := fun {a} h => by
    cases ha : inJ caps.length a with
    | true => rw [List.filter_cons_of_neg (by rw [ha]; decide)] at h; cases h
    | false => rw [List.filter_cons_of_pos (by rw [ha]; rfl)] at h; injection h with h _; exact ⟨rfl, h⟩
  have two : ∀ {a b : Int}, ([a, b].filter fun z => !inJ caps.length z) = z :: r → (inJ caps.length a = false ∧ a = z) ∨ (inJ caps.length a = true ∧ inJ caps.length b = false ∧ b = z) := fun {a b} h => by
    cases ha : inJ caps.length a with
    | true =>
      rw [List.filter_cons_of_neg (by rw [ha]; decide)] at h
      exact .inr ⟨rfl, one h⟩
    | false => rw [List.filter_cons_of_pos (by rw [ha]; rfl)] at h; injection h with h _; exact .inl ⟨rfl, h⟩
  cases e with
  | put a k =>
    obtain ⟨e1, rfl⟩ := one (a := a) h
    simp only [E1.bad, e1]
    rfl
  | draw a k =>
    obtain ⟨e1, rfl⟩ := one (a := a) h
    simp only [E1.bad, e1]
    rfl
  | pour a b =>
    rcases two (a := a) (b := b) h with ⟨e1, rfl⟩ | ⟨e0, e1, rfl⟩
    · simp only [E1.bad, e1]
      rfl
    · simp only [E1.bad, e0, e1]
      rfl
  | change a b =>
    rcases two (a := a) (b := b) h with ⟨e1, rfl⟩ | ⟨e0, e1, rfl⟩
    · simp only [E1.bad, e1]
      rfl
    · simp only [E1.bad, e0, e1]
      rfl
theorem nil_in {caps : List Int} {l : List Int} (h : (l.filter fun z => !inJ caps.length z) = []) : ∀ z ∈ l, inJ caps.length z = true := fun z hz => by
  cases k : inJ caps.length z with
  | true => rfl
  | false =>
    have : z ∈ l.filter fun z => !inJ caps.length z := List.mem_filter.mpr ⟨hz, by rw [k]; rfl⟩
    rw [h] at this
    cases this
section
variable {K : PySem.W.Frag} {mg : Str → Option Value}
def spLamiss (T : Tx K mg) : Sp := fun vs H Q _ => ∃ (c : Addr) (v : V) (caps : List Int) (e : E1), vs = [.ref c, v] ∧ SqL K H c (vi caps) ∧ FactAt H v e ∧ caps.length ≤ 6 ∧ ∀ (H' : Hp) (x : V), AmAt H' x (e.bad caps) → Same H H' → Q x H'
end
section
variable {P : Program} {w : World} {K : PySem.W.Frag} {mg : Str → Option Value} {base : Heap}
theorem okLamiss (T : Tx K mg) : FnOk P w K mg base CX0 1 T.aLamiss T.dLamiss ["_law_caps_here", "_law_fact"] (spLamiss T) := by
  refine T.fLamiss.ok scLamiss (fun vs H Q E h => ?_) (fun cdv A outer s H vs Q E hr h => ?_)
  · obtain ⟨c, v, caps, e, rfl, _⟩ := h
    rfl
  · obtain ⟨c, v, caps, e, rfl, hS, ⟨t, rfl, ht⟩, l6, hq⟩ := h
    refine ⟨_, (pss_cons (ps_asg (pv 1) (pg_tup rfl (pgs_cons (pg_name (i := 2) scLamiss.nd rfl (by first | exact Or.inl rfl | exact Or.inr rfl)) (pgs_cons (pg_name (i := 3) scLamiss.nd rfl (by first | exact Or.inl rfl | exact Or.inr rfl)) (pgs_cons (pg_name (i := 4) scLamiss.nd rfl (by first | exact Or.inl rfl | exact Or.inr rfl)) pgs_nil)))))
      (pss_cons (ps_set (i := 5) scLamiss.nd rfl (by first | exact Or.inl rfl | exact Or.inr rfl) (pe_slice sl_list (pe_lst (pa_cons (pv 3) (pa_cons (pv 4) pa_nil))) po_none (po_some (pe_op op_add pe_int (pe_callTy call_int1 rfl T.nint (by decide +kernel) (pa_cons (pe_cmpR (r := rIn K false) op_in_seq (pv 2) (pe_tup (pa_cons pe_str (pa_cons pe_str pa_nil))) (by rfl)) pa_nil))))))
      (pss_cons (ps_setLc (i := 6) (own := [("_law_number", 7)]) rfl scLamiss.nd rfl rfl (sw_true rfl rfl rfl (by decide +kernel)) (pi_list (pv 5)) (blkOk_by (own := [("_law_number", 7)]) (N := ["_law_caps_here", "_law_fact", "_law_word", "_law_here", "_law_last", "_law_numbers", "_law_bad", "_law_number"]) (sc := defScope sLamiss) (by decide +kernel)) (fun _ _ _ _ _ => (pg_name (i := 7) scLamiss.nd rfl (by first | exact Or.inl rfl | exact Or.inr rfl))) (fun _ _ _ _ _ => (pts_one (pt_not (pt_chain op_le op_lt pe_int (pv 7) (pe_callB (show CallR _ _ (rLenK K) from call_len_seq) rfl T.nlen PySem.boot_len (pa_cons (pv 0) pa_nil)))))) (fun _ _ _ _ _ => (pv 7)))
      (pss_cons (ps_if (pt_cmpR (r := rNeD K) (op_neD hr.units) (pv 6) (pe_lst pa_nil) (nomark _)) (pss_one (ps_ret (pe_tup (pa_cons pe_str (pa_cons (pe_ix (r := rIxL K) ix_list (pv 6) pe_int (fun _ _ => rfl)) pa_nil))))) pss_nil)
      (pss_cons (ps_if (pt_cmpR op_eq (pe_callB call_len_seq rfl T.nlen PySem.boot_len (pa_cons (pv 5) pa_nil)) pe_int (nomark _)) (pss_one (ps_ret (pe_ix (r := rIxL K) ix_list (pe_lst (pa_cons (pe_tup (pa_cons pe_str (pa_cons pe_str (pa_cons (pv 4) pa_nil)))) (pa_cons pe_non pa_nil))) (pe_callTy call_int1 rfl T.nint (by decide +kernel) (pa_cons (pe_chain op_le op_le pe_int (pv 4) (pe_op op_pow pe_int pe_int)) pa_nil)) (fun _ _ => rfl)))) pss_nil)
      (pss_cons (ps_if (pt_cmpR op_eq (pv 3) (pv 4) (nomark _)) (pss_one (ps_ret (pe_tup (pa_cons pe_str (pa_cons (pv 3) pa_nil))))) pss_nil)
      (pss_cons (ps_if (PW.pt (pw_and (pt_cmpR op_eq (pv 2) pe_str (nomark _)) (pw_and1 (pt_cmpR op_ne (pe_ix (r := rIxL K) ix_list (pv 0) (pv 3) (fun _ _ => rfl)) (pe_ix (r := rIxL K) ix_list (pv 0) (pv 4) (fun _ _ => rfl)) (nomark _))))) (pss_one (ps_ret (pe_tup (pa_cons pe_str (pa_cons (pv 3) (pa_cons (pv 4) pa_nil)))))) pss_nil)
      (pss_one (ps_ret pe_non))))))))), ?_⟩
    have el : (vi caps).length = caps.length := List.length_map ..
    refine ⟨_, rfl, t, _, rfl, SqT.of ht, rfl, _, _, rfl, _, _, rfl, _, _, rfl, rfl, ?_⟩
    refine ⟨_, rfl, _, rfl, (by show 2 ≤ sizeLine; decide), fun l hl => ?_⟩
    have s1 := same_new (o := HO.lst [V.int e.fst, V.int e.last]) hl
    refine ⟨_, rfl, (by show 2 ≤ sizeLine; decide), fun s hs => ?_⟩
    have s2 := same_new (o := HO.tup [V.str "pour", V.str "change"]) hs
    refine ⟨s, _, rfl, .inr (SqT.of upd_same), rfl, rfl, .inr ⟨_, rfl, _, _, rfl, rfl, _, rfl, l, _, rfl, SqL.of (s2 _ _ upd_same), fun n hn => ?_⟩⟩
    rw [nums_cut]
    have s3 := (s1.trans s2).trans (same_new (o := HO.lst (vi e.nums)) hn)
    have gn : (upd (upd (upd H l (HO.lst [V.int e.fst, V.int e.last])) s (HO.tup [V.str "pour", V.str "change"])) n (HO.lst (vi e.nums))) n = some (.lst (vi e.nums)) := upd_same
    generalize (upd (upd (upd H l (HO.lst [V.int e.fst, V.int e.last])) s (HO.tup [V.str "pour", V.str "change"])) n (HO.lst (vi e.nums))) = G at s3 gn ⊢
    clear s2 s1 hs hl hn
    refine ⟨_, rfl, n, rfl, ⟨_, SqL.of gn⟩, fun D1 hD1 => ?_⟩
    refine lc_list (K := K) (a := n) (xs := vi e.nums) (fun i H' => H' D1 = some (.lst (vi ((e.nums.take i).filter fun z => !inJ caps.length z))) ∧ Same G H') ⟨upd_same, same_new hD1⟩ (fun i H' _ h => h.2.seq (SqL.of gn)) ?_ ?_
    · rintro i y H' hi ⟨g, sm⟩
      obtain ⟨z, hz, rfl⟩ := vi_get hi
      have e1 : (e.nums.take (i + 1)).filter (fun z => !inJ caps.length z) = (e.nums.take i).filter (fun z => !inJ caps.length z) ++ (if inJ caps.length z = true then [] else [z]) := by
        rw [List.take_add_one, hz, List.filter_append]
        cases k : inJ caps.length z <;> simp [k]
      have bl : ((e.nums.take i).filter (fun z => !inJ caps.length z)).length ≤ 8 := by
        have q1 := List.length_filter_le (fun z => !inJ caps.length z) (e.nums.take i)
        rw [List.length_take] at q1
        have q2 : e.nums.length ≤ 2 := by
          unfold E1.nums
          split <;> simp
        omega
      have no : inJ caps.length z = false → ∃ acc, H' D1 = some (.lst acc) ∧ acc.length < sizeLine ∧ ((upd H' D1 (.lst (acc ++ [V.int z]))) D1 = some (.lst (vi ((e.nums.take (i + 1)).filter fun z => !inJ caps.length z))) ∧ Same G (upd H' D1 (.lst (acc ++ [V.int z])))) := fun k => by
        refine ⟨_, g, Nat.lt_of_lt_of_le (by rw [List.length_map]; omega : _ < 100) (by decide), ?_, same_mut sm hD1⟩
        rw [upd_same, e1, k]
        simp [vi]
      refine ⟨rfl, ?_⟩
      by_cases c1 : (0 : Int) ≤ z
      · refine ⟨_, rfl, _, _, rfl, rfl, _, rfl, ifT (decide_eq_true c1) ?_⟩
        refine ⟨_, rfl, c, _, rfl, .inl ((s3.trans sm).seq hS), _, _, rfl, rfl, _, rfl, ?_⟩
        by_cases c2 : z < (caps.length : Int)
        · have k : inJ caps.length z = true := by unfold inJ; rw [decide_eq_true c1, decide_eq_true c2]; rfl
          refine iteNS (by rw [el]; exact c2) ⟨?_, sm⟩
          rw [g, e1, k]
          simp
        · have k : inJ caps.length z = false := by unfold inJ; rw [decide_eq_false c2, Bool.and_false]
          refine (congrArg (fun c : Bool => if (!c) = true then _ else _) (decide_eq_false (by rw [el]; exact c2))).mpr ?_
          exact ifT rfl ⟨_, rfl, no k⟩
      · refine ⟨_, rfl, _, _, rfl, rfl, _, rfl, ifF (decide_eq_false c1) ?_⟩
        have k : inJ caps.length z = false := by unfold inJ; rw [decide_eq_false c1]; rfl
        exact ⟨_, rfl, ifT rfl ⟨_, rfl, no k⟩⟩
    · rintro H' ⟨g, sm⟩
      have nl : (vi e.nums).length = e.nums.length := List.length_map ..
      rw [nl, List.take_length] at g
      have s4 := s3.trans sm
      refine ⟨_, rfl, (by show 0 ≤ sizeLine; decide), fun e0 he0 => ?_⟩
      have s5 : Same H' (upd H' e0 (.lst [])) := same_new he0
      have g' : upd H' e0 (.lst []) D1 = some (.lst (vi (e.nums.filter fun z => !inJ caps.length z))) := s5 _ _ g
      have gn' : upd H' e0 (.lst []) n = some (.lst (vi e.nums)) := s5 _ _ (sm _ _ gn)
      refine ne_intsB (m := []) (SqL.of g') (SqL.of upd_same) ⟨_, rfl, ?_⟩
      have s6 := s4.trans s5
      generalize upd H' e0 (.lst []) = G1 at g' gn' s6 ⊢
      cases hb : e.nums.filter fun z => !inJ caps.length z with
      | cons z r =>
        refine ifT rfl ⟨_, rfl, ?_⟩
        refine pickL (xs := z :: r) (n := 0) (SqL.of (by rw [g', hb])) (by simp) ⟨(by show 2 ≤ sizeLine; decide), fun p hp => ?_⟩
        refine hq _ _ ?_ (s6.trans (same_new hp))
        rw [bad_head hb]
        exact ⟨p, rfl, upd_same⟩
      | nil =>
        have ins := nil_in hb
        refine ifF rfl ⟨_, rfl, n, _, rfl, .inl (SqL.of gn'), rfl, _, rfl, ?_⟩
        have big : ∀ a k : Int, inJ caps.length a = true → (e = .put a k ∨ e = .draw a k) → e.bad caps = if okN k = true then none else some (.count "much" k) := fun a k h1 h2 => by
          rcases h2 with rfl | rfl <;> simp only [E1.bad, h1] <;> rfl
        have one : ∀ a k : Int, inJ caps.length a = true → e.last = k → (e = .put a k ∨ e = .draw a k) → (okN k = true → AmAt G1 .non (e.bad caps)) := fun a k h1 h2 h3 h4 => by
          rw [big a k h1 h3, if_pos h4]
          rfl
        cases e with
        | put a k =>
          have e1 := ins a (List.mem_cons_self ..)
          refine ifT rfl ⟨_, rfl, (by show 3 ≤ sizeLine; decide), fun u hu => ⟨(by show 2 ≤ sizeLine; decide), fun v hv => ?_⟩⟩
          have s7 := (same_new (o := HO.tup [V.str "badcount", V.str "much", V.int (E1.put a k).last]) hu).trans (same_new (o := HO.lst [V.ref u, V.non]) hv)
          have hv1 : (upd (upd G1 u (HO.tup [V.str "badcount", V.str "much", V.int (E1.put a k).last])) v (HO.lst [V.ref u, V.non])) v = some (HO.lst [V.ref u, V.non]) := upd_same
          have hu1 : (upd (upd G1 u (HO.tup [V.str "badcount", V.str "much", V.int (E1.put a k).last])) v (HO.lst [V.ref u, V.non])) u = some (HO.tup [V.str "badcount", V.str "much", V.int (E1.put a k).last]) := (same_new hv) _ _ upd_same
          have s8 := s6.trans s7
          generalize (upd (upd G1 u (HO.tup [V.str "badcount", V.str "much", V.int (E1.put a k).last])) v (HO.lst [V.ref u, V.non])) = G2 at hv1 hu1 s8 ⊢
          have bg := big a k e1 (.inl rfl)
          have no : okN k = false → Q (.ref u) G2 := fun h => hq _ _ (by rw [bg, h]; exact ⟨u, rfl, hu1⟩) s8
          have p12 : (10 : Int) ^ (12 : Int).toNat = 1000000000000 := by decide
          by_cases c1 : (1 : Int) ≤ k
          · refine ⟨_, rfl, _, _, rfl, rfl, _, rfl, ifT (decide_eq_true c1) ?_⟩
            refine ⟨_, _, rfl, rfl, ⟨by decide, by decide, by decide⟩, _, _, rfl, rfl, .inr ⟨_, rfl, ?_⟩⟩
            rw [p12]
            by_cases c2 : k ≤ 1000000000000
            · have ok : okN k = true := by unfold okN; rw [decide_eq_true c1, decide_eq_true c2]; rfl
              rw [show decide ((E1.put a k).last ≤ 1000000000000) = true from decide_eq_true c2]
              exact ⟨v, _, _, _, rfl, rfl, SqL.of hv1, rfl, hq _ _ (by rw [bg, ok]; rfl) s8⟩
            · have ok : okN k = false := by unfold okN; rw [decide_eq_true c1, decide_eq_false c2]; rfl
              rw [show decide ((E1.put a k).last ≤ 1000000000000) = false from decide_eq_false c2]
              exact ⟨v, _, _, _, rfl, rfl, SqL.of hv1, rfl, no ok⟩
          · have ok : okN k = false := by unfold okN; rw [decide_eq_false c1]; rfl
            refine ⟨_, rfl, _, _, rfl, rfl, _, rfl, ifF (decide_eq_false c1) (.inr ⟨_, rfl, ?_⟩)⟩
            exact ⟨v, _, _, _, rfl, rfl, SqL.of hv1, rfl, no ok⟩
        | draw a k =>
          have e1 := ins a (List.mem_cons_self ..)
          refine ifT rfl ⟨_, rfl, (by show 3 ≤ sizeLine; decide), fun u hu => ⟨(by show 2 ≤ sizeLine; decide), fun v hv => ?_⟩⟩
          have s7 := (same_new (o := HO.tup [V.str "badcount", V.str "much", V.int (E1.draw a k).last]) hu).trans (same_new (o := HO.lst [V.ref u, V.non]) hv)
          have hv1 : (upd (upd G1 u (HO.tup [V.str "badcount", V.str "much", V.int (E1.draw a k).last])) v (HO.lst [V.ref u, V.non])) v = some (HO.lst [V.ref u, V.non]) := upd_same
          have hu1 : (upd (upd G1 u (HO.tup [V.str "badcount", V.str "much", V.int (E1.draw a k).last])) v (HO.lst [V.ref u, V.non])) u = some (HO.tup [V.str "badcount", V.str "much", V.int (E1.draw a k).last]) := (same_new hv) _ _ upd_same
          have s8 := s6.trans s7
          generalize (upd (upd G1 u (HO.tup [V.str "badcount", V.str "much", V.int (E1.draw a k).last])) v (HO.lst [V.ref u, V.non])) = G2 at hv1 hu1 s8 ⊢
          have bg := big a k e1 (.inr rfl)
          have no : okN k = false → Q (.ref u) G2 := fun h => hq _ _ (by rw [bg, h]; exact ⟨u, rfl, hu1⟩) s8
          have p12 : (10 : Int) ^ (12 : Int).toNat = 1000000000000 := by decide
          by_cases c1 : (1 : Int) ≤ k
          · refine ⟨_, rfl, _, _, rfl, rfl, _, rfl, ifT (decide_eq_true c1) ?_⟩
            refine ⟨_, _, rfl, rfl, ⟨by decide, by decide, by decide⟩, _, _, rfl, rfl, .inr ⟨_, rfl, ?_⟩⟩
            rw [p12]
            by_cases c2 : k ≤ 1000000000000
            · have ok : okN k = true := by unfold okN; rw [decide_eq_true c1, decide_eq_true c2]; rfl
              rw [show decide ((E1.draw a k).last ≤ 1000000000000) = true from decide_eq_true c2]
              exact ⟨v, _, _, _, rfl, rfl, SqL.of hv1, rfl, hq _ _ (by rw [bg, ok]; rfl) s8⟩
            · have ok : okN k = false := by unfold okN; rw [decide_eq_true c1, decide_eq_false c2]; rfl
              rw [show decide ((E1.draw a k).last ≤ 1000000000000) = false from decide_eq_false c2]
              exact ⟨v, _, _, _, rfl, rfl, SqL.of hv1, rfl, no ok⟩
          · have ok : okN k = false := by unfold okN; rw [decide_eq_false c1]; rfl
            refine ⟨_, rfl, _, _, rfl, rfl, _, rfl, ifF (decide_eq_false c1) (.inr ⟨_, rfl, ?_⟩)⟩
            exact ⟨v, _, _, _, rfl, rfl, SqL.of hv1, rfl, no ok⟩
        | pour a b =>
          have e1 := ins a (List.mem_cons_self ..)
          have e2 := ins b (List.mem_cons_of_mem _ (List.mem_cons_self ..))
          refine ifF rfl ⟨_, rfl, _, rfl, rfl, _, rfl, ifD (fun h => ?_) fun h => ?_⟩
          · injection h with h
            have h : a = b := h
            refine ⟨_, rfl, (by show 2 ≤ sizeLine; decide), fun p hp => hq _ _ ?_ (s6.trans (same_new hp))⟩
            simp only [E1.bad, e1, e2, if_pos, if_pos h]
            exact ⟨p, rfl, upd_same⟩
          · have ne : ¬ a = b := fun z => h (congrArg V.int z)
            refine ⟨_, rfl, rfl, _, rfl, ifF (show decide (V.str "pour" = V.str "change") = false by decide +kernel) (ifF rfl (hq _ _ ?_ s6))⟩
            simp only [E1.bad, e1, e2, if_pos, if_neg ne]
            rfl
        | change a b =>
          have e1 := ins a (List.mem_cons_self ..)
          have e2 := ins b (List.mem_cons_of_mem _ (List.mem_cons_self ..))
          refine ifF rfl ⟨_, rfl, _, rfl, rfl, _, rfl, ifD (fun h => ?_) fun h => ?_⟩
          · injection h with h
            have h : a = b := h
            refine ⟨_, rfl, (by show 2 ≤ sizeLine; decide), fun p hp => hq _ _ ?_ (s6.trans (same_new hp))⟩
            simp only [E1.bad, e1, e2, if_pos, if_pos h]
            exact ⟨p, rfl, upd_same⟩
          · have ne : ¬ a = b := fun z => h (congrArg V.int z)
            obtain ⟨na, rfl, la⟩ := inJ_nat e1
            obtain ⟨nb, rfl, lb⟩ := inJ_nat e2
            have hS6 := s6.seq hS
            refine ⟨_, rfl, rfl, _, rfl, ifT (show decide (V.str "change" = V.str "change") = true by decide +kernel) ?_⟩
            refine ⟨_, rfl, _, rfl, c, _, _, _, rfl, rfl, hS6, vi_at la, _, rfl, _, rfl, c, _, _, _, rfl, rfl, hS6, vi_at lb, rfl, _, rfl, ifN (fun h => ?_) fun h => ?_⟩
            · injection h with h
              have h : caps.getD na 0 = caps.getD nb 0 := h
              refine hq _ _ ?_ s6
              simp only [E1.bad, e1, e2, if_pos, if_neg ne, Int.toNat_natCast, if_pos h]
              rfl
            · have h : ¬ caps.getD na 0 = caps.getD nb 0 := fun z => h (congrArg V.int z)
              refine ⟨_, rfl, _, rfl, (by show 3 ≤ sizeLine; decide), fun p hp => hq _ _ ?_ (s6.trans (same_new hp))⟩
              simp only [E1.bad, e1, e2, if_pos, if_neg ne, Int.toNat_natCast, if_neg h]
              exact ⟨p, rfl, upd_same⟩
end
end Kp

namespace Kp
open PySem PySem.Spec PyProof.Rows L2 KpR
/-- how a row is refused, if it is -/
def rowBad (caps : List Int) (ds : List E1) : Option Rf := if ds.length > 20 then some (.count "deeds" ds.length) else firstBad caps ds
def OutAt (H : Hp) (x : V) : Option Rf → Prop
  | none => x = .str "told"
  | some r => AmAt H x (some r)
theorem OutAt.same {H H' : Hp} {x : V} {r : Option Rf} (e : Same H H') (h : OutAt H x r) : OutAt H' x r := by
  cases r with
  | none => exact h
  | some r => exact AmAt.same (r := some r) e h
def factP (e : E1) : PyData := .tuple [.str e.word, .int e.fst, .int e.last]
theorem factP_flat (e : E1) : Flat 1 (factP e) := by
  refine Flat.tup (f := id) (l := [.str e.word, .int e.fst, .int e.last]) fun x hx => ?_
  rcases List.mem_cons.mp hx with rfl | hx
  · cases e with
    | pour _ _ => exact Flat.str (by decide +kernel : (PyData.str "pour").canLay0 = true)
    | put _ _ => exact Flat.str (by decide +kernel : (PyData.str "put").canLay0 = true)
    | draw _ _ => exact Flat.str (by decide +kernel : (PyData.str "draw").canLay0 = true)
    | change _ _ => exact Flat.str (by decide +kernel : (PyData.str "change").canLay0 = true)
  · rcases List.mem_cons.mp hx with rfl | hx
    · exact Flat.int
    · rcases List.mem_cons.mp hx with rfl | hx
      · exact Flat.int
      · cases hx
theorem firstBad_none {caps : List Int} : ∀ {l : List E1}, (l.filter fun d => (d.bad caps).isSome) = [] → firstBad caps l = none
  | [], _ => rfl
  | d :: l, h => by
    cases c : d.bad caps with
    | some x => rw [List.filter_cons_of_pos (by rw [c]; rfl)] at h; cases h
    | none =>
      rw [List.filter_cons_of_neg (by rw [c]; exact Bool.false_ne_true)] at h
      simp only [firstBad, c]
      exact firstBad_none h
theorem firstBad_some {caps : List Int} {d0 : E1} {r : List E1} : ∀ {l : List E1}, (l.filter fun d => (d.bad caps).isSome) = d0 :: r → firstBad caps l = d0.bad caps ∧ ∃ x, d0.bad caps = some x
  | [], h => by cases h
  | d :: l, h => by
    cases c : d.bad caps with
    | some x =>
      rw [List.filter_cons_of_pos (by rw [c]; rfl)] at h
      injection h with h _
      subst h
      exact ⟨by simp only [firstBad, c], x, c⟩
    | none =>
      rw [List.filter_cons_of_neg (by rw [c]; exact Bool.false_ne_true)] at h
      simp only [firstBad, c]
      exact firstBad_some h
section
variable {K : PySem.W.Frag} {mg : Str → Option Value}
theorem dp_fact {H : Hp} {t : V} {e : E1} (h : FactAt H t e) : Dp K H t (factP e) := by
  obtain ⟨t, rfl, h⟩ := h
  exact .tup (SqT.of h) (.cons (.str _) (.cons (.int _) (.cons (.int _) .nil)))
theorem ne_facts {H : Hp} {a b : Addr} {ts : List V} {ds : List E1} {Q : VK} (h1 : SqL K H a ts) (hA : A2 (FactAt H) ts ds) (h2 : SqL K H b []) (q : Q (.bl (!decide (ds = []))) H) : rNeD K (.ref a) (.ref b) H Q := by
  refine neD (d := .list (ds.map factP)) (e := .list []) (.lst h1 (dp_map (fun _ _ h => dp_fact h) hA)) (.lst h2 .nil) ((Flat.list fun x _ => factP_flat x).mono (by decide)) ((Flat.list (f := id) (n := 0) (l := []) fun x hx => by cases hx).mono (by decide)) ?_
  cases ds with
  | nil => exact q
  | cons d ds =>
    have : PyData.eqv (.list (List.map factP (d :: ds))) (.list []) = false := by simp only [PyData.eqv, List.map_cons, PyData.eqvAll]
    rw [this]
    exact q
def spLdue (T : Tx K mg) : Sp := fun vs H Q _ => ∃ (c f : Addr) (caps : List Int) (ts : List V) (ds : List E1), vs = [.ref c, .ref f] ∧ SqL K H c (vi caps) ∧ SqL K H f ts ∧ A2 (FactAt H) ts ds ∧ caps.length ≤ 6 ∧ ds.length ≤ 60 ∧ ∀ (H' : Hp) (x : V), OutAt H' x (rowBad caps ds) → Same H H' → Q x H'
end
section
variable {P : Program} {w : World} {K : PySem.W.Frag} {mg : Str → Option Value} {base : Heap}
theorem okLdue (T : Tx K mg) : FnOk P w K mg base CX0 2 T.aLdue T.dLdue ["_law_caps_here", "_law_facts_here"] (spLdue T) := by
  refine T.fLdue.ok scLdue (fun vs H Q E h => ?_) (fun cdv A outer s H vs Q E hr h => ?_)
  · obtain ⟨c, f, caps, ts, ds, rfl, _⟩ := h
    rfl
  · obtain ⟨c, f, caps, ts, ds, rfl, hc, hf, hA, l6, l60, hq⟩ := h
    refine ⟨_, (pss_cons (ps_if (pt_cmpR op_gt (pe_callB call_len_seq rfl T.nlen PySem.boot_len (pa_cons (pv 1) pa_nil)) pe_int (nomark _)) (pss_one (ps_ret (pe_tup (pa_cons pe_str (pa_cons pe_str (pa_cons (pe_callB call_len_seq rfl T.nlen PySem.boot_len (pa_cons (pv 1) pa_nil)) pa_nil)))))) pss_nil)
      (pss_cons (ps_setLc (i := 2) (own := [("_law_fact", 3)]) rfl scLdue.nd rfl rfl (sw_true rfl rfl rfl (by decide +kernel)) (pi_list (pv 1)) (blkOk_by (own := [("_law_fact", 3)]) (N := ["_law_caps_here", "_law_facts_here", "_law_bad", "_law_fact"]) (sc := defScope sLdue) (by decide +kernel)) (fun _ _ _ _ _ => (pg_name (i := 3) scLdue.nd rfl (by first | exact Or.inl rfl | exact Or.inr rfl))) (fun _ _ _ _ _ => (pts_one (pt_cmpR op_notN (pe_call (okLamiss T) (hr.mono (by decide)) rfl T.gLamiss T.fLamiss.kp T.bLamiss .nil pass0 (pa_cons (pv 0) (pa_cons (pv 3) pa_nil))) pe_non (nomark _)))) (fun _ _ _ _ _ => (pv 3)))
      (pss_cons (ps_if (pt_cmpR (r := rNeD K) (op_neD hr.units) (pv 2) (pe_lst pa_nil) (nomark _)) (pss_one (ps_ret (pe_call (okLamiss T) (hr.mono (by decide)) rfl T.gLamiss T.fLamiss.kp T.bLamiss .nil pass0 (pa_cons (pv 0) (pa_cons (pe_ix (r := rIxL K) ix_list (pv 2) pe_int (fun _ _ => rfl)) pa_nil))))) pss_nil)
      (pss_one (ps_ret pe_str))))), ?_⟩
    have el := hA.len
    refine ⟨_, rfl, f, _, rfl, .inl hf, _, _, rfl, rfl, _, rfl, ifD (fun g => ?_) fun g => ?_⟩
    · refine ⟨_, rfl, f, _, rfl, .inl hf, (by show 3 ≤ sizeLine; decide), fun p hp => ?_⟩
      refine hq _ _ ?_ (same_new hp)
      unfold rowBad
      rw [if_pos (by rw [← el]; omega)]
      refine ⟨p, rfl, ?_⟩
      rw [upd_same, el]
    · have rb : rowBad caps ds = firstBad caps ds := by
        unfold rowBad
        rw [if_neg (by rw [← el]; omega)]
      refine ⟨_, rfl, f, rfl, ⟨_, hf⟩, fun D1 hD1 => ?_⟩
      refine lc_list (K := K) (a := f) (xs := ts) (fun i H' => (∃ ws, H' D1 = some (.lst ws) ∧ A2 (FactAt H') ws ((ds.take i).filter fun d => (d.bad caps).isSome)) ∧ Same H H') ⟨⟨[], upd_same, trivial⟩, same_new hD1⟩ (fun i H' _ h => h.2.seq hf) ?_ ?_
      · rintro i y H' hi ⟨⟨ws, g1, g2⟩, sm⟩
        obtain ⟨d, hd, hy⟩ := hA.get hi
        have e1 : (ds.take (i + 1)).filter (fun d => (d.bad caps).isSome) = (ds.take i).filter (fun d => (d.bad caps).isSome) ++ (if (d.bad caps).isSome = true then [d] else []) := by
          rw [List.take_add_one, hd, List.filter_append]
          cases k : (d.bad caps).isSome <;> simp [k]
        have bl : ws.length < 100 := by
          have q1 := List.length_filter_le (fun d : E1 => (d.bad caps).isSome) (ds.take i)
          rw [List.length_take] at q1
          rw [g2.len]
          omega
        refine ⟨rfl, _, rfl, _, rfl, c, y, caps, d, rfl, sm.seq hc, hy.same sm, l6, fun H2 x hx s2 => ?_⟩
        have hy2 := (hy.same sm).same s2
        have g3 := A2.mono (fun _ _ q => FactAt.same s2 q) g2
        cases hb : d.bad caps with
        | none =>
          rw [hb] at hx
          cases hx
          refine ⟨rfl, _, rfl, ifF rfl ⟨⟨ws, s2 _ _ g1, ?_⟩, sm.trans s2⟩⟩
          rw [e1, hb]
          simpa using g3
        | some r =>
          rw [hb] at hx
          have nn : ∃ p, x = .ref p := by
            cases r <;> obtain ⟨p, rfl, _⟩ := hx <;> exact ⟨p, rfl⟩
          obtain ⟨p, rfl⟩ := nn
          refine ⟨rfl, _, rfl, ifT rfl ⟨_, rfl, ws, s2 _ _ g1, Nat.lt_of_lt_of_le bl (by decide), ⟨⟨_, upd_same, ?_⟩, ?_⟩⟩⟩
          · rw [e1, hb]
            have mu : Fr D1 H2 (upd H2 D1 (.lst (ws ++ [y]))) := fr_mut (Fr.refl _ _)
            exact A2.app (A2.mono (fun _ _ q => FactAt.fr mu (s2 _ _ g1) bl_l q) g3) ⟨FactAt.fr mu (s2 _ _ g1) bl_l hy2, trivial⟩
          · exact same_mut (sm.trans s2) hD1
      · rintro H' ⟨⟨ws, g1, g2⟩, sm⟩
        rw [el, List.take_length] at g2
        refine ⟨_, rfl, (by show 0 ≤ sizeLine; decide), fun e0 he0 => ?_⟩
        have s5 : Same H' (upd H' e0 (.lst [])) := same_new he0
        have g5 := A2.mono (fun _ _ q => FactAt.same s5 q) g2
        refine ne_facts (SqL.of (s5 _ _ g1)) g5 (SqL.of upd_same) ⟨_, rfl, ?_⟩
        have s6 := sm.trans s5
        have g6 := s5 _ _ g1
        generalize upd H' e0 (.lst []) = G1 at g5 g6 s6 ⊢
        cases hb : ds.filter (fun d => (d.bad caps).isSome) with
        | nil => 
          refine ifF rfl (hq _ _ ?_ s6)
          rw [rb, firstBad_none hb]
          rfl
        | cons d0 r =>
          rw [hb] at g5
          obtain ⟨e1, x0, e2⟩ := firstBad_some hb
          match ws, g5, g6 with
          | [], g5, _ => exact g5.elim
          | y :: ws', g5, g6 =>
            refine ifT rfl ⟨_, rfl, _, rfl, D1, _, _, _, rfl, rfl, SqL.of g6, atI_nat (j := 0) (show (y :: ws')[0]? = some y from rfl), c, y, caps, d0, rfl, s6.seq hc, g5.1, l6, fun H2 x hx s2 => hq _ _ ?_ (s6.trans s2)⟩
            rw [rb, e1, e2]
            rw [e2] at hx
            exact hx
end
end Kp

namespace Kp
open PySem PySem.Spec PyProof.Rows L2 KpR
section
variable {K : PySem.W.Frag} {mg : Str → Option Value}
def spLsaid (T : Tx K mg) : Sp := fun vs H Q _ => ∃ (c f : Addr) (caps : List Int) (ts : List V) (ds : List E1), vs = [.ref c, .ref f] ∧ H c = some (.lst (vi caps)) ∧ Caps caps ∧ SqL K H f ts ∧ A2 (FactAt H) ts ds ∧ ds.length ≤ 60 ∧ ∀ (H' : Hp) (x : V), OutAt H' x (rowBad caps ds) → Same H H' → Q x H'
def saidL (K : PySem.W.Frag) {mg : Str → Option Value} (T : Tx K mg) : List (Value × Nat × (Addr → Value → Option Addr → TS)) :=
  [(.ref T.cBadCount, 3, fun a cls d => tRet (tTup (tCons (tC (.str "badcount")) (tCons (tXf a cls d T.cBadCount "what" (tVar 3)) (tCons (tXf a cls d T.cBadCount "count" (tVar 3)) tNil))))),
   (.ref T.cNoJar, 3, fun a cls d => tRet (tSl (rSlT K) (tTup (tCons (tC (.str "nojar")) (tCons (tXf a cls d T.cNoJar "jar" (tVar 3)) (tCons (tC (.str "start")) tNil)))) tNoPart
      (tPart (tOp (rI0 fun i j => V.int (i - j)) (tC (.int 3)) (tCB (fun xs H Q => (∃ i, xs = [V.int i] ∧ Q (V.int i) H) ∨ ∃ k, xs = [V.bl k] ∧ Q (V.int (if k = true then 1 else 0)) H)
        (tCons (tNotV (tCB (rIsX K a T.cNoJar cls d) (tCons (tVar 3) (tCons (tC (.ref T.cBadStart)) tNil)))) tNil)))))),
   (.ref T.cSameJar, 3, fun a cls d => tRet (tTup (tCons (tC (.str "samejar")) (tCons (tXf a cls d T.cSameJar "jar" (tVar 3)) tNil)))),
   (.ref T.cSizes, 3, fun a cls d => tRet (tTup (tCons (tC (.str "sizes")) (tCons (tXf a cls d T.cSizes "a" (tVar 3)) (tCons (tXf a cls d T.cSizes "b" (tVar 3)) tNil)))))]
theorem said_bad {T : Tx K mg} {G : Hp} {Q : VK} (D : Ends) (r : Rf) (hD : D.rt = Q) (hq : ∀ (H' : Hp) (x : V), OutAt H' x (some r) → Same G H' → Q x H') : rE T G (anyL 4 (wNam K (fun _ _ _ _ => False) D (saidL K T))) r := by
  subst hD
  intro H' d hd sm σ hl
  obtain ⟨v0, v1, v2, v3, rfl⟩ : ∃ v0 v1 v2 v3, σ = [v0, v1, v2, v3] := match σ, hl with
    | [v0, v1, v2, v3], _ => ⟨v0, v1, v2, v3, rfl⟩
  have no : ∀ {A : Prop}, false = true → A := fun z => by cases z
  have no' : ∀ {A : Prop}, true = false → A := fun z => by cases z
  cases r with
  | count x n =>
    refine ⟨true, T.emBadCount_BadCount, fun _ a ha => ?_, no'⟩
    refine ⟨_, rfl, rfl, rfl, d, _, _, rfl, hd, lk2 (by decide +kernel), _, rfl, rfl, rfl, d, _, _, rfl, hd, lk1, (by show 3 ≤ sizeLine; decide), fun p hp => ?_⟩
    exact hq _ _ ⟨p, rfl, upd_same⟩ (sm.trans (same_new hp))
  | nojar j =>
    refine ⟨false, T.emNoJar_BadCount, no, fun _ => ⟨true, T.emNoJar_NoJar, fun _ a ha => ?_, no'⟩⟩
    refine ⟨_, rfl, rfl, rfl, d, _, _, rfl, hd, lk1, (by show 3 ≤ sizeLine; decide), fun t ht => ?_⟩
    have s1 := same_new (o := HO.tup [V.str "nojar", V.int j, V.str "start"]) ht
    refine ⟨_, rfl, .ref T.cBadStart, .ref T.cBadStart, false, d, _, rfl, fun _ h => h, T.ixNoJar_BadStart, rfl, rfl, s1 _ _ hd, ?_⟩
    refine ⟨_, rfl, .inr ⟨_, rfl, _, _, rfl, rfl, _, rfl, t, _, rfl, SqT.of upd_same, (fun h => absurd h.2 (show ¬ HT.sIx 3 3 (some 2) = 3 by decide)), fun q hq0 => ?_⟩⟩
    exact hq _ _ ⟨q, rfl, upd_same⟩ ((sm.trans s1).trans (same_new hq0))
  | same j =>
    refine ⟨false, T.emSameJar_BadCount, no, fun _ => ⟨false, T.emSameJar_NoJar, no, fun _ => ⟨true, T.emSameJar_SameJar, fun _ a ha => ?_, no'⟩⟩⟩
    refine ⟨_, rfl, rfl, rfl, d, _, _, rfl, hd, lk1, (by show 2 ≤ sizeLine; decide), fun p hp => ?_⟩
    exact hq _ _ ⟨p, rfl, upd_same⟩ (sm.trans (same_new hp))
  | sizes a b =>
    refine ⟨false, T.emSizes_BadCount, no, fun _ => ⟨false, T.emSizes_NoJar, no, fun _ => ⟨false, T.emSizes_SameJar, no, fun _ => ⟨true, T.emSizes_Sizes, fun _ a ha => ?_, no'⟩⟩⟩⟩
    refine ⟨_, rfl, rfl, rfl, d, _, _, rfl, hd, lk2 (by decide +kernel), _, rfl, rfl, rfl, d, _, _, rfl, hd, lk1, (by show 3 ≤ sizeLine; decide), fun p hp => ?_⟩
    exact hq _ _ ⟨p, rfl, upd_same⟩ (sm.trans (same_new hp))
end
section
variable {P : Program} {w : World} {K : PySem.W.Frag} {mg : Str → Option Value} {base : Heap}
theorem okLsaid (T : Tx K mg) : FnOk P w K mg base CX0 7 T.aLsaid T.dLsaid ["_law_caps_here", "_law_facts_here"] (spLsaid T) := by
  refine T.fLsaid.ok scLsaid (fun vs H Q E h => ?_) (fun cdv A outer s H vs Q E hr h => ?_)
  · obtain ⟨c, f, caps, ts, ds, rfl, _⟩ := h
    rfl
  · obtain ⟨c, f, caps, ts, ds, rfl, hc, hC, hf, hA, l60, hq⟩ := h
    refine ⟨_, (pss_cons (ps_try_nam rfl rfl scLsaid.nd (fun W qn xe tk po => (pss_one (ps_expr (pe_make T.kRow (okRowInit T) (hr.mono (by decide)) rfl T.mRow T.bRowInit .nil (passL (n := 4) tk rfl) (pa_cons (pe_make T.kJars (okJarsInit T) (hr.mono (by decide)) rfl T.mJars T.bJarsInit .nil pass0 (pa_cons (pv 0) pa_nil)) (pa_cons (pe_lc (own := [("_law_fact", 2)]) rfl scLsaid.nd (show PI _ _ _ (iList K _) from pi_list (pv 1)) (blkOk_by (own := [("_law_fact", 2)]) (N := ["_law_caps_here", "_law_facts_here", "_law_fact", "e"]) (sc := defScope sLsaid) (by decide +kernel)) (fun _ _ _ _ _ => (pg_name (i := 2) scLsaid.nd rfl (by first | exact Or.inl rfl | exact Or.inr rfl))) (fun _ _ _ _ _ => pts_nil) (fun _ _ _ _ _ => (pe_call (okLdeed T) (hr.mono (by decide)) rfl T.gLdeed T.fLdeed.kp T.bLdeed .nil pass0 (pa_cons (pv 2) pa_nil)))) pa_nil))))))
      (NamOk.cons (i := 3) rfl rfl ⟨rfl, by decide, .inl T.mBadCount⟩ (fun xa xo xc xd xq hz hf => (pss_one (ps_ret (pe_tup (pa_cons pe_str (pa_cons (pe_xf T.xfBadCount T.nBadCount_what hz hf (pv 3)) (pa_cons (pe_xf T.xfBadCount T.nBadCount_count hz hf (pv 3)) pa_nil)))))))
      (NamOk.cons (i := 3) rfl rfl ⟨rfl, by decide, .inl T.mNoJar⟩ (fun xa xo xc xd xq hz hf => (pss_one (ps_ret (pe_slice (show SlR _ (rSlT K) from sl_tup) (pe_tup (pa_cons pe_str (pa_cons (pe_xf T.xfNoJar T.nNoJar_jar hz hf (pv 3)) (pa_cons pe_str pa_nil)))) po_none (po_some (pe_op op_sub pe_int (pe_callTy call_int1 rfl T.nint (by decide +kernel) (pa_cons (pe_not (pe_callB (call_isX T.xcNoJar hz hf) rfl T.nisinstance (by decide +kernel) (pa_cons (pv 3) (pa_cons (pe_glob (v := .ref T.cBadStart) rfl T.mBadStart rfl) pa_nil)))) pa_nil))))))))
      (NamOk.cons (i := 3) rfl rfl ⟨rfl, by decide, .inl T.mSameJar⟩ (fun xa xo xc xd xq hz hf => (pss_one (ps_ret (pe_tup (pa_cons pe_str (pa_cons (pe_xf T.xfSameJar T.nSameJar_jar hz hf (pv 3)) pa_nil))))))
      (NamOk.cons (i := 3) rfl rfl ⟨rfl, by decide, .inl T.mSizes⟩ (fun xa xo xc xd xq hz hf => (pss_one (ps_ret (pe_tup (pa_cons pe_str (pa_cons (pe_xf T.xfSizes T.nSizes_a hz hf (pv 3)) (pa_cons (pe_xf T.xfSizes T.nSizes_b hz hf (pv 3)) pa_nil)))))))
      NamOk.nil)))))
      (pss_one (ps_ret pe_str))), ?_⟩
    refine ⟨_, rfl, fun x dx hx hdx ne => ?_⟩
    have s1 : Same H (upd (upd H dx (.own x)) x (.ins T.cJars dx [])) := (same_new hdx).trans (same_new (by rw [upd_ne ne.symm]; exact hx))
    have cn : c ≠ x := ne_of_none hc hx
    refine ⟨x, dx, c, caps, rfl, upd_same, SqL.of (s1 _ _ hc), hC, fun H1 hJ fr => ⟨rfl, ?_⟩⟩
    have s2 : Same H H1 := made_same hx hdx fr
    refine ⟨_, rfl, f, rfl, ⟨_, s2.seq hf⟩, fun D1 hD1 => ?_⟩
    refine lc_list (K := K) (a := f) (xs := ts) (fun i H' => ∃ ws, H' D1 = some (.lst ws) ∧ A2 (DeedAt T H') ws (ds.take i) ∧ Same H1 H') ⟨[], upd_same, by simp [A2], same_new hD1⟩ (fun i H' _ ⟨_, _, _, e⟩ => (s2.trans e).seq hf) ?_ ?_
    · rintro i y H' hi ⟨ws, g1, g2, sm⟩
      obtain ⟨d, hd, hy⟩ := hA.get hi
      refine ⟨rfl, ?_⟩
      refine ⟨_, rfl, y, d, rfl, (hy.same s2).same sm, fun H2 p hp hD s3 => ⟨ws, s3 _ _ g1, ?_, ?_⟩⟩
      · have e1 := g2.len
        have e2 : (ds.take i).length ≤ 60 := by rw [List.length_take]; omega
        exact Nat.lt_of_lt_of_le (by omega : ws.length < 100) (by decide)
      · have bl : Fr D1 H2 (upd H2 D1 (.lst (ws ++ [V.ref p]))) := fr_mut (Fr.refl _ _)
        have gD := s3 _ _ g1
        refine ⟨ws ++ [V.ref p], upd_same, ?_, same_mut (sm.trans s3) hD1⟩
        rw [List.take_add_one, hd]
        exact A2.app (A2.mono (fun _ _ k => DeedAt.fr bl gD bl_l (k.same s3)) g2) ⟨DeedAt.fr bl gD bl_l hD, trivial⟩
    · rintro H' ⟨ws, g1, g2, sm⟩
      rw [hA.len, List.take_length] at g2
      intro x2 dx2 hx2 hdx2 ne2
      have s3 : Same H' (upd (upd H' dx2 (.own x2)) x2 (.ins T.cRow dx2 [])) := (same_new hdx2).trans (same_new (by rw [upd_ne ne2.symm]; exact hx2))
      have s4 := (s2.trans sm).trans s3
      refine ⟨x2, dx2, x, D1, caps, ws, ds, rfl, upd_same, (hJ.same sm).same s3, .inl (s3 _ _ g1), A2.mono (fun _ _ k => k.same s3) g2, by omega, fun g => said_bad _ _ rfl fun H5 v h5 s5 => hq H5 v ?_ (s4.trans s5), fun g r e => said_bad _ _ rfl fun H5 v h5 s5 => hq H5 v ?_ (s4.trans s5), fun g e H5 hR fr5 => ⟨rfl, ?_⟩⟩
      · unfold rowBad
        rw [if_pos g]
        exact h5
      · unfold rowBad
        rw [if_neg (by omega), e]
        exact h5
      · refine hq _ _ ?_ ((s2.trans sm).trans (made_same hx2 hdx2 fr5))
        unfold rowBad
        rw [if_neg (by omega), e]
        rfl
end
end Kp

namespace Kp
open PySem PySem.Spec PyProof.Rows L2 KpR
section
variable {K : PySem.W.Frag} {mg : Str → Option Value}
def spLtoldright (T : Tx K mg) : Sp := fun vs H Q _ => ∃ (u c f : Addr) (caps : List Int) (ts : List V) (ds : List E1), vs = [.ref u, .ref c, .ref f] ∧ WellAt H u ∧ H c = some (.lst (vi caps)) ∧ c ≠ u ∧ Caps caps ∧ H f = some (.lst ts) ∧ f ≠ u ∧ A2 (FactAt H) ts ds ∧ (∀ d ∈ ds, d.bad caps = none) ∧ ds.length ≤ 20 ∧
  ∀ H', WellAt H' u → Fr u H H' → Q (.bl true) H'
theorem firstBad_all {caps : List Int} : ∀ {ds : List E1}, (∀ d ∈ ds, d.bad caps = none) → firstBad caps ds = none
  | [], _ => rfl
  | d :: ds, h => by
    simp only [firstBad, h d (List.mem_cons_self ..)]
    exact firstBad_all fun e he => h e (List.mem_cons_of_mem _ he)
theorem mkJ {T : Tx K mg} {H : Hp} {c : Addr} {caps : List Int} {R : Addr → Hp → Prop} {E' : XK} (hc : SqL K H c (vi caps)) (hC : Caps caps) (q : ∀ (x : Addr) (H1 : Hp), H x = none → JarsAt T H1 x caps → Same H H1 → R x H1) :
    ∀ x dx, H x = none → H dx = none → dx ≠ x → spJarsInit T [.ref x, .ref c] (upd (upd H dx (.own x)) x (.ins T.cJars dx [])) (fun v H2 => v = .non ∧ R x H2) E' := fun x dx hx hdx ne => by
  have s1 : Same H (upd (upd H dx (.own x)) x (.ins T.cJars dx [])) := (same_new hdx).trans (same_new (by rw [upd_ne ne.symm]; exact hx))
  exact ⟨x, dx, c, caps, rfl, upd_same, s1.seq hc, hC, fun H1 hJ fr => ⟨rfl, q x H1 hx hJ (made_same hx hdx fr)⟩⟩
theorem mkR {T : Tx K mg} {H : Hp} {j a : Addr} {caps : List Int} {us : List V} {ds : List E1} {R : Addr → Hp → Prop} {E' : XK} (hJ : JarsAt T H j caps) (hS : H a = some (.lst us) ∨ H a = some (.tup us)) (hA : A2 (DeedAt T H) us ds) (ok : ∀ d ∈ ds, d.bad caps = none) (l20 : ds.length ≤ 20)
    (q : ∀ (x : Addr) (H1 : Hp), H x = none → RowAt T H1 x caps ds → Same H H1 → R x H1) :
    ∀ x dx, H x = none → H dx = none → dx ≠ x → spRowInit T [.ref x, .ref j, .ref a] (upd (upd H dx (.own x)) x (.ins T.cRow dx [])) (fun v H2 => v = .non ∧ R x H2) E' := fun x dx hx hdx ne => by
  have s1 : Same H (upd (upd H dx (.own x)) x (.ins T.cRow dx [])) := (same_new hdx).trans (same_new (by rw [upd_ne ne.symm]; exact hx))
  refine ⟨x, dx, j, a, caps, us, ds, rfl, upd_same, hJ.same s1, hS.elim (fun h => .inl (s1 _ _ h)) (fun h => .inr (s1 _ _ h)), A2.mono (fun _ _ k => k.same s1) hA, by omega, fun g => absurd g (by omega), fun _ r e => ?_, fun _ _ H1 hR fr => ⟨rfl, q x H1 hx hR (made_same hx hdx fr)⟩⟩
  rw [firstBad_all ok] at e
  cases e
theorem mkPut {T : Tx K mg} {H : Hp} {a k : Int} {R : Addr → Hp → Prop} {E' : XK} (q : ∀ (x : Addr) (H1 : Hp), H x = none → DeedAt T H1 (.ref x) (.put a k) → Same H H1 → R x H1) :
    ∀ x dx, H x = none → H dx = none → dx ≠ x → spPutInit T [.ref x, .int a, .int k] (upd (upd H dx (.own x)) x (.ins T.cPut dx [])) (fun v H2 => v = .non ∧ R x H2) E' := fun x dx hx hdx ne =>
  ⟨x, dx, _, _, rfl, upd_same, fun H1 h1 fr => ⟨rfl, q x H1 hx ⟨x, dx, rfl, h1⟩ (made_same hx hdx fr)⟩⟩
theorem mkDraw {T : Tx K mg} {H : Hp} {a k : Int} {R : Addr → Hp → Prop} {E' : XK} (q : ∀ (x : Addr) (H1 : Hp), H x = none → DeedAt T H1 (.ref x) (.draw a k) → Same H H1 → R x H1) :
    ∀ x dx, H x = none → H dx = none → dx ≠ x → spDrawInit T [.ref x, .int a, .int k] (upd (upd H dx (.own x)) x (.ins T.cDraw dx [])) (fun v H2 => v = .non ∧ R x H2) E' := fun x dx hx hdx ne =>
  ⟨x, dx, _, _, rfl, upd_same, fun H1 h1 fr => ⟨rfl, q x H1 hx ⟨x, dx, rfl, h1⟩ (made_same hx hdx fr)⟩⟩
theorem RowAt.fr {T : Tx K mg} {w : Addr} {H H' : Hp} {u : HO} {p : Addr} {caps : List Int} {ds : List E1} (e : Fr w H H') (hw : H w = some u) (hb : Blank u) (h : RowAt T H p caps ds) : RowAt T H' p caps ds := by
  obtain ⟨dx, j, t, vs, h1, h2, h3, h4⟩ := h
  exact ⟨dx, j, t, vs, fr_no e hw hb h1 nb2, h2.fr e hw hb, fr_no e hw hb h3 nbT, A2.mono (fun _ _ q => q.fr e hw hb) h4⟩
theorem cut_whole {xs : List V} {lo hi : Option Int} (h : HT.sIx xs.length 0 lo = 0 ∧ HT.sIx xs.length xs.length hi = xs.length) : cutV xs lo hi = xs := by
  unfold cutV
  rw [h.1, h.2, List.drop_zero, Nat.sub_zero, List.take_length]
theorem cut_dropA {xs : List V} {n : Nat} : cutV xs (some (n : Int)) none = xs.drop n := by
  unfold cutV
  rw [HT.sIx_nat, HT.sIx_none]
  by_cases h : n ≤ xs.length
  · rw [Nat.min_eq_left h]
    exact List.take_of_length_le (by rw [List.length_drop]; omega)
  · rw [Nat.min_eq_right (by omega), List.drop_eq_nil_of_le (by omega), List.drop_eq_nil_of_le (by omega), List.take_nil]
theorem slA {H : Hp} {t : Addr} {xs : List V} {lo hi : Option Int} {Q : VK} (ht : H t = some (.tup xs)) (q : ∀ (p : Addr) (H' : Hp), Same H H' → H' p = some (.tup (cutV xs lo hi)) → Q (.ref p) H') : rSlA K (.ref t) lo hi H Q :=
  ⟨t, xs, rfl, SqT.of ht, fun w => q t H (Same.refl _) (by rw [ht, cut_whole w]), fun _ p hp => q p _ (same_new hp) upd_same⟩
theorem cutAll {p : Hp → Prop} {b : Bool} {X C : Hp → Prop} (rest : ∀ h, p h → C h) (go : b = true → (∀ h, p h → C h) → ∀ h, p h → X h) : ∀ h, p h → if b = true then X h else C h := fun h s => by
  cases b with
  | true => exact ifT rfl (go rfl rest h s)
  | false => exact ifF rfl (rest h s)
def widerC (caps : List Int) : List Int := if caps.length = 6 then (caps ++ [caps.getD 0 0]).drop 1 else caps ++ [caps.getD 0 0]
theorem wide_cut {caps : List Int} (h : caps.length ≤ 6) : cutV (vi caps ++ vi [caps.getD 0 0]) (some (-6)) none = vi (widerC caps) := by
  have e : vi caps ++ vi [caps.getD 0 0] = vi (caps ++ [caps.getD 0 0]) := by simp [vi]
  rw [e]
  unfold cutV
  have n : (vi (caps ++ [caps.getD 0 0])).length = caps.length + 1 := by simp [vi]
  rw [n, HT.sIx_none]
  unfold widerC
  by_cases g : caps.length = 6
  · rw [if_pos g, g]
    have : HT.sIx (6 + 1) 0 (some (-6)) = 1 := by decide
    rw [this]
    refine (List.take_of_length_le (by rw [List.length_drop, n, g]; decide)).trans ?_
    simp only [vi, List.map_drop]
  · rw [if_neg g]
    have : HT.sIx (caps.length + 1) 0 (some (-6)) = 0 := by
      have : caps.length = 0 ∨ caps.length = 1 ∨ caps.length = 2 ∨ caps.length = 3 ∨ caps.length = 4 ∨ caps.length = 5 := by omega
      rcases this with h | h | h | h | h | h <;> rw [h] <;> decide
    rw [this, List.drop_zero]
    exact List.take_of_length_le (by rw [n]; omega)
theorem wide_caps {caps : List Int} (h : Caps caps) : Caps (widerC caps) := by
  have l1 := h.l1
  have l6 := h.l6
  have m : Mid caps := fun c hc => by
    obtain ⟨i, hi, e⟩ := List.mem_iff_getElem.mp hc
    have z := at0_of (show caps[i]? = some c by rw [List.getElem?_eq_getElem hi, e])
    rw [← z]
    exact ⟨h.lo i hi, h.hi i hi⟩
  have m2 : Mid (caps ++ [caps.getD 0 0]) := m.app (h.lo 0 (by omega)) (h.hi 0 (by omega))
  unfold widerC
  split
  · refine Mid.caps (fun c hc => m2 c (List.mem_of_mem_drop hc)) ?_ ?_ <;> simp <;> omega
  · refine m2.caps ?_ ?_ <;> simp <;> omega
theorem wide_bad {caps : List Int} {d : E1} (g : caps.length < 6) (h : d.bad caps = none) : d.bad (widerC caps) = none := by
  have el : (widerC caps).length = caps.length + 1 := by
    unfold widerC
    rw [if_neg (by omega)]
    simp
  have up : ∀ {j : Int}, inJ caps.length j = true → inJ (widerC caps).length j = true := fun {j} hj => by
    obtain ⟨k, rfl, hk⟩ := inJ_nat hj
    exact inJ_of (by omega)
  have same : ∀ {j : Int}, inJ caps.length j = true → (widerC caps).getD j.toNat 0 = caps.getD j.toNat 0 := fun {j} hj => by
    obtain ⟨k, rfl, hk⟩ := inJ_nat hj
    unfold widerC
    rw [if_neg (by omega), Int.toNat_natCast]
    simp only [List.getD_eq_getElem?_getD]
    rw [List.getElem?_append_left hk]
  cases d with
  | put a k =>
    cases ha : inJ caps.length a with
    | false => simp [E1.bad, ha] at h
    | true =>
      simp only [E1.bad, ha, up ha] at h ⊢
      exact h
  | draw a k =>
    cases ha : inJ caps.length a with
    | false => simp [E1.bad, ha] at h
    | true =>
      simp only [E1.bad, ha, up ha] at h ⊢
      exact h
  | pour a b =>
    cases ha : inJ caps.length a with
    | false => simp [E1.bad, ha] at h
    | true =>
      cases hb : inJ caps.length b with
      | false => simp [E1.bad, ha, hb] at h
      | true =>
        simp only [E1.bad, ha, up ha, hb, up hb] at h ⊢
        exact h
  | change a b =>
    cases ha : inJ caps.length a with
    | false => simp [E1.bad, ha] at h
    | true =>
      cases hb : inJ caps.length b with
      | false => simp [E1.bad, ha, hb] at h
      | true =>
        simp only [E1.bad, ha, up ha, hb, up hb, same ha, same hb] at h ⊢
        exact h
theorem ext_same {H H' : Hp} (e : Ext H H') : Same H H' := fun b o q => e b o q
end
section
variable {P : Program} {w : World} {K : PySem.W.Frag} {mg : Str → Option Value} {base : Heap}
theorem okLtoldright (T : Tx K mg) : FnOk P w K mg base CX0 7 T.aLtoldright T.dLtoldright ["_law_well_here", "_law_caps_here", "_law_facts_here"] (spLtoldright T) := by
  refine T.fLtoldright.ok scLtoldright (fun vs H Q E h => ?_) (fun cdv A outer s H vs Q E hr h => ?_)
  · obtain ⟨u, c, f, caps, ts, ds, rfl, _⟩ := h
    rfl
  · obtain ⟨u, c, f, caps, ts, ds, rfl, hw, hc, cu, hC, hf, fu, hA, ok, l20, hq⟩ := h
    refine ⟨_, (pss_cons (ps_setLc (i := 3) (own := [("_law_fact", 4)]) rfl scLtoldright.nd rfl rfl (sw_true rfl rfl rfl (by decide +kernel)) (pi_list (pv 2)) (blkOk_by (own := [("_law_fact", 4)]) (N := ["_law_well_here", "_law_caps_here", "_law_facts_here", "_law_handed", "_law_fact", "_law_first", "_law_due_here", "_law_wider", "_law_at", "_law_other"]) (sc := defScope sLtoldright) (by decide +kernel)) (fun _ _ _ _ _ => (pg_name (i := 4) scLtoldright.nd rfl (by first | exact Or.inl rfl | exact Or.inr rfl))) (fun _ _ _ _ _ => pts_nil) (fun _ _ _ _ _ => (pe_call (okLdeed T) (hr.mono (by decide)) rfl T.gLdeed T.fLdeed.kp T.bLdeed .nil pass0 (pa_cons (pv 4) pa_nil))))
      (pss_cons (ps_set (i := 5) scLtoldright.nd rfl (by first | exact Or.inl rfl | exact Or.inr rfl) (pe_makeK0 T.kRow (okRowInit T) (hr.mono (by decide)) rfl T.mRow T.kbRow_deeds_jars passF (pk_cons (pv 3) (pk_cons (pe_make T.kJars (okJarsInit T) (hr.mono (by decide)) rfl T.mJars T.bJarsInit .nil pass0 (pa_cons (pv 1) pa_nil)) pk_nil))))
      (pss_cons (ps_expr (pe_bm PySem.F.plainAttrs_list PySem.F.slot_list_append PySem.F.type_list_append mt_append (pv 3) (pa_cons (pe_make T.kPut (okPutInit T) (hr.mono (by decide)) rfl T.mPut T.bPutInit .nil pass0 (pa_cons pe_int (pa_cons pe_int pa_nil))) pa_nil)))
      (pss_cons (ps_asg (pe_make T.kPut (okPutInit T) (hr.mono (by decide)) rfl T.mPut T.bPutInit .nil pass0 (pa_cons pe_int (pa_cons pe_int pa_nil))) (pg_sub (pv 3) pe_int set_list))
      (pss_cons (ps_set (i := 6) scLtoldright.nd rfl (by first | exact Or.inl rfl | exact Or.inr rfl) (pe_callTy call_tuple_of rfl T.ntuple (by decide +kernel) (pa_cons (pe_lc (own := [("_law_fact", 4)]) rfl scLtoldright.nd (pi_list (pv 2)) (blkOk_by (own := [("_law_fact", 4)]) (N := ["_law_well_here", "_law_caps_here", "_law_facts_here", "_law_handed", "_law_fact", "_law_first", "_law_due_here", "_law_wider", "_law_at", "_law_other"]) (sc := defScope sLtoldright) (by decide +kernel)) (fun _ _ _ _ _ => (pg_name (i := 4) scLtoldright.nd rfl (by first | exact Or.inl rfl | exact Or.inr rfl))) (fun _ _ _ _ _ => pts_nil) (fun _ _ _ _ _ => (pe_call (okLdeed T) (hr.mono (by decide)) rfl T.gLdeed T.fLdeed.kp T.bLdeed .nil pass0 (pa_cons (pv 4) pa_nil)))) pa_nil)))
      (pss_cons (ps_if (PW.pt (pw_or (pt_cmpR (opNeTups T (hr.mono (by decide))) (pe_fld (pv 5) rfl) (pv 6) (nomark _)) (pw_or (pt_not (pt_val (pe_callB call_isi rfl T.nisinstance (by decide +kernel) (pa_cons (pe_fld (pv 5) rfl) (pa_cons (pe_bltn (v := .ty "tuple") rfl T.ntuple (by decide +kernel) rfl) pa_nil))))) (pw_or1 (pt_cmpR (opNeJars T (hr.mono (by decide))) (pe_fld (pv 5) rfl) (pe_make T.kJars (okJarsInit T) (hr.mono (by decide)) rfl T.mJars T.bJarsInit .nil pass0 (pa_cons (pv 1) pa_nil)) (nomark _)))))) (pss_one (ps_ret pe_bl)) pss_nil)
      (pss_cons (ps_if (PW.pt (pw_or (pt_cmpR (opNeRow T (hr.mono (by decide))) (pv 5) (pe_make T.kRow (okRowInit T) (hr.mono (by decide)) rfl T.mRow T.bRowInit .nil passF (pa_cons (pe_make T.kJars (okJarsInit T) (hr.mono (by decide)) rfl T.mJars T.bJarsInit .nil pass0 (pa_cons (pv 1) pa_nil)) (pa_cons (pv 6) pa_nil))) (nomark _)) (pw_or1 (pt_cmpR (opInRow T (hr.mono (by decide))) (pv 5) (pe_lst (pa_cons (pv 6) (pa_cons (pe_callTy call_list_of rfl T.nlist (by decide +kernel) (pa_cons (pv 6) pa_nil)) (pa_cons pe_non pa_nil)))) (by rfl))))) (pss_one (ps_ret pe_bl)) pss_nil)
      (pss_cons (ps_if (PW.pt (pw_and (pt_cmpR op_lt (pe_callB call_len_seq rfl T.nlen PySem.boot_len (pa_cons (pv 2) pa_nil)) pe_int (nomark _)) (pw_and1 (pt_cmpR (opEqRow T (hr.mono (by decide))) (pv 5) (pe_make T.kRow (okRowInit T) (hr.mono (by decide)) rfl T.mRow T.bRowInit .nil passF (pa_cons (pe_make T.kJars (okJarsInit T) (hr.mono (by decide)) rfl T.mJars T.bJarsInit .nil pass0 (pa_cons (pv 1) pa_nil)) (pa_cons (pe_op op_catR (pe_callTy call_list_of rfl T.nlist (by decide +kernel) (pa_cons (pv 6) pa_nil)) (pe_lst (pa_cons (pe_make T.kDraw (okDrawInit T) (hr.mono (by decide)) rfl T.mDraw T.bDrawInit .nil pass0 (pa_cons pe_int (pa_cons pe_int pa_nil))) pa_nil))) pa_nil))) (nomark _))))) (pss_one (ps_ret pe_bl)) pss_nil)
      (pss_cons (ps_set (i := 7) scLtoldright.nd rfl (by first | exact Or.inl rfl | exact Or.inr rfl) (pe_make T.kJars (okJarsInit T) (hr.mono (by decide)) rfl T.mJars T.bJarsInit .nil pass0 (pa_cons (pe_slice sl_list (pe_op op_catR (pv 1) (pe_lst (pa_cons (pe_ix (r := rIxL K) ix_list (pv 1) pe_int (fun _ _ => rfl)) pa_nil))) (po_some (pe_un un_neg pe_int)) po_none) pa_nil)))
      (pss_cons (ps_if (PW.pt (pw_and (pt_cmpR op_lt (pe_callB call_len_seq rfl T.nlen PySem.boot_len (pa_cons (pv 1) pa_nil)) pe_int (nomark _)) (pw_and1 (pt_cmpR (opEqRow T (hr.mono (by decide))) (pv 5) (pe_make T.kRow (okRowInit T) (hr.mono (by decide)) rfl T.mRow T.bRowInit .nil passF (pa_cons (pv 7) (pa_cons (pv 6) pa_nil))) (nomark _))))) (pss_one (ps_ret pe_bl)) pss_nil)
      (pss_cons (ps_set (i := 8) scLtoldright.nd rfl (by first | exact Or.inl rfl | exact Or.inr rfl) (pe_call (okLdraw T) (hr.mono (by decide)) rfl T.gLdraw T.fLdraw.kp T.bLdraw .nil pass0 (pa_cons (pv 0) (pa_cons (pe_callB (call_max2 rfl) rfl T.nmax (by decide +kernel) (pa_cons pe_int (pa_cons (pe_callB call_len_seq rfl T.nlen PySem.boot_len (pa_cons (pv 2) pa_nil)) pa_nil))) pa_nil))))
      (pss_cons (ps_set (i := 9) scLtoldright.nd rfl (by first | exact Or.inl rfl | exact Or.inr rfl) (pe_op op_catR (pe_op op_catR (pe_callTy call_list_of rfl T.nlist (by decide +kernel) (pa_cons (pe_slice sl_tupA (pv 6) po_none (po_some (pv 8))) pa_nil)) (pe_lst (pa_cons (pe_make T.kPut (okPutInit T) (hr.mono (by decide)) rfl T.mPut T.bPutInit .nil pass0 (pa_cons pe_int (pa_cons (pe_op op_pow pe_int pe_int) pa_nil))) pa_nil))) (pe_callTy call_list_of rfl T.nlist (by decide +kernel) (pa_cons (pe_slice sl_tupA (pv 6) (po_some (pe_op op_add (pv 8) pe_int)) po_none) pa_nil))))
      (pss_one (ps_ret (pe_cmpR op_eq (pe_cmpR (opEqRow T (hr.mono (by decide))) (pv 5) (pe_make T.kRow (okRowInit T) (hr.mono (by decide)) rfl T.mRow T.bRowInit .nil passF (pa_cons (pe_make T.kJars (okJarsInit T) (hr.mono (by decide)) rfl T.mJars T.bJarsInit .nil pass0 (pa_cons (pv 1) pa_nil)) (pa_cons (pv 9) pa_nil))) (nomark _)) (pe_cmpR (opEqTups T (hr.mono (by decide))) (pe_callTy call_tuple_of rfl T.ntuple (by decide +kernel) (pa_cons (pv 9) pa_nil)) (pv 6) (nomark _)) (nomark _)))))))))))))))), ?_⟩
    refine ⟨_, rfl, f, rfl, ⟨_, SqL.of hf⟩, fun D1 hD1 => ?_⟩
    refine lc_list (K := K) (a := f) (xs := ts) (fun i H' => ∃ ws, H' D1 = some (.lst ws) ∧ A2 (DeedAt T H') ws (ds.take i) ∧ Same H H') ⟨[], upd_same, by simp [A2], same_new hD1⟩ (fun i H' _ ⟨_, _, _, e⟩ => e.seq (SqL.of hf)) ?_ ?_
    · rintro i y H' hi ⟨ws, g1, g2, sm⟩
      obtain ⟨d, hd, hy⟩ := hA.get hi
      refine ⟨rfl, ?_⟩
      refine ⟨_, rfl, y, d, rfl, hy.same sm, fun H2 p hp hD s3 => ⟨ws, s3 _ _ g1, ?_, ?_⟩⟩
      · have e1 := g2.len
        have e2 : (ds.take i).length ≤ 20 := by rw [List.length_take]; omega
        exact Nat.lt_of_lt_of_le (by omega : ws.length < 100) (by decide)
      · have bl : Fr D1 H2 (upd H2 D1 (.lst (ws ++ [V.ref p]))) := fr_mut (Fr.refl _ _)
        have gD := s3 _ _ g1
        refine ⟨ws ++ [V.ref p], upd_same, ?_, same_mut (sm.trans s3) hD1⟩
        rw [List.take_add_one, hd]
        exact A2.app (A2.mono (fun _ _ k => DeedAt.fr bl gD bl_l (k.same s3)) g2) ⟨DeedAt.fr bl gD bl_l hD, trivial⟩
    · rintro H1 ⟨ws, g1, g2, s1⟩
      rw [hA.len, List.take_length] at g2
      have wl := g2.len
      have D1u : D1 ≠ u := hw.ne hD1
      have cD : c ≠ D1 := ne_of_none hc hD1
      have fD : f ≠ D1 := ne_of_none hf hD1
      have wD : WellAt H1 u := hw.same s1
      -- the first row
      refine ⟨_, rfl, _, rfl, mkJ (s1.seq (SqL.of hc)) hC fun j H2 _ hJ s2 => ⟨rfl, rfl, mkR hJ (.inl (s2 _ _ g1)) (A2.mono (fun _ _ k => k.same s2) g2) ok l20 fun r H3 _ hR s3 => ?_⟩⟩
      have s13 := s2.trans s3
      have g13 := s13 _ _ g1
      -- the list handed in is changed
      refine ⟨_, rfl, .inl ⟨rfl, _, SqL.of g13⟩, mkPut fun pa H4 _ hP s4 => ?_⟩
      refine ⟨D1, _, _, rfl, rfl, s4 _ _ g13, Nat.lt_of_lt_of_le (by omega : ws.length < 100) (by decide), ?_⟩
      refine mkPut fun pb H6 _ hP2 s5 => ?_
      have g6 : H6 D1 = some (.lst (ws ++ [V.ref pa])) := s5 _ _ upd_same
      refine ⟨_, rfl, D1, _, 0, 0, rfl, rfl, g6, ixN_nat (i := 0) (by simp), ?_⟩
      have sH7 : Same H (upd H6 D1 (.lst ((ws ++ [V.ref pa]).set 0 (.ref pb)))) := same_mut ((same_mut ((s1.trans s13).trans s4) hD1).trans s5) hD1
      have f37 : Fr D1 H3 (upd H6 D1 (.lst ((ws ++ [V.ref pa]).set 0 (.ref pb)))) := fr_mut ((fr_mut (Fr.of s4)).trans (Fr.of s5))
      have R7 := hR.fr f37 g13 bl_l
      generalize (upd H6 D1 (.lst ((ws ++ [V.ref pa]).set 0 (.ref pb)))) = H7 at sH7 R7 ⊢
      -- the same deeds anew, as a tuple
      refine ⟨_, rfl, f, rfl, ⟨_, sH7.seq (SqL.of hf)⟩, fun D2 hD2 => ?_⟩
      refine lc_list (K := K) (a := f) (xs := ts) (fun i H' => ∃ ws, H' D2 = some (.lst ws) ∧ A2 (DeedAt T H') ws (ds.take i) ∧ Same H7 H') ⟨[], upd_same, by simp [A2], same_new hD2⟩ (fun i H' _ ⟨_, _, _, e⟩ => (sH7.trans e).seq (SqL.of hf)) ?_ ?_
      · rintro i y H' hi ⟨ws, g1, g2, sm⟩
        obtain ⟨d, hd, hy⟩ := hA.get hi
        refine ⟨rfl, ?_⟩
        refine ⟨_, rfl, y, d, rfl, hy.same (sH7.trans sm), fun H2 p hp hD s3 => ⟨ws, s3 _ _ g1, ?_, ?_⟩⟩
        · have e1 := g2.len
          have e2 : (ds.take i).length ≤ 20 := by rw [List.length_take]; omega
          exact Nat.lt_of_lt_of_le (by omega : ws.length < 100) (by decide)
        · have bl : Fr D2 H2 (upd H2 D2 (.lst (ws ++ [V.ref p]))) := fr_mut (Fr.refl _ _)
          have gD := s3 _ _ g1
          refine ⟨ws ++ [V.ref p], upd_same, ?_, same_mut (sm.trans s3) hD2⟩
          rw [List.take_add_one, hd]
          exact A2.app (A2.mono (fun _ _ k => DeedAt.fr bl gD bl_l (k.same s3)) g2) ⟨DeedAt.fr bl gD bl_l hD, trivial⟩
      · rintro H8 ⟨us, k1, k2, s8⟩
        rw [hA.len, List.take_length] at k2
        have ul := k2.len
        refine ⟨D2, _, rfl, .inl ⟨SqL.of k1, fun t ht => ?_⟩⟩
        have s9 := s8.trans (same_new (o := .tup us) ht)
        have t9 : (upd H8 t (.tup us)) t = some (.tup us) := upd_same
        have A9 := A2.mono (fun _ _ k => DeedAt.same (same_new (o := .tup us) ht) k) k2
        have R9 := R7.same s9
        have sH9 := sH7.trans s9
        generalize (upd H8 t (.tup us)) = H9 at s9 t9 A9 R9 sH9 ⊢
        obtain ⟨dx, jr, tr, vr, rr1, rr2, rr3, rr4⟩ := id R9
        refine ⟨_, rfl, r, _, dx, _, _, rfl, rr1, T.lRow, T.nRow_deeds, lk2 (by decide +kernel), _, rfl, neTups rr3 t9 rr4 A9 fun H10 s10 => ⟨_, rfl, ifF rfl ?_⟩⟩
        refine ⟨_, rfl, r, _, dx, _, _, rfl, s10 _ _ rr1, T.lRow, T.nRow_deeds, lk2 (by decide +kernel), .ref tr, .ty "tuple", _, _, true, rfl, .ty _, .base (.tup (s10 _ _ rr3)), kit_self (by simp), _, rfl, ifF rfl ?_⟩
        have hc10 : SqL K H10 c (vi caps) := SqL.of (s10 _ _ (sH9 _ _ hc))
        refine ⟨_, rfl, r, _, dx, _, _, rfl, s10 _ _ rr1, T.lRow, T.nRow_jars, lk1, _, rfl, mkJ hc10 hC fun j2 H11 _ hJ2 s11 => ?_⟩
        refine neJars ((rr2.same (ext_same s10)).same s11) hJ2 fun H12 s12 => ⟨_, rfl, ifF rfl ?_⟩
        have s912 : Same H9 H12 := ((ext_same s10).trans s11).trans (ext_same s12)
        -- against a row of the tuple, and among other things
        refine ⟨_, rfl, _, rfl, mkJ (s912.seq (SqL.of (sH9 _ _ hc))) hC fun j3 H13 _ hJ3 s13 => ⟨_, rfl, mkR hJ3 (.inr (s13 _ _ (s912 _ _ t9))) (A2.mono (fun _ _ k => k.same (s912.trans s13)) A9) ok l20 fun r2 H14 _ hR2 s14 => ?_⟩⟩
        have s914 := (s912.trans s13).trans s14
        refine neRow (R9.same s914) hR2 fun H15 s15 => ⟨_, rfl, ifF rfl ?_⟩
        have s915 := s914.trans (ext_same s15)
        refine ⟨_, rfl, _, rfl, _, rfl, t, _, rfl, .inr (SqT.of (s915 _ _ t9)), fun l2 hl2 => ?_⟩
        have s16 := s915.trans (same_new (o := .lst us) hl2)
        refine ⟨(by show 3 ≤ sizeLine; decide), fun l3 hl3 => ?_⟩
        have s17 := s16.trans (same_new (o := .lst [.ref t, .ref l2, .non]) hl3)
        refine outRow (R9.same s17) upd_same (fun z hz => ?_) fun H18 s18 => ⟨_, rfl, ifF rfl ?_⟩
        · rcases List.mem_cons.mp hz with rfl | hz
          · exact .inl (.inr (.inr ⟨t, us, rfl, s17 _ _ t9⟩))
          · rcases List.mem_cons.mp hz with rfl | hz
            · exact .inr ⟨l2, us, rfl, (same_new hl3) _ _ upd_same⟩
            · rcases List.mem_cons.mp hz with rfl | hz
              · exact .inl (.inl rfl)
              · cases hz
        have s918 : Same H9 H18 := s17.trans (ext_same s18)
        have tl := hA.len
        refine ⟨_, rfl, f, _, rfl, .inl ((sH9.trans s918).seq (SqL.of hf)), _, _, rfl, rfl, _, rfl, ?_⟩
        clear s18
        revert H18
        refine cutAll (fun H19 s919 => ?_) fun g20 go H18 s918 => ?_
        · have hc19 : SqL K H19 c (vi caps) := (sH9.trans s919).seq (SqL.of hc)
          have vl : (vi caps).length = caps.length := List.length_map ..
          have c1 := hC.l1
          have c6 := hC.l6
          refine ⟨_, rfl, _, rfl, c, _, _, _, rfl, rfl, hc19, vi_at (by omega : 0 < caps.length), (by show 1 ≤ sizeLine; decide), fun m hm => ?_⟩
          have s20 := same_new (o := .lst (vi [caps.getD 0 0])) hm
          refine ⟨c, m, vi caps, vi [caps.getD 0 0], rfl, rfl, s20.seq hc19, SqL.of upd_same, Nat.le_trans (by rw [vl]; simp [vi]; omega : (vi caps).length + (vi [caps.getD 0 0]).length ≤ 100) (by decide), fun q hq0 => ?_⟩
          have s21 := s20.trans (same_new (o := .lst (vi caps ++ vi [caps.getD 0 0])) hq0)
          refine ⟨_, rfl, _, rfl, q, _, rfl, SqL.of upd_same, fun sl hsl => ?_⟩
          have s22 := s21.trans (same_new (o := .lst (cutV (vi caps ++ vi [caps.getD 0 0]) (some (-6)) none)) hsl)
          refine mkJ (caps := widerC caps) (SqL.of (by rw [← wide_cut c6]; exact upd_same)) (wide_caps hC) fun jw H23 _ hJw s23 => ?_
          have s923 := (s919.trans s22).trans s23
          refine ⟨_, rfl, c, _, rfl, .inl ((sH9.trans s923).seq (SqL.of hc)), _, _, rfl, rfl, _, rfl, ?_⟩
          replace s923 : Same H9 H23 ∧ JarsAt T H23 jw (widerC caps) := ⟨s923, hJw⟩
          clear hJw s23
          revert H23
          refine cutAll (fun H24 s924 => ?_) fun g24 go2 H23 s923 => ?_
          · obtain ⟨s924, hJw⟩ := s924
            have w24 : WellAt H24 u := (hw.same (sH9.trans s924))
            refine ⟨_, rfl, _, rfl, f, _, rfl, .inl ((sH9.trans s924).seq (SqL.of hf)), _, _, rfl, u, _, rfl, w24, ?_, ?_, fun H25 at_ la w25 f25 => ?_⟩
            · split <;> omega
            · have : ((2 : Int) ^ 100) > 100 := by decide
              split <;> omega
            obtain ⟨ob, hb1, hb2⟩ := w24.ex
            have fr : Fr u H9 H25 := (Fr.of s924).trans f25
            have R25 := (R9.same s924).fr f25 hb1 hb2
            have A25 := A2.mono (fun _ _ k => DeedAt.fr f25 hb1 hb2 (k.same s924)) A9
            have t25 : H25 t = some (.tup us) := fr_no f25 hb1 hb2 (s924 _ _ t9) nbT
            have c25 : H25 c = some (.lst (vi caps)) := f25 _ _ cu ((sH9.trans s924) _ _ hc)
            have ul : us.length = ds.length := k2.len
            have ag : at_ ≤ us.length := by
              have e1 := hA.len
              split at la <;> omega
            have ag2 : at_ + 1 ≤ ds.length ∨ (at_ = 0 ∧ ds.length = 0) := by
              have e1 := hA.len
              split at la <;> omega
            refine ⟨_, rfl, _, rfl, _, rfl, slA t25 fun p1 H26 s26 g26 => ?_⟩
            rw [cut_take] at g26
            refine ⟨p1, _, rfl, .inr (SqT.of g26), fun l1 hl1 => ?_⟩
            have s27 := s26.trans (same_new (o := .lst (us.take at_)) hl1)
            refine ⟨_, _, rfl, rfl, ⟨by decide, by decide, by decide⟩, mkPut fun pp H28 _ hP s28 => ⟨(by show 1 ≤ sizeLine; decide), fun m hm => ?_⟩⟩
            have s29 := s28.trans (same_new (o := .lst [.ref pp]) hm)
            refine ⟨l1, m, _, [.ref pp], rfl, rfl, SqL.of (s29 _ _ upd_same), SqL.of upd_same, Nat.le_trans (by rw [List.length_take]; simp; omega : (us.take at_).length + [V.ref pp].length ≤ 100) (by decide), fun q1 hq1 => ?_⟩
            have s30 := (s27.trans s29).trans (same_new (o := .lst (us.take at_ ++ [.ref pp])) hq1)
            refine ⟨_, rfl, _, rfl, _, _, rfl, rfl, _, rfl, ?_⟩
            unfold tNoPart
            refine slA (s30 _ _ t25) fun p2 H31 s31 g31 => ?_
            rw [show ((at_ : Int) + 1) = ((at_ + 1 : Nat) : Int) from rfl, cut_dropA] at g31
            refine ⟨p2, _, rfl, .inr (SqT.of g31), fun l2' hl2' => ?_⟩
            have s32 := s31.trans (same_new (o := .lst (us.drop (at_ + 1))) hl2')
            refine ⟨q1, l2', _, _, rfl, rfl, SqL.of (s32 _ _ upd_same), SqL.of upd_same, Nat.le_trans (by simp; omega : (us.take at_ ++ [V.ref pp]).length + (us.drop (at_ + 1)).length ≤ 100) (by decide), fun q2 hq2 => ?_⟩
            have s33 := s32.trans (same_new (o := .lst (us.take at_ ++ [.ref pp] ++ us.drop (at_ + 1))) hq2)
            have s30a : Same H25 _ := s30
            have A33 : A2 (DeedAt T (upd (upd H31 l2' (.lst (us.drop (at_ + 1)))) q2 (.lst (us.take at_ ++ [.ref pp] ++ us.drop (at_ + 1))))) (us.take at_ ++ [.ref pp] ++ us.drop (at_ + 1)) (ds.take at_ ++ [E1.put 0 (10 ^ (12 : Int).toNat)] ++ ds.drop (at_ + 1)) := by
              have hh := A2.mono (fun _ _ k => DeedAt.same (s30.trans s33) k) A25
              refine A2.app (A2.app (A2.take at_ hh) ⟨hP.same (((same_new (o := .lst [.ref pp]) hm).trans (same_new (o := .lst (us.take at_ ++ [.ref pp])) hq1)).trans s33), trivial⟩) (A2.drop (at_ + 1) hh)
            have okd : ∀ d ∈ ds.take at_ ++ [E1.put 0 (10 ^ (12 : Int).toNat)] ++ ds.drop (at_ + 1), d.bad caps = none := fun d hd => by
              rcases List.mem_append.mp hd with h | h
              · rcases List.mem_append.mp h with h | h
                · exact ok d (List.mem_of_mem_take h)
                · obtain rfl : d = .put 0 (10 ^ (12 : Int).toNat) := by simpa using h
                  have e : inJ caps.length 0 = true := inJ_of (k := 0) (by omega)
                  have e2 : okN (10 ^ (12 : Int).toNat) = true := by decide
                  simp only [E1.bad, e, e2]
                  rfl
              · exact ok d (List.mem_of_mem_drop h)
            have ld : (ds.take at_ ++ [E1.put 0 (10 ^ (12 : Int).toNat)] ++ ds.drop (at_ + 1)).length ≤ 20 := by
              simp only [List.length_append, List.length_take, List.length_drop, List.length_singleton]
              omega
            have q33 : (upd (upd H31 l2' (.lst (us.drop (at_ + 1)))) q2 (.lst (us.take at_ ++ [.ref pp] ++ us.drop (at_ + 1)))) q2 = some (.lst (us.take at_ ++ [.ref pp] ++ us.drop (at_ + 1))) := upd_same
            have s2533 := s30.trans s33
            generalize ds.take at_ ++ [E1.put 0 (10 ^ (12 : Int).toNat)] ++ ds.drop (at_ + 1) = es at A33 okd ld
            generalize us.take at_ ++ [.ref pp] ++ us.drop (at_ + 1) = vs at A33 q33 s2533 ⊢
            generalize (upd (upd H31 l2' (.lst (us.drop (at_ + 1)))) q2 (.lst vs)) = H33 at A33 q33 s2533 ⊢
            refine ⟨_, rfl, _, rfl, mkJ (s2533.seq (SqL.of c25)) hC fun j5 H34 _ hJ5 s34 => ⟨_, rfl, mkR hJ5 (.inl (s34 _ _ q33)) (A2.mono (fun _ _ k => k.same s34) A33) okd ld fun r5 H35 _ hR5 s35 => ?_⟩⟩
            have s2535 := (s2533.trans s34).trans s35
            refine eqRow (R25.same s2535) hR5 fun H36 s36 => ?_
            have s2536 := s2535.trans (ext_same s36)
            have s3336 := (s34.trans s35).trans (ext_same s36)
            refine ⟨_, rfl, q2, _, rfl, .inl ⟨SqL.of (s3336 _ _ q33), fun tt htt => ?_⟩⟩
            have s37 := same_new (o := .tup vs) htt
            refine ⟨_, rfl, eqTups (ds := es) (es := ds) upd_same (s37 _ _ (s2536 _ _ t25)) (A2.mono (fun _ _ k => DeedAt.same (s3336.trans s37) k) A33) (A2.mono (fun _ _ k => DeedAt.same (s2536.trans s37) k) A25) fun H38 s38 => ?_⟩
            refine ⟨rfl, ?_⟩
            have eb : decide (V.bl (decide (caps = caps ∧ ds = es)) = V.bl (decide (es = ds))) = true := by
              refine decide_eq_true (congrArg V.bl (decide_eq_decide.mpr ⟨fun z => z.2.symm, fun z => ⟨rfl, z.symm⟩⟩))
            rw [eb]
            have sF := (s2536.trans s37).trans (ext_same s38)
            exact hq _ (w25.same sF) ((Fr.of sH9).trans (fr.trans (Fr.of sF)))
          · obtain ⟨s923, hJw⟩ := s923
            have g24' : caps.length < 6 := by have := of_decide_eq_true g24; omega
            refine ⟨_, rfl, _, rfl, _, rfl, mkR hJw (.inr (s923 _ _ t9)) (A2.mono (fun _ _ k => k.same s923) A9) (fun d hd => wide_bad g24' (ok d hd)) l20 fun r4 H25 _ hR4 s25 => ?_⟩
            refine eqRow (R9.same (s923.trans s25)) hR4 fun H26 s26 => ⟨_, rfl, ifF (decide_eq_false fun z => ?_) (go2 H26 ⟨(s923.trans s25).trans (ext_same s26), (hJw.same s25).same (ext_same s26)⟩)⟩
            have z2 := congrArg List.length z.1
            unfold widerC at z2
            rw [if_neg (by omega), List.length_append] at z2
            simp at z2
        · have g20' : ds.length < 20 := by have := of_decide_eq_true g20; omega
          refine ⟨_, rfl, _, rfl, mkJ ((sH9.trans s918).seq (SqL.of hc)) hC fun j3 H20 _ hJ3 s20 => ⟨_, rfl, t, _, rfl, .inr (SqT.of (s20 _ _ (s918 _ _ t9))), fun l4 hl4 => ?_⟩⟩
          have s21 := (s918.trans s20).trans (same_new (o := .lst us) hl4)
          refine mkDraw fun pd H22 _ hP s22 => ⟨(by show 1 ≤ sizeLine; decide), fun m hm => ?_⟩
          have s23 := s22.trans (same_new (o := .lst [.ref pd]) hm)
          refine ⟨l4, m, us, [.ref pd], rfl, rfl, SqL.of (s23 _ _ upd_same), SqL.of upd_same, Nat.le_trans (by simp; omega : us.length + [V.ref pd].length ≤ 100) (by decide), fun q hq0 => ?_⟩
          have s24 := s23.trans (same_new (o := .lst (us ++ [.ref pd])) hq0)
          have s924 := s21.trans s24
          have okd : ∀ d ∈ ds ++ [E1.draw 0 1], d.bad caps = none := fun d hd => by
            rcases List.mem_append.mp hd with h | h
            · exact ok d h
            · obtain rfl : d = .draw 0 1 := by simpa using h
              have e : inJ caps.length 0 = true := inJ_of (k := 0) (by have := hC.l1; omega)
              simp only [E1.bad, e]
              rfl
          refine mkR (hJ3.same ((same_new (o := .lst us) hl4).trans s24)) (.inl upd_same) (A2.app (es := [E1.draw 0 1]) (A2.mono (fun _ _ k => k.same s924) A9) ⟨hP.same ((same_new (o := .lst [.ref pd]) hm).trans (same_new (o := .lst (us ++ [.ref pd])) hq0)), trivial⟩) okd (by rw [List.length_append]; show ds.length + 1 ≤ 20; omega) fun r4 H25 _ hR4 s25 => ?_
          refine eqRow (R9.same (s924.trans s25)) hR4 fun H26 s26 => ⟨_, rfl, ifF (decide_eq_false fun z => ?_) (go H26 ((s924.trans s25).trans (ext_same s26)))⟩
          have z2 := congrArg List.length z.2
          rw [List.length_append] at z2
          simp at z2
end
end Kp

namespace Kp
open PySem PySem.Spec PyProof.Rows L2 KpR
theorem A2.mapD {H : Hp} : ∀ {ts : List V} {ds : List D}, A2 (FactD H) ts ds → A2 (FactAt H) ts (ds.map D.toE)
  | [], [], _ => trivial
  | _ :: _, _ :: _, h => ⟨FactD.e h.1, A2.mapD h.2⟩
  | [], _ :: _, h => h.elim
  | _ :: _, [], h => h.elim
def Rf.okS : Rf → Prop
  | .count s _ => (PyData.str s).canLay0 = true
  | _ => True
theorem bad_okS {caps : List Int} {d : E1} {r : Rf} (h : d.bad caps = some r) : r.okS := by
  have k : ("much" : Str) = "much" := rfl
  cases r with
  | count s n =>
    have : s = ("much" : Str) := by
      cases d <;> simp only [E1.bad] at h <;> repeat' (split at h)
      all_goals first
        | (injection h with h; injection h with h1 _; exact h1.symm)
        | (injection h with h; cases h)
        | cases h
    rw [this]
    exact (by decide +kernel : (PyData.str "much").canLay0 = true)
  | nojar _ => trivial
  | same _ => trivial
  | sizes _ _ => trivial
theorem first_okS {caps : List Int} {r : Rf} : ∀ {ds : List E1}, firstBad caps ds = some r → r.okS
  | [], h => by cases h
  | d :: ds, h => by
    simp only [firstBad] at h
    cases c : d.bad caps with
    | some x => rw [c] at h; injection h with h; subst h; exact bad_okS c
    | none => rw [c] at h; exact first_okS h
theorem row_okS {caps : List Int} {ds : List E1} {r : Rf} (h : rowBad caps ds = some r) : r.okS := by
  unfold rowBad at h
  split at h
  · injection h with h
    subst h
    exact (by decide +kernel : (PyData.str "deeds").canLay0 = true)
  · exact first_okS h
def outP : Option Rf → PyData
  | none => .str "told"
  | some (.count s n) => .tuple [.str "badcount", .str s, .int n]
  | some (.nojar j) => .tuple [.str "nojar", .int j]
  | some (.same j) => .tuple [.str "samejar", .int j]
  | some (.sizes a b) => .tuple [.str "sizes", .int a, .int b]
theorem outP_flat {o : Option Rf} (h : ∀ r, o = some r → r.okS) : Flat 1 (outP o) := by
  have t3 : ∀ {a b c : PyData}, Flat 0 a → Flat 0 b → Flat 0 c → Flat 1 (.tuple [a, b, c]) := fun {a b c} ha hb hc => by
    refine Flat.tup (f := id) (l := [a, b, c]) fun x hx => ?_
    rcases List.mem_cons.mp hx with rfl | hx
    · exact ha
    · rcases List.mem_cons.mp hx with rfl | hx
      · exact hb
      · rcases List.mem_cons.mp hx with rfl | hx
        · exact hc
        · cases hx
  have t2 : ∀ {a b : PyData}, Flat 0 a → Flat 0 b → Flat 1 (.tuple [a, b]) := fun {a b} ha hb => by
    refine Flat.tup (f := id) (l := [a, b]) fun x hx => ?_
    rcases List.mem_cons.mp hx with rfl | hx
    · exact ha
    · rcases List.mem_cons.mp hx with rfl | hx
      · exact hb
      · cases hx
  match o, h with
  | none, _ => exact Flat.str (by decide +kernel : (PyData.str "told").canLay0 = true)
  | some (.count s n), h => exact t3 (Flat.str (by decide +kernel : (PyData.str "badcount").canLay0 = true)) (Flat.str (h _ rfl)) Flat.int
  | some (.nojar j), _ => exact t2 (Flat.str (by decide +kernel : (PyData.str "nojar").canLay0 = true)) Flat.int
  | some (.same j), _ => exact t2 (Flat.str (by decide +kernel : (PyData.str "samejar").canLay0 = true)) Flat.int
  | some (.sizes a b), _ => exact t3 (Flat.str (by decide +kernel : (PyData.str "sizes").canLay0 = true)) Flat.int Flat.int
theorem outP_self (o : Option Rf) : PyData.eqv (outP o) (outP o) = true := by
  cases o with
  | none => simp [outP, PyData.eqv]
  | some r => cases r <;> simp [outP, PyData.eqv, PyData.eqvAll]
section
variable {K : PySem.W.Frag} {mg : Str → Option Value}
theorem dp_out {H : Hp} {x : V} {o : Option Rf} (h : OutAt H x o) : Dp K H x (outP o) := by
  match o, h with
  | none, h =>
    have h : x = .str "told" := h
    subst h
    exact .str _
  | some (.count s n), ⟨p, e, hp⟩ => subst e; exact .tup (SqT.of hp) (.cons (.str _) (.cons (.str _) (.cons (.int _) .nil)))
  | some (.nojar j), ⟨p, e, hp⟩ => subst e; exact .tup (SqT.of hp) (.cons (.str _) (.cons (.int _) .nil))
  | some (.same j), ⟨p, e, hp⟩ => subst e; exact .tup (SqT.of hp) (.cons (.str _) (.cons (.int _) .nil))
  | some (.sizes a b), ⟨p, e, hp⟩ => subst e; exact .tup (SqT.of hp) (.cons (.str _) (.cons (.int _) (.cons (.int _) .nil)))
theorem ne_out {H : Hp} {x y : V} {caps : List Int} {ds : List E1} {Q : VK} (h1 : OutAt H x (rowBad caps ds)) (h2 : OutAt H y (rowBad caps ds)) (q : Q (.bl false) H) : rNeD K x y H Q := by
  have f := (outP_flat fun r e => row_okS e : Flat 1 (outP (rowBad caps ds))).mono (m := 60) (by decide)
  refine neD (dp_out h1) (dp_out h2) f f ?_
  rw [outP_self]
  exact q
def spLaw (K : PySem.W.Frag) : Sp := fun vs H Q _ => ∃ (a : Addr) (ns : List Int), vs = [.ref a] ∧ SqL K H a (ns.map V.int) ∧ ns.length ≤ 63 ∧ ∀ H', Q (.bl true) H'
def splaw (T : Tx K mg) : Sp := spLaw K
end
theorem pick8 {x : Int} {n : Nat} (h : n < 8) (h0 : 0 ≤ x) (h1 : x ≤ 22) : ∃ m : Nat, at0 [0, 20, 21, 1, 2, 3, 5, x] n = (m : Int) ∧ m ≤ 22 := by
  have : n = 0 ∨ n = 1 ∨ n = 2 ∨ n = 3 ∨ n = 4 ∨ n = 5 ∨ n = 6 ∨ n = 7 := by omega
  rcases this with rfl | rfl | rfl | rfl | rfl | rfl | rfl | rfl
  · exact ⟨0, rfl, by decide⟩
  · exact ⟨20, rfl, by decide⟩
  · exact ⟨21, rfl, by decide⟩
  · exact ⟨1, rfl, by decide⟩
  · exact ⟨2, rfl, by decide⟩
  · exact ⟨3, rfl, by decide⟩
  · exact ⟨5, rfl, by decide⟩
  · exact ⟨x.toNat, by show x = _; omega, by omega⟩
section
variable {P : Program} {w : World} {K : PySem.W.Frag} {mg : Str → Option Value} {base : Heap}
theorem oklaw (T : Tx K mg) : FnOk P w K mg base CX0 8 T.alaw T.dlaw ["_law_script"] (splaw T) := by
  refine T.flaw.ok sclaw (fun vs H Q E h => ?_) (fun cdv A outer s H vs Q E hr h => ?_)
  · obtain ⟨a, ns, rfl, _⟩ := h
    rfl
  · obtain ⟨a, ns, rfl, hS, hlen, hq⟩ := h
    refine ⟨_, (pss_cons (ps_for PassesOwn.never rfl (pi_list (pe_slice sl_list (pe_op op_catR (pv 0) (pe_lst (pa_cons pe_int pa_nil))) po_none (po_some pe_int))) (pg_name (i := 1) sclaw.nd rfl (by first | exact Or.inl rfl | exact Or.inr rfl)) (pss_cons (ps_set (i := 2) sclaw.nd rfl (by first | exact Or.inl rfl | exact Or.inr rfl) (pe_call (okLwell T) (hr.mono (by decide)) rfl T.gLwell T.fLwell.kp T.bLwell .nil pass0 (pa_cons (pv 1) pa_nil)))
      (pss_cons (ps_set (i := 3) sclaw.nd rfl (by first | exact Or.inl rfl | exact Or.inr rfl) (pe_call (okLcaps T) (hr.mono (by decide)) rfl T.gLcaps T.fLcaps.kp T.bLcaps .nil pass0 (pa_cons (pv 2) (pa_cons pe_int pa_nil))))
      (pss_cons (ps_set (i := 4) sclaw.nd rfl (by first | exact Or.inl rfl | exact Or.inr rfl) (pe_ix (r := rIxL K) ix_list (pe_lst (pa_cons pe_int (pa_cons pe_int (pa_cons pe_int (pa_cons pe_int (pa_cons pe_int (pa_cons pe_int (pa_cons pe_int (pa_cons (pe_call (okLdraw T) (hr.mono (by decide)) rfl T.gLdraw T.fLdraw.kp T.bLdraw .nil pass0 (pa_cons (pv 2) (pa_cons pe_int pa_nil))) pa_nil))))))))) (pe_call (okLdraw T) (hr.mono (by decide)) rfl T.gLdraw T.fLdraw.kp T.bLdraw .nil pass0 (pa_cons (pv 2) (pa_cons pe_int pa_nil))) (fun _ _ => rfl)))
      (pss_cons (ps_set (i := 5) sclaw.nd rfl (by first | exact Or.inl rfl | exact Or.inr rfl) (pe_call (okLfacts T) (hr.mono (by decide)) rfl T.gLfacts T.fLfacts.kp T.bLfacts .nil pass0 (pa_cons (pv 2) (pa_cons (pv 3) (pa_cons (pv 4) pa_nil)))))
      (pss_cons (ps_if (pt_cmpR (r := rNeD K) (op_neD hr.units) (pe_call (okLsaid T) (hr.mono (by decide)) rfl T.gLsaid T.fLsaid.kp T.bLsaid .nil pass0 (pa_cons (pv 3) (pa_cons (pv 5) pa_nil))) (pe_call (okLdue T) (hr.mono (by decide)) rfl T.gLdue T.fLdue.kp T.bLdue .nil pass0 (pa_cons (pv 3) (pa_cons (pv 5) pa_nil))) (nomark _)) (pss_one (ps_ret pe_bl)) pss_nil)
      (pss_cons (ps_if (PW.pt (pw_and (pt_cmpR op_le (pv 4) pe_int (nomark _)) (pw_and1 (pt_not (pt_val (pe_call (okLtoldright T) (hr.mono (by decide)) rfl T.gLtoldright T.fLtoldright.kp T.bLtoldright .nil pass0 (pa_cons (pv 2) (pa_cons (pv 3) (pa_cons (pv 5) pa_nil))))))))) (pss_one (ps_ret pe_bl)) pss_nil)
      (pss_one (ps_for PassesOwn.never rfl (pi_range1 rfl T.nrange (pa_cons pe_int pa_nil)) (pg_name (i := 6) sclaw.nd rfl (by first | exact Or.inl rfl | exact Or.inr rfl)) (pss_cons (ps_set (i := 7) sclaw.nd rfl (by first | exact Or.inl rfl | exact Or.inr rfl) (pe_callTy call_list_of rfl T.nlist (by decide +kernel) (pa_cons (pv 5) pa_nil)))
      (pss_cons (ps_for PassesOwn.never rfl (pi_range1 rfl T.nrange (pa_cons (pe_op op_add pe_int (pe_call (okLdraw T) (hr.mono (by decide)) rfl T.gLdraw T.fLdraw.kp T.bLdraw .nil pass0 (pa_cons (pv 2) (pa_cons pe_int pa_nil)))) pa_nil)) (pg_name (i := 8) sclaw.nd rfl (by first | exact Or.inl rfl | exact Or.inr rfl)) (pss_one (ps_expr (pe_bm PySem.F.plainAttrs_list PySem.F.slot_list_insert PySem.F.type_list_insert mt_insert (pv 7) (pa_cons (pe_call (okLdraw T) (hr.mono (by decide)) rfl T.gLdraw T.fLdraw.kp T.bLdraw .nil pass0 (pa_cons (pv 2) (pa_cons (pe_op op_add (pe_callB call_len_seq rfl T.nlen PySem.boot_len (pa_cons (pv 7) pa_nil)) pe_int) pa_nil))) (pa_cons (pe_call (okLodd T) (hr.mono (by decide)) rfl T.gLodd T.fLodd.kp T.bLodd .nil pass0 (pa_cons (pv 2) (pa_cons (pv 3) pa_nil))) pa_nil))))))
      (pss_one (ps_if (pt_cmpR (r := rNeD K) (op_neD hr.units) (pe_call (okLsaid T) (hr.mono (by decide)) rfl T.gLsaid T.fLsaid.kp T.bLsaid .nil pass0 (pa_cons (pv 3) (pa_cons (pv 7) pa_nil))) (pe_call (okLdue T) (hr.mono (by decide)) rfl T.gLdue T.fLdue.kp T.bLdue .nil pass0 (pa_cons (pv 3) (pa_cons (pv 7) pa_nil))) (nomark _)) (pss_one (ps_ret pe_bl)) pss_nil)))))))))))))
      (pss_one (ps_ret pe_bl))), ?_⟩
    refine ⟨_, rfl, (by show 1 ≤ sizeLine; decide), fun z hz => ?_⟩
    have s1 : Same H (upd H z (.lst [V.int 0])) := same_new hz
    refine ⟨a, z, _, _, rfl, rfl, s1.seq hS, SqL.of upd_same, ?_, fun q hq0 => ?_⟩
    · rw [List.length_map]
      exact Nat.le_trans (by simp; omega : ns.length + [V.int 0].length ≤ 100) (by decide)
    have s2 := s1.trans (same_new (o := .lst (ns.map V.int ++ [V.int 0])) hq0)
    refine ⟨_, rfl, q, _, rfl, SqL.of upd_same, fun l hl => ?_⟩
    rw [show (8 : Int) = ((8 : Nat) : Int) from rfl, cut_take]
    have s3 := s2.trans (same_new (o := .lst ((ns.map V.int ++ [V.int 0]).take 8)) hl)
    refine ⟨l, rfl, ⟨_, SqL.of upd_same⟩, ?_⟩
    have allI : ∀ y ∈ (ns.map V.int ++ [V.int 0]).take 8, ∃ n, y = V.int n := fun y hy => by
      rcases List.mem_append.mp (List.mem_of_mem_take hy) with k | k
      · obtain ⟨n, _, e⟩ := List.mem_map.mp k
        exact ⟨n, e.symm⟩
      · exact ⟨0, by simpa using k⟩
    generalize hxs : (ns.map V.int ++ [V.int 0]).take 8 = xs at *
    generalize hHl : upd (upd (upd H z (.lst [V.int 0])) q (.lst (ns.map V.int ++ [V.int 0]))) l (.lst xs) = Hl at *
    have gl : Hl l = some (.lst xs) := by rw [← hHl]; exact upd_same
    refine for_list (K := K) (a := l) (xs := xs) (fun i σ H' => ∃ v1 v2 v3 v4 v5 v6 v7 v8 : Option V, σ = [some (.ref a), v1, v2, v3, v4, v5, v6, v7, v8] ∧ Same Hl H') ⟨none, none, none, none, none, none, none, none, rfl, Same.refl _⟩ (fun i σ H' _ ⟨_, _, _, _, _, _, _, _, _, e⟩ => e.seq (SqL.of gl)) ?_ ?_
    · rintro i y σ H0 hi ⟨v1, v2, v3, v4, v5, v6, v7, v8, rfl, sm0⟩
      obtain ⟨n, rfl⟩ := allI y (List.mem_of_getElem? hi)
      refine ⟨_, rfl, n, rfl, fun H2 u u0 w2 s2 => ?_⟩
      refine ⟨_, rfl, u, 6, rfl, w2, by decide, by decide, fun H3 c caps c0 hc hC l6 w3 f3 => ?_⟩
      have sme : ∀ {G G' : Hp}, Fr u H0 G → Fr u G G' → Same H0 G' := fun e f b o q => (e.trans f) b o (ne_of_none q u0) q
      have f03 : Fr u H0 H3 := (Fr.of s2).trans f3
      have cu : c ≠ u := w2.ne c0
      refine ⟨_, rfl, u, 23, rfl, w3, by decide, by decide, fun H4 x lx w4 f4 => ⟨(by show 8 ≤ sizeLine; decide), fun lm hlm => ?_⟩⟩
      have lmu := w4.ne hlm
      refine ⟨_, rfl, u, 8, rfl, w4.new hlm, by decide, by decide, fun H5 k lk w5 f5 => ?_⟩
      refine pickL (xs := [0, 20, 21, 1, 2, 3, 5, (x : Int)]) (SqL.of (f5 _ _ lmu upd_same)) (by show k < 8; omega) ?_
      obtain ⟨m, em, m22⟩ := pick8 (x := x) (n := k) (by omega) (by omega) (by omega)
      rw [em]
      have f35 : Fr u H3 H5 := (f4.trans (Fr.of (same_new hlm))).trans f5
      have hc5 := f35 _ _ cu hc
      refine ⟨_, rfl, _, rfl, _, rfl, u, c, m, caps, rfl, w5, hc5, cu, hC, m22, fun H6 f ts ds f0 hf hA hl ok w6 f6 => ?_⟩
      have fu : f ≠ u := w5.ne f0
      have hc6 := f6 _ _ cu hc5
      have hA6 := A2.mapD hA
      have ml : (ds.map D.toE).length = m := by rw [List.length_map, hl]
      have okE : ∀ e ∈ ds.map D.toE, e.bad caps = none := fun e he => by
        obtain ⟨d, hd, rfl⟩ := List.mem_map.mp he
        exact good_toE (ok d hd)
      generalize ds.map D.toE = es at hA6 ml okE
      have f06 : Fr u H0 H6 := (f03.trans f35).trans f6
      refine ⟨_, rfl, _, rfl, c, f, caps, ts, es, rfl, hc6, hC, SqL.of hf, hA6, by omega, fun H7 x7 h7 s7 => ?_⟩
      refine ⟨_, rfl, _, rfl, c, f, caps, ts, es, rfl, s7.seq (SqL.of hc6), s7.seq (SqL.of hf), A2.mono (fun _ _ k => k.same s7) hA6, hC.l6, by omega, fun H8 y8 h8 s8 => ?_⟩
      refine ne_out (h7.same s8) h8 ⟨_, rfl, ifF rfl ?_⟩
      have s68 := s7.trans s8
      have pr : WellAt H8 u ∧ Fr u H0 H8 ∧ H8 c = some (.lst (vi caps)) ∧ H8 f = some (.lst ts) ∧ A2 (FactAt H8) ts es := ⟨w6.same s68, f06.trans (Fr.of s68), s68 _ _ hc6, s68 _ _ hf, A2.mono (fun _ _ k => k.same s68) hA6⟩
      clear h8 h7 s8 s68
      refine ⟨_, rfl, _, _, rfl, rfl, _, rfl, ?_⟩
      revert H8
      refine cutAll (fun H9 pr => ?_) fun g20 go H8 ⟨w8, f8, hc8, hf8, hA8⟩ => ?_
      · refine ⟨4, rfl, by decide, by decide, ?_⟩
        refine for_range (lo := 0) (n := (4 : Int).toNat) (fun i σ H' => ∃ v6 v7 v8 : Option V, σ = [some (.ref a), some (.int n), some (.ref u), some (.ref c), some (.int m), some (.ref f), v6, v7, v8] ∧ WellAt H' u ∧ Fr u H0 H' ∧ H' c = some (.lst (vi caps)) ∧ H' f = some (.lst ts) ∧ A2 (FactAt H') ts es)
          ⟨v6, v7, v8, rfl, pr⟩ ?_ ?_
        · rintro i σ H10 hi ⟨v6, v7, v8, rfl, w10, f10, hc10, hf10, hA10⟩
          refine ⟨_, rfl, f, _, rfl, .inl (SqL.of hf10), fun b hb => ?_⟩
          have bu : b ≠ u := w10.ne hb
          have cb : c ≠ b := ne_of_none hc10 hb
          have fb : f ≠ b := ne_of_none hf10 hb
          have sB := same_new (o := HO.lst ts) hb
          refine ⟨_, rfl, u, 3, rfl, w10.new hb, by decide, by decide, fun H12 x2 lx2 w12 f12 => ⟨_, _, rfl, rfl, 1 + (x2 : Int), rfl, by omega, by omega, ?_⟩⟩
          refine for_range (lo := 0) (n := (1 + (x2 : Int)).toNat) (fun j σ H' => ∃ (v8 : Option V) (ts' : List V) (es' : List E1), σ = [some (.ref a), some (.int n), some (.ref u), some (.ref c), some (.int m), some (.ref f), some (.int (0 + (i : Int))), some (.ref b), v8] ∧ H' b = some (.lst ts') ∧ A2 (FactAt H') ts' es' ∧ es'.length = es.length + j ∧ WellAt H' u ∧ Fr u H10 H')
            ⟨v8, ts, es, rfl, f12 _ _ bu upd_same, ?_, rfl, w12, (Fr.of sB).trans f12⟩ ?_ ?_
          · obtain ⟨o, ho, hbl⟩ := (w10.new hb (o := HO.lst ts)).ex
            exact A2.mono (fun _ _ k => (k.same sB).fr f12 ho hbl) hA10
          · rintro j σ H13 hj ⟨v8', ts', es', rfl, gb, gA, gl', w13, f13⟩
            have tl := gA.len
            refine ⟨_, rfl, .inl ⟨rfl, _, SqL.of gb⟩, ?_⟩
            refine ⟨_, rfl, _, rfl, b, _, rfl, .inl (SqL.of gb), _, _, rfl, rfl, u, _, rfl, w13, by omega, by omega, fun H14 x14 lx14 w14 f14 => ?_⟩
            have hc14 := f14 _ _ cu (f13 _ _ cu hc10)
            refine ⟨_, rfl, _, rfl, u, c, caps, rfl, w14, hc14, cu, hC, fun H15 pv e hE w15 f15 => ?_⟩
            have gb15 := f15 _ _ bu (f14 _ _ bu gb)
            refine ⟨b, ts', _, pv, rfl, rfl, gb15, Nat.lt_of_lt_of_le (by omega : ts'.length < 100) (by decide), by omega, by omega, ?_⟩
            have mu : Fr b H15 (upd H15 b (.lst (ts'.take (x14 : Int).toNat ++ [pv] ++ ts'.drop (x14 : Int).toNat))) := fr_mut (Fr.refl _ _)
            have gA15 : A2 (FactAt H15) ts' es' := by
              obtain ⟨o, ho, hbl⟩ := w13.ex
              exact A2.mono (fun _ _ k => k.fr (f14.trans f15) ho hbl) gA
            have gA16 := A2.mono (fun _ _ k => FactAt.fr mu gb15 bl_l k) gA15
            refine ⟨_, ts'.take (x14 : Int).toNat ++ [pv] ++ ts'.drop (x14 : Int).toNat, es'.take (x14 : Int).toNat ++ [e] ++ es'.drop (x14 : Int).toNat, rfl, upd_same, A2.app (A2.app (A2.take _ gA16) ⟨FactAt.fr mu gb15 bl_l hE, trivial⟩) (A2.drop _ gA16), ?_, w15.mut bu, fr_new (f13.trans (f14.trans f15)) hb⟩
            simp only [List.length_append, List.length_take, List.length_drop, List.length_singleton]
            omega
          · rintro σ H13 ⟨v8', ts', es', rfl, gb, gA, gl', w13, f13⟩
            have hc13 := f13 _ _ cu hc10
            refine ⟨_, rfl, _, rfl, c, b, caps, ts', es', rfl, hc13, hC, SqL.of gb, gA, by omega, fun H17 x17 h17 s17 => ?_⟩
            refine ⟨_, rfl, _, rfl, c, b, caps, ts', es', rfl, s17.seq (SqL.of hc13), s17.seq (SqL.of gb), A2.mono (fun _ _ k => k.same s17) gA, hC.l6, by omega, fun H18 y18 h18 s18 => ?_⟩
            refine ne_out (h17.same s18) h18 ⟨_, rfl, ifF rfl ?_⟩
            have fF : Fr u H10 H18 := (f13.trans (Fr.of s17)).trans (Fr.of s18)
            refine ⟨_, _, _, rfl, (w13.same s17).same s18, f10.trans fF, fF _ _ cu hc10, fF _ _ fu hf10, ?_⟩
            obtain ⟨o, ho, hbl⟩ := w10.ex
            exact A2.mono (fun _ _ k => k.fr fF ho hbl) hA10
        · rintro σ H10 ⟨v6, v7, v8, rfl, w10, f10, _⟩
          exact ⟨_, _, _, _, _, _, _, _, rfl, sm0.trans (fun b o q => f10 b o (ne_of_none q u0) q)⟩
      · have g20' : es.length ≤ 20 := by have := of_decide_eq_true g20; omega
        refine ⟨_, rfl, _, rfl, _, rfl, u, c, f, caps, ts, es, rfl, w8, hc8, cu, hC, hf8, fu, hA8, okE, g20', fun H9 w9 f9 => ⟨_, rfl, ifF rfl (go H9 ⟨w9, f8.trans f9, f9 _ _ cu hc8, f9 _ _ fu hf8, ?_⟩)⟩⟩
        obtain ⟨o, ho, hb⟩ := w8.ex
        exact A2.mono (fun _ _ k => k.fr f9 ho hb) hA8
    · rintro σ H' ⟨v1, v2, v3, v4, v5, v6, v7, v8, rfl, sm0⟩
      exact hq H'
end
end Kp

namespace Kp
open PySem PySem.Spec PyProof.Rows L2 KpR
theorem all_mk {l : PySem.W.OpenLaw} {w : World} {K : PySem.W.Frag} {h : Heap} {mg : Str → Option Value} {fa CJars CPour CPut CDraw CChange CRow CDeed CBadCount CNoJar CSameJar CSizes fcheckmuch fcheckjar fcheckdeed fBadCountInit fNoJarInit fSameJarInit fSizesInit fJarsInit fPourInit fPutInit fDrawInit fChangeInit fRowInit fJarsEq fPourEq fPutEq fDrawEq fChangeEq fRowEq fLwell fLdraw fLcaps fLfacts fLdeed fLodd fLamiss fLdue fLsaid fLtoldright flaw CBadStart : Addr} (X : K.In h) (G : h.Ns mainGlobals mg) (hfa : mg "law" = some (.ref fa))
    {odcheckmuch ancheckmuch odcheckjar ancheckjar odcheckdeed ancheckdeed odBadCountInit anBadCountInit odNoJarInit anNoJarInit odSameJarInit anSameJarInit odSizesInit anSizesInit odJarsInit anJarsInit odPourInit anPourInit odPutInit anPutInit odDrawInit anDrawInit odChangeInit anChangeInit odRowInit anRowInit odJarsEq anJarsEq odPourEq anPourEq odPutEq anPutEq odDrawEq anDrawEq odChangeEq anChangeEq odRowEq anRowEq odLwell anLwell odLdraw anLdraw odLcaps anLcaps odLfacts anLfacts odLdeed anLdeed odLodd anLodd odLamiss anLamiss odLdue anLdue odLsaid anLsaid odLtoldright anLtoldright odlaw anlaw : Option Addr} {slcheckmuch slcheckjar slcheckdeed slBadCountInit slNoJarInit slSameJarInit slSizesInit slJarsInit slPourInit slPutInit slDrawInit slChangeInit slRowInit slJarsEq slPourEq slPutEq slDrawEq slChangeEq slRowEq slLwell slLdraw slLcaps slLfacts slLdeed slLodd slLamiss slLdue slLsaid slLtoldright sllaw : Array (Option Value)} {occheckmuch dccheckmuch pmcheckmuch cdcheckmuch ctcheckmuch kVcheckmuch occheckjar dccheckjar pmcheckjar cdcheckjar ctcheckjar kVcheckjar occheckdeed dccheckdeed pmcheckdeed cdcheckdeed ctcheckdeed kVcheckdeed ocBadCountInit dcBadCountInit pmBadCountInit cdBadCountInit ctBadCountInit kVBadCountInit ocNoJarInit dcNoJarInit pmNoJarInit cdNoJarInit ctNoJarInit kVNoJarInit ocSameJarInit dcSameJarInit pmSameJarInit cdSameJarInit ctSameJarInit kVSameJarInit ocSizesInit dcSizesInit pmSizesInit cdSizesInit ctSizesInit kVSizesInit ocJarsInit dcJarsInit pmJarsInit cdJarsInit ctJarsInit kVJarsInit ocPourInit dcPourInit pmPourInit cdPourInit ctPourInit kVPourInit ocPutInit dcPutInit pmPutInit cdPutInit ctPutInit kVPutInit ocDrawInit dcDrawInit pmDrawInit cdDrawInit ctDrawInit kVDrawInit ocChangeInit dcChangeInit pmChangeInit cdChangeInit ctChangeInit kVChangeInit ocRowInit dcRowInit pmRowInit cdRowInit ctRowInit kVRowInit ocJarsEq dcJarsEq pmJarsEq cdJarsEq ctJarsEq kVJarsEq ocPourEq dcPourEq pmPourEq cdPourEq ctPourEq kVPourEq ocPutEq dcPutEq pmPutEq cdPutEq ctPutEq kVPutEq ocDrawEq dcDrawEq pmDrawEq cdDrawEq ctDrawEq kVDrawEq ocChangeEq dcChangeEq pmChangeEq cdChangeEq ctChangeEq kVChangeEq ocRowEq dcRowEq pmRowEq cdRowEq ctRowEq kVRowEq ocLwell dcLwell pmLwell cdLwell ctLwell kVLwell ocLdraw dcLdraw pmLdraw cdLdraw ctLdraw kVLdraw ocLcaps dcLcaps pmLcaps cdLcaps ctLcaps kVLcaps ocLfacts dcLfacts pmLfacts cdLfacts ctLfacts kVLfacts ocLdeed dcLdeed pmLdeed cdLdeed ctLdeed kVLdeed ocLodd dcLodd pmLodd cdLodd ctLodd kVLodd ocLamiss dcLamiss pmLamiss cdLamiss ctLamiss kVLamiss ocLdue dcLdue pmLdue cdLdue ctLdue kVLdue ocLsaid dcLsaid pmLsaid cdLsaid ctLsaid kVLsaid ocLtoldright dcLtoldright pmLtoldright cdLtoldright ctLtoldright kVLtoldright oclaw dclaw pmlaw cdlaw ctlaw kVlaw : Value} {tkMOSTJARS tkMOSTDEEDS tkMOSTMUCH : Tok}
    {nmXBadCount qXBadCount : Str} {NXBadCount : Addr} {bsXBadCount bmXBadCount : List Value} {abXBadCount : Bool} {snXBadCount : List Str} {subXBadCount : List Value} {colXBadCount : Option Bool} {ddXBadCount : Option Addr} {r0XBadCount r1XBadCount r2XBadCount r3XBadCount r5XBadCount : Option Value}
    {nmXNoJar qXNoJar : Str} {NXNoJar : Addr} {bsXNoJar bmXNoJar : List Value} {abXNoJar : Bool} {snXNoJar : List Str} {subXNoJar : List Value} {colXNoJar : Option Bool} {ddXNoJar : Option Addr} {r0XNoJar r1XNoJar r2XNoJar r3XNoJar r5XNoJar : Option Value}
    {nmXSameJar qXSameJar : Str} {NXSameJar : Addr} {bsXSameJar bmXSameJar : List Value} {abXSameJar : Bool} {snXSameJar : List Str} {subXSameJar : List Value} {colXSameJar : Option Bool} {ddXSameJar : Option Addr} {r0XSameJar r1XSameJar r2XSameJar r3XSameJar r5XSameJar : Option Value}
    {nmXSizes qXSizes : Str} {NXSizes : Addr} {bsXSizes bmXSizes : List Value} {abXSizes : Bool} {snXSizes : List Str} {subXSizes : List Value} {colXSizes : Option Bool} {ddXSizes : Option Addr} {r0XSizes r1XSizes r2XSizes r3XSizes r5XSizes : Option Value}
    (xJars : PySem.W.nsIn K mainGlobals "Jars" = some (some (.ref CJars)))
    (xPour : PySem.W.nsIn K mainGlobals "Pour" = some (some (.ref CPour)))
    (xPut : PySem.W.nsIn K mainGlobals "Put" = some (some (.ref CPut)))
    (xDraw : PySem.W.nsIn K mainGlobals "Draw" = some (some (.ref CDraw)))
    (xChange : PySem.W.nsIn K mainGlobals "Change" = some (some (.ref CChange)))
    (xRow : PySem.W.nsIn K mainGlobals "Row" = some (some (.ref CRow)))
    (xDeed : PySem.W.nsIn K mainGlobals "Deed" = some (some (.ref CDeed)))
    (xBadCount : PySem.W.nsIn K mainGlobals "BadCount" = some (some (.ref CBadCount)))
    (xNoJar : PySem.W.nsIn K mainGlobals "NoJar" = some (some (.ref CNoJar)))
    (xSameJar : PySem.W.nsIn K mainGlobals "SameJar" = some (some (.ref CSameJar)))
    (xSizes : PySem.W.nsIn K mainGlobals "Sizes" = some (some (.ref CSizes)))
    (acheckmuch : PySem.W.nsIn K mainGlobals "check_much" = some (some (.ref fcheckmuch)))
    (lcheckmuch : K.lookup fcheckmuch = some ⟨occheckmuch, odcheckmuch, .func (PySem.W.fnOf "check_much" "check_much" (defArgs scheckmuch) (defBody scheckmuch) (defScope scheckmuch) .none kVcheckmuch dccheckmuch pmcheckmuch ancheckmuch cdcheckmuch ctcheckmuch), slcheckmuch⟩)
    (qcheckmuch : PySem.W.codeIn K cdcheckmuch "check_much" = true)
    (kcheckmuch : PySem.W.keepIn K (.ref fcheckmuch) = true)
    (acheckjar : PySem.W.nsIn K mainGlobals "check_jar" = some (some (.ref fcheckjar)))
    (lcheckjar : K.lookup fcheckjar = some ⟨occheckjar, odcheckjar, .func (PySem.W.fnOf "check_jar" "check_jar" (defArgs scheckjar) (defBody scheckjar) (defScope scheckjar) .none kVcheckjar dccheckjar pmcheckjar ancheckjar cdcheckjar ctcheckjar), slcheckjar⟩)
    (qcheckjar : PySem.W.codeIn K cdcheckjar "check_jar" = true)
    (kcheckjar : PySem.W.keepIn K (.ref fcheckjar) = true)
    (acheckdeed : PySem.W.nsIn K mainGlobals "check_deed" = some (some (.ref fcheckdeed)))
    (lcheckdeed : K.lookup fcheckdeed = some ⟨occheckdeed, odcheckdeed, .func (PySem.W.fnOf "check_deed" "check_deed" (defArgs scheckdeed) (defBody scheckdeed) (defScope scheckdeed) .none kVcheckdeed dccheckdeed pmcheckdeed ancheckdeed cdcheckdeed ctcheckdeed), slcheckdeed⟩)
    (qcheckdeed : PySem.W.codeIn K cdcheckdeed "check_deed" = true)
    (kcheckdeed : PySem.W.keepIn K (.ref fcheckdeed) = true)
    (aBadCountInit : PySem.W.findIn K (.ref CBadCount) "__init__" = some (some (.ref fBadCountInit)))
    (iBadCountInit : PySem.W.isFn K (.ref fBadCountInit) = true)
    (lBadCountInit : K.lookup fBadCountInit = some ⟨ocBadCountInit, odBadCountInit, .func (PySem.W.fnOf "__init__" "BadCount.__init__" (defArgs sBadCountInit) (defBody sBadCountInit) (defScope sBadCountInit) .none kVBadCountInit dcBadCountInit pmBadCountInit anBadCountInit cdBadCountInit ctBadCountInit), slBadCountInit⟩)
    (qBadCountInit : PySem.W.codeIn K cdBadCountInit "BadCount.__init__" = true)
    (kBadCountInit : PySem.W.keepIn K (.ref fBadCountInit) = true)
    (aNoJarInit : PySem.W.findIn K (.ref CNoJar) "__init__" = some (some (.ref fNoJarInit)))
    (iNoJarInit : PySem.W.isFn K (.ref fNoJarInit) = true)
    (lNoJarInit : K.lookup fNoJarInit = some ⟨ocNoJarInit, odNoJarInit, .func (PySem.W.fnOf "__init__" "NoJar.__init__" (defArgs sNoJarInit) (defBody sNoJarInit) (defScope sNoJarInit) .none kVNoJarInit dcNoJarInit pmNoJarInit anNoJarInit cdNoJarInit ctNoJarInit), slNoJarInit⟩)
    (qNoJarInit : PySem.W.codeIn K cdNoJarInit "NoJar.__init__" = true)
    (kNoJarInit : PySem.W.keepIn K (.ref fNoJarInit) = true)
    (aSameJarInit : PySem.W.findIn K (.ref CSameJar) "__init__" = some (some (.ref fSameJarInit)))
    (iSameJarInit : PySem.W.isFn K (.ref fSameJarInit) = true)
    (lSameJarInit : K.lookup fSameJarInit = some ⟨ocSameJarInit, odSameJarInit, .func (PySem.W.fnOf "__init__" "SameJar.__init__" (defArgs sSameJarInit) (defBody sSameJarInit) (defScope sSameJarInit) .none kVSameJarInit dcSameJarInit pmSameJarInit anSameJarInit cdSameJarInit ctSameJarInit), slSameJarInit⟩)
    (qSameJarInit : PySem.W.codeIn K cdSameJarInit "SameJar.__init__" = true)
    (kSameJarInit : PySem.W.keepIn K (.ref fSameJarInit) = true)
    (aSizesInit : PySem.W.findIn K (.ref CSizes) "__init__" = some (some (.ref fSizesInit)))
    (iSizesInit : PySem.W.isFn K (.ref fSizesInit) = true)
    (lSizesInit : K.lookup fSizesInit = some ⟨ocSizesInit, odSizesInit, .func (PySem.W.fnOf "__init__" "Sizes.__init__" (defArgs sSizesInit) (defBody sSizesInit) (defScope sSizesInit) .none kVSizesInit dcSizesInit pmSizesInit anSizesInit cdSizesInit ctSizesInit), slSizesInit⟩)
    (qSizesInit : PySem.W.codeIn K cdSizesInit "Sizes.__init__" = true)
    (kSizesInit : PySem.W.keepIn K (.ref fSizesInit) = true)
    (aJarsInit : PySem.W.findIn K (.ref CJars) "__init__" = some (some (.ref fJarsInit)))
    (iJarsInit : PySem.W.isFn K (.ref fJarsInit) = true)
    (lJarsInit : K.lookup fJarsInit = some ⟨ocJarsInit, odJarsInit, .func (PySem.W.fnOf "__init__" "Jars.__init__" (defArgs sJarsInit) (defBody sJarsInit) (defScope sJarsInit) .none kVJarsInit dcJarsInit pmJarsInit anJarsInit cdJarsInit ctJarsInit), slJarsInit⟩)
    (qJarsInit : PySem.W.codeIn K cdJarsInit "Jars.__init__" = true)
    (kJarsInit : PySem.W.keepIn K (.ref fJarsInit) = true)
    (aPourInit : PySem.W.findIn K (.ref CPour) "__init__" = some (some (.ref fPourInit)))
    (iPourInit : PySem.W.isFn K (.ref fPourInit) = true)
    (lPourInit : K.lookup fPourInit = some ⟨ocPourInit, odPourInit, .func (PySem.W.fnOf "__init__" "Pour.__init__" (defArgs sPourInit) (defBody sPourInit) (defScope sPourInit) .none kVPourInit dcPourInit pmPourInit anPourInit cdPourInit ctPourInit), slPourInit⟩)
    (qPourInit : PySem.W.codeIn K cdPourInit "Pour.__init__" = true)
    (kPourInit : PySem.W.keepIn K (.ref fPourInit) = true)
    (aPutInit : PySem.W.findIn K (.ref CPut) "__init__" = some (some (.ref fPutInit)))
    (iPutInit : PySem.W.isFn K (.ref fPutInit) = true)
    (lPutInit : K.lookup fPutInit = some ⟨ocPutInit, odPutInit, .func (PySem.W.fnOf "__init__" "Put.__init__" (defArgs sPutInit) (defBody sPutInit) (defScope sPutInit) .none kVPutInit dcPutInit pmPutInit anPutInit cdPutInit ctPutInit), slPutInit⟩)
    (qPutInit : PySem.W.codeIn K cdPutInit "Put.__init__" = true)
    (kPutInit : PySem.W.keepIn K (.ref fPutInit) = true)
    (aDrawInit : PySem.W.findIn K (.ref CDraw) "__init__" = some (some (.ref fDrawInit)))
    (iDrawInit : PySem.W.isFn K (.ref fDrawInit) = true)
    (lDrawInit : K.lookup fDrawInit = some ⟨ocDrawInit, odDrawInit, .func (PySem.W.fnOf "__init__" "Draw.__init__" (defArgs sDrawInit) (defBody sDrawInit) (defScope sDrawInit) .none kVDrawInit dcDrawInit pmDrawInit anDrawInit cdDrawInit ctDrawInit), slDrawInit⟩)
    (qDrawInit : PySem.W.codeIn K cdDrawInit "Draw.__init__" = true)
    (kDrawInit : PySem.W.keepIn K (.ref fDrawInit) = true)
    (aChangeInit : PySem.W.findIn K (.ref CChange) "__init__" = some (some (.ref fChangeInit)))
    (iChangeInit : PySem.W.isFn K (.ref fChangeInit) = true)
    (lChangeInit : K.lookup fChangeInit = some ⟨ocChangeInit, odChangeInit, .func (PySem.W.fnOf "__init__" "Change.__init__" (defArgs sChangeInit) (defBody sChangeInit) (defScope sChangeInit) .none kVChangeInit dcChangeInit pmChangeInit anChangeInit cdChangeInit ctChangeInit), slChangeInit⟩)
    (qChangeInit : PySem.W.codeIn K cdChangeInit "Change.__init__" = true)
    (kChangeInit : PySem.W.keepIn K (.ref fChangeInit) = true)
    (aRowInit : PySem.W.findIn K (.ref CRow) "__init__" = some (some (.ref fRowInit)))
    (iRowInit : PySem.W.isFn K (.ref fRowInit) = true)
    (lRowInit : K.lookup fRowInit = some ⟨ocRowInit, odRowInit, .func (PySem.W.fnOf "__init__" "Row.__init__" (defArgs sRowInit) (defBody sRowInit) (defScope sRowInit) .none kVRowInit dcRowInit pmRowInit anRowInit cdRowInit ctRowInit), slRowInit⟩)
    (qRowInit : PySem.W.codeIn K cdRowInit "Row.__init__" = true)
    (kRowInit : PySem.W.keepIn K (.ref fRowInit) = true)
    (aJarsEq : PySem.W.findIn K (.ref CJars) "__eq__" = some (some (.ref fJarsEq)))
    (iJarsEq : PySem.W.isFn K (.ref fJarsEq) = true)
    (lJarsEq : K.lookup fJarsEq = some ⟨ocJarsEq, odJarsEq, .func (PySem.W.fnOf "__eq__" "Jars.__eq__" (defArgs sJarsEq) (defBody sJarsEq) (defScope sJarsEq) .none kVJarsEq dcJarsEq pmJarsEq anJarsEq cdJarsEq ctJarsEq), slJarsEq⟩)
    (qJarsEq : PySem.W.codeIn K cdJarsEq "Jars.__eq__" = true)
    (kJarsEq : PySem.W.keepIn K (.ref fJarsEq) = true)
    (aPourEq : PySem.W.findIn K (.ref CPour) "__eq__" = some (some (.ref fPourEq)))
    (iPourEq : PySem.W.isFn K (.ref fPourEq) = true)
    (lPourEq : K.lookup fPourEq = some ⟨ocPourEq, odPourEq, .func (PySem.W.fnOf "__eq__" "Pour.__eq__" (defArgs sPourEq) (defBody sPourEq) (defScope sPourEq) .none kVPourEq dcPourEq pmPourEq anPourEq cdPourEq ctPourEq), slPourEq⟩)
    (qPourEq : PySem.W.codeIn K cdPourEq "Pour.__eq__" = true)
    (kPourEq : PySem.W.keepIn K (.ref fPourEq) = true)
    (aPutEq : PySem.W.findIn K (.ref CPut) "__eq__" = some (some (.ref fPutEq)))
    (iPutEq : PySem.W.isFn K (.ref fPutEq) = true)
    (lPutEq : K.lookup fPutEq = some ⟨ocPutEq, odPutEq, .func (PySem.W.fnOf "__eq__" "Put.__eq__" (defArgs sPutEq) (defBody sPutEq) (defScope sPutEq) .none kVPutEq dcPutEq pmPutEq anPutEq cdPutEq ctPutEq), slPutEq⟩)
    (qPutEq : PySem.W.codeIn K cdPutEq "Put.__eq__" = true)
    (kPutEq : PySem.W.keepIn K (.ref fPutEq) = true)
    (aDrawEq : PySem.W.findIn K (.ref CDraw) "__eq__" = some (some (.ref fDrawEq)))
    (iDrawEq : PySem.W.isFn K (.ref fDrawEq) = true)
    (lDrawEq : K.lookup fDrawEq = some ⟨ocDrawEq, odDrawEq, .func (PySem.W.fnOf "__eq__" "Draw.__eq__" (defArgs sDrawEq) (defBody sDrawEq) (defScope sDrawEq) .none kVDrawEq dcDrawEq pmDrawEq anDrawEq cdDrawEq ctDrawEq), slDrawEq⟩)
    (qDrawEq : PySem.W.codeIn K cdDrawEq "Draw.__eq__" = true)
    (kDrawEq : PySem.W.keepIn K (.ref fDrawEq) = true)
    (aChangeEq : PySem.W.findIn K (.ref CChange) "__eq__" = some (some (.ref fChangeEq)))
    (iChangeEq : PySem.W.isFn K (.ref fChangeEq) = true)
    (lChangeEq : K.lookup fChangeEq = some ⟨ocChangeEq, odChangeEq, .func (PySem.W.fnOf "__eq__" "Change.__eq__" (defArgs sChangeEq) (defBody sChangeEq) (defScope sChangeEq) .none kVChangeEq dcChangeEq pmChangeEq anChangeEq cdChangeEq ctChangeEq), slChangeEq⟩)
    (qChangeEq : PySem.W.codeIn K cdChangeEq "Change.__eq__" = true)
    (kChangeEq : PySem.W.keepIn K (.ref fChangeEq) = true)
    (aRowEq : PySem.W.findIn K (.ref CRow) "__eq__" = some (some (.ref fRowEq)))
    (iRowEq : PySem.W.isFn K (.ref fRowEq) = true)
    (lRowEq : K.lookup fRowEq = some ⟨ocRowEq, odRowEq, .func (PySem.W.fnOf "__eq__" "Row.__eq__" (defArgs sRowEq) (defBody sRowEq) (defScope sRowEq) .none kVRowEq dcRowEq pmRowEq anRowEq cdRowEq ctRowEq), slRowEq⟩)
    (qRowEq : PySem.W.codeIn K cdRowEq "Row.__eq__" = true)
    (kRowEq : PySem.W.keepIn K (.ref fRowEq) = true)
    (aLwell : PySem.W.nsIn K mainGlobals "_law_well" = some (some (.ref fLwell)))
    (lLwell : K.lookup fLwell = some ⟨ocLwell, odLwell, .func (PySem.W.fnOf "_law_well" "_law_well" (defArgs sLwell) (defBody sLwell) (defScope sLwell) .none kVLwell dcLwell pmLwell anLwell cdLwell ctLwell), slLwell⟩)
    (qLwell : PySem.W.codeIn K cdLwell "_law_well" = true)
    (kLwell : PySem.W.keepIn K (.ref fLwell) = true)
    (aLdraw : PySem.W.nsIn K mainGlobals "_law_draw" = some (some (.ref fLdraw)))
    (lLdraw : K.lookup fLdraw = some ⟨ocLdraw, odLdraw, .func (PySem.W.fnOf "_law_draw" "_law_draw" (defArgs sLdraw) (defBody sLdraw) (defScope sLdraw) .none kVLdraw dcLdraw pmLdraw anLdraw cdLdraw ctLdraw), slLdraw⟩)
    (qLdraw : PySem.W.codeIn K cdLdraw "_law_draw" = true)
    (kLdraw : PySem.W.keepIn K (.ref fLdraw) = true)
    (aLcaps : PySem.W.nsIn K mainGlobals "_law_caps" = some (some (.ref fLcaps)))
    (lLcaps : K.lookup fLcaps = some ⟨ocLcaps, odLcaps, .func (PySem.W.fnOf "_law_caps" "_law_caps" (defArgs sLcaps) (defBody sLcaps) (defScope sLcaps) .none kVLcaps dcLcaps pmLcaps anLcaps cdLcaps ctLcaps), slLcaps⟩)
    (qLcaps : PySem.W.codeIn K cdLcaps "_law_caps" = true)
    (kLcaps : PySem.W.keepIn K (.ref fLcaps) = true)
    (aLfacts : PySem.W.nsIn K mainGlobals "_law_facts" = some (some (.ref fLfacts)))
    (lLfacts : K.lookup fLfacts = some ⟨ocLfacts, odLfacts, .func (PySem.W.fnOf "_law_facts" "_law_facts" (defArgs sLfacts) (defBody sLfacts) (defScope sLfacts) .none kVLfacts dcLfacts pmLfacts anLfacts cdLfacts ctLfacts), slLfacts⟩)
    (qLfacts : PySem.W.codeIn K cdLfacts "_law_facts" = true)
    (kLfacts : PySem.W.keepIn K (.ref fLfacts) = true)
    (aLdeed : PySem.W.nsIn K mainGlobals "_law_deed" = some (some (.ref fLdeed)))
    (lLdeed : K.lookup fLdeed = some ⟨ocLdeed, odLdeed, .func (PySem.W.fnOf "_law_deed" "_law_deed" (defArgs sLdeed) (defBody sLdeed) (defScope sLdeed) .none kVLdeed dcLdeed pmLdeed anLdeed cdLdeed ctLdeed), slLdeed⟩)
    (qLdeed : PySem.W.codeIn K cdLdeed "_law_deed" = true)
    (kLdeed : PySem.W.keepIn K (.ref fLdeed) = true)
    (aLodd : PySem.W.nsIn K mainGlobals "_law_odd" = some (some (.ref fLodd)))
    (lLodd : K.lookup fLodd = some ⟨ocLodd, odLodd, .func (PySem.W.fnOf "_law_odd" "_law_odd" (defArgs sLodd) (defBody sLodd) (defScope sLodd) .none kVLodd dcLodd pmLodd anLodd cdLodd ctLodd), slLodd⟩)
    (qLodd : PySem.W.codeIn K cdLodd "_law_odd" = true)
    (kLodd : PySem.W.keepIn K (.ref fLodd) = true)
    (aLamiss : PySem.W.nsIn K mainGlobals "_law_amiss" = some (some (.ref fLamiss)))
    (lLamiss : K.lookup fLamiss = some ⟨ocLamiss, odLamiss, .func (PySem.W.fnOf "_law_amiss" "_law_amiss" (defArgs sLamiss) (defBody sLamiss) (defScope sLamiss) .none kVLamiss dcLamiss pmLamiss anLamiss cdLamiss ctLamiss), slLamiss⟩)
    (qLamiss : PySem.W.codeIn K cdLamiss "_law_amiss" = true)
    (kLamiss : PySem.W.keepIn K (.ref fLamiss) = true)
    (aLdue : PySem.W.nsIn K mainGlobals "_law_due" = some (some (.ref fLdue)))
    (lLdue : K.lookup fLdue = some ⟨ocLdue, odLdue, .func (PySem.W.fnOf "_law_due" "_law_due" (defArgs sLdue) (defBody sLdue) (defScope sLdue) .none kVLdue dcLdue pmLdue anLdue cdLdue ctLdue), slLdue⟩)
    (qLdue : PySem.W.codeIn K cdLdue "_law_due" = true)
    (kLdue : PySem.W.keepIn K (.ref fLdue) = true)
    (aLsaid : PySem.W.nsIn K mainGlobals "_law_said" = some (some (.ref fLsaid)))
    (lLsaid : K.lookup fLsaid = some ⟨ocLsaid, odLsaid, .func (PySem.W.fnOf "_law_said" "_law_said" (defArgs sLsaid) (defBody sLsaid) (defScope sLsaid) .none kVLsaid dcLsaid pmLsaid anLsaid cdLsaid ctLsaid), slLsaid⟩)
    (qLsaid : PySem.W.codeIn K cdLsaid "_law_said" = true)
    (kLsaid : PySem.W.keepIn K (.ref fLsaid) = true)
    (aLtoldright : PySem.W.nsIn K mainGlobals "_law_told_right" = some (some (.ref fLtoldright)))
    (lLtoldright : K.lookup fLtoldright = some ⟨ocLtoldright, odLtoldright, .func (PySem.W.fnOf "_law_told_right" "_law_told_right" (defArgs sLtoldright) (defBody sLtoldright) (defScope sLtoldright) .none kVLtoldright dcLtoldright pmLtoldright anLtoldright cdLtoldright ctLtoldright), slLtoldright⟩)
    (qLtoldright : PySem.W.codeIn K cdLtoldright "_law_told_right" = true)
    (kLtoldright : PySem.W.keepIn K (.ref fLtoldright) = true)
    (alaw : PySem.W.nsIn K mainGlobals "law" = some (some (.ref flaw)))
    (llaw : K.lookup flaw = some ⟨oclaw, odlaw, .func (PySem.W.fnOf "law" "law" (defArgs slaw) (defBody slaw) (defScope slaw) .none kVlaw dclaw pmlaw anlaw cdlaw ctlaw), sllaw⟩)
    (qlaw : PySem.W.codeIn K cdlaw "law" = true)
    (klaw : PySem.W.keepIn K (.ref flaw) = true)
    (pgJars : PySem.W.plainGet K CJars Str.empty = true)
    (hdJars : PySem.W.hasDictIn K CJars = true)
    (poJars : PySem.W.plainOver K CJars = true)
    (saJars : PySem.W.findIn K (.ref CJars) "__setattr__" = some (some (.builtin "object.__setattr__")))
    (mkJars : PySem.W.makesIn K CJars = true)
    (kcJars : PySem.W.keepIn K (.ref CJars) = true)
    (nJars_sizes : PySem.W.findIn K (.ref CJars) "sizes" = some none)
    (pgPour : PySem.W.plainGet K CPour Str.empty = true)
    (hdPour : PySem.W.hasDictIn K CPour = true)
    (poPour : PySem.W.plainOver K CPour = true)
    (saPour : PySem.W.findIn K (.ref CPour) "__setattr__" = some (some (.builtin "object.__setattr__")))
    (mkPour : PySem.W.makesIn K CPour = true)
    (kcPour : PySem.W.keepIn K (.ref CPour) = true)
    (nPour_a : PySem.W.findIn K (.ref CPour) "a" = some none)
    (nPour_b : PySem.W.findIn K (.ref CPour) "b" = some none)
    (pgPut : PySem.W.plainGet K CPut Str.empty = true)
    (hdPut : PySem.W.hasDictIn K CPut = true)
    (poPut : PySem.W.plainOver K CPut = true)
    (saPut : PySem.W.findIn K (.ref CPut) "__setattr__" = some (some (.builtin "object.__setattr__")))
    (mkPut : PySem.W.makesIn K CPut = true)
    (kcPut : PySem.W.keepIn K (.ref CPut) = true)
    (nPut_a : PySem.W.findIn K (.ref CPut) "a" = some none)
    (nPut_k : PySem.W.findIn K (.ref CPut) "k" = some none)
    (pgDraw : PySem.W.plainGet K CDraw Str.empty = true)
    (hdDraw : PySem.W.hasDictIn K CDraw = true)
    (poDraw : PySem.W.plainOver K CDraw = true)
    (saDraw : PySem.W.findIn K (.ref CDraw) "__setattr__" = some (some (.builtin "object.__setattr__")))
    (mkDraw : PySem.W.makesIn K CDraw = true)
    (kcDraw : PySem.W.keepIn K (.ref CDraw) = true)
    (nDraw_a : PySem.W.findIn K (.ref CDraw) "a" = some none)
    (nDraw_k : PySem.W.findIn K (.ref CDraw) "k" = some none)
    (pgChange : PySem.W.plainGet K CChange Str.empty = true)
    (hdChange : PySem.W.hasDictIn K CChange = true)
    (poChange : PySem.W.plainOver K CChange = true)
    (saChange : PySem.W.findIn K (.ref CChange) "__setattr__" = some (some (.builtin "object.__setattr__")))
    (mkChange : PySem.W.makesIn K CChange = true)
    (kcChange : PySem.W.keepIn K (.ref CChange) = true)
    (nChange_a : PySem.W.findIn K (.ref CChange) "a" = some none)
    (nChange_b : PySem.W.findIn K (.ref CChange) "b" = some none)
    (pgRow : PySem.W.plainGet K CRow Str.empty = true)
    (hdRow : PySem.W.hasDictIn K CRow = true)
    (poRow : PySem.W.plainOver K CRow = true)
    (saRow : PySem.W.findIn K (.ref CRow) "__setattr__" = some (some (.builtin "object.__setattr__")))
    (mkRow : PySem.W.makesIn K CRow = true)
    (kcRow : PySem.W.keepIn K (.ref CRow) = true)
    (nRow_jars : PySem.W.findIn K (.ref CRow) "jars" = some none)
    (nRow_deeds : PySem.W.findIn K (.ref CRow) "deeds" = some none)
    (pgDeed : PySem.W.plainGet K CDeed Str.empty = true)
    (hdDeed : PySem.W.hasDictIn K CDeed = true)
    (poDeed : PySem.W.plainOver K CDeed = true)
    (saDeed : PySem.W.findIn K (.ref CDeed) "__setattr__" = some (some (.builtin "object.__setattr__")))
    (yaChange : PySem.W.findIn K (.ref CChange) "__class__" = some (some (.builtin "object.__class__")))
    (ymChange : PySem.W.mroIn K CChange (.type "object") = some true)
    (yaDraw : PySem.W.findIn K (.ref CDraw) "__class__" = some (some (.builtin "object.__class__")))
    (ymDraw : PySem.W.mroIn K CDraw (.type "object") = some true)
    (yaJars : PySem.W.findIn K (.ref CJars) "__class__" = some (some (.builtin "object.__class__")))
    (ymJars : PySem.W.mroIn K CJars (.type "object") = some true)
    (yaPour : PySem.W.findIn K (.ref CPour) "__class__" = some (some (.builtin "object.__class__")))
    (ymPour : PySem.W.mroIn K CPour (.type "object") = some true)
    (yaPut : PySem.W.findIn K (.ref CPut) "__class__" = some (some (.builtin "object.__class__")))
    (ymPut : PySem.W.mroIn K CPut (.type "object") = some true)
    (yaRow : PySem.W.findIn K (.ref CRow) "__class__" = some (some (.builtin "object.__class__")))
    (ymRow : PySem.W.mroIn K CRow (.type "object") = some true)
    (yn : PySem.W.specialIn K (.builtin "object.__class__") "__get__" = some (some (.builtin "getset_descriptor.__get__")))
    (yt : PySem.W.takesIn K (.builtin "object.__class__") = some true)
    (isPour_Put : PySem.W.kitOne K (.ref CPour) (.ref CPut) = some false)
    (isPour_Draw : PySem.W.kitOne K (.ref CPour) (.ref CDraw) = some false)
    (isPour_Pour : PySem.W.kitOne K (.ref CPour) (.ref CPour) = some true)
    (isPour_Change : PySem.W.kitOne K (.ref CPour) (.ref CChange) = some false)
    (isPut_Put : PySem.W.kitOne K (.ref CPut) (.ref CPut) = some true)
    (isPut_Draw : PySem.W.kitOne K (.ref CPut) (.ref CDraw) = some false)
    (isPut_Pour : PySem.W.kitOne K (.ref CPut) (.ref CPour) = some false)
    (isPut_Change : PySem.W.kitOne K (.ref CPut) (.ref CChange) = some false)
    (isDraw_Put : PySem.W.kitOne K (.ref CDraw) (.ref CPut) = some false)
    (isDraw_Draw : PySem.W.kitOne K (.ref CDraw) (.ref CDraw) = some true)
    (isDraw_Pour : PySem.W.kitOne K (.ref CDraw) (.ref CPour) = some false)
    (isDraw_Change : PySem.W.kitOne K (.ref CDraw) (.ref CChange) = some false)
    (isChange_Put : PySem.W.kitOne K (.ref CChange) (.ref CPut) = some false)
    (isChange_Draw : PySem.W.kitOne K (.ref CChange) (.ref CDraw) = some false)
    (isChange_Pour : PySem.W.kitOne K (.ref CChange) (.ref CPour) = some false)
    (isChange_Change : PySem.W.kitOne K (.ref CChange) (.ref CChange) = some true)
    (isJars_Jars : PySem.W.kitOne K (.ref CJars) (.ref CJars) = some true)
    (isRow_Row : PySem.W.kitOne K (.ref CRow) (.ref CRow) = some true)
    (isPour_Deed : PySem.W.kitOne K (.ref CPour) (.ref CDeed) = some true)
    (isPut_Deed : PySem.W.kitOne K (.ref CPut) (.ref CDeed) = some true)
    (isDraw_Deed : PySem.W.kitOne K (.ref CDraw) (.ref CDeed) = some true)
    (isChange_Deed : PySem.W.kitOne K (.ref CChange) (.ref CDeed) = some true)
    (nfPour_Put : PySem.W.notFirst K CPour (.ref CPut) = true)
    (nfPour_Draw : PySem.W.notFirst K CPour (.ref CDraw) = true)
    (nfPour_Change : PySem.W.notFirst K CPour (.ref CChange) = true)
    (nfPut_Pour : PySem.W.notFirst K CPut (.ref CPour) = true)
    (nfPut_Draw : PySem.W.notFirst K CPut (.ref CDraw) = true)
    (nfPut_Change : PySem.W.notFirst K CPut (.ref CChange) = true)
    (nfDraw_Pour : PySem.W.notFirst K CDraw (.ref CPour) = true)
    (nfDraw_Put : PySem.W.notFirst K CDraw (.ref CPut) = true)
    (nfDraw_Change : PySem.W.notFirst K CDraw (.ref CChange) = true)
    (nfChange_Pour : PySem.W.notFirst K CChange (.ref CPour) = true)
    (nfChange_Put : PySem.W.notFirst K CChange (.ref CPut) = true)
    (nfChange_Draw : PySem.W.notFirst K CChange (.ref CDraw) = true)
    (neMPour : PySem.W.findIn K (.ref CPour) "__ne__" = some (some (.builtin "object.__ne__")))
    (alPour_NoneType : PySem.W.subIn K (.ref CPour) (.type "NoneType") = some false)
    (ikPour_NoneType : PySem.W.kitOne K (.type "NoneType") (.ref CPour) = some false)
    (alPour_int : PySem.W.subIn K (.ref CPour) (.type "int") = some false)
    (ikPour_int : PySem.W.kitOne K (.type "int") (.ref CPour) = some false)
    (alPour_tuple : PySem.W.subIn K (.ref CPour) (.type "tuple") = some false)
    (ikPour_tuple : PySem.W.kitOne K (.type "tuple") (.ref CPour) = some false)
    (alPour_list : PySem.W.subIn K (.ref CPour) (.type "list") = some false)
    (ikPour_list : PySem.W.kitOne K (.type "list") (.ref CPour) = some false)
    (neMPut : PySem.W.findIn K (.ref CPut) "__ne__" = some (some (.builtin "object.__ne__")))
    (alPut_NoneType : PySem.W.subIn K (.ref CPut) (.type "NoneType") = some false)
    (ikPut_NoneType : PySem.W.kitOne K (.type "NoneType") (.ref CPut) = some false)
    (alPut_int : PySem.W.subIn K (.ref CPut) (.type "int") = some false)
    (ikPut_int : PySem.W.kitOne K (.type "int") (.ref CPut) = some false)
    (alPut_tuple : PySem.W.subIn K (.ref CPut) (.type "tuple") = some false)
    (ikPut_tuple : PySem.W.kitOne K (.type "tuple") (.ref CPut) = some false)
    (alPut_list : PySem.W.subIn K (.ref CPut) (.type "list") = some false)
    (ikPut_list : PySem.W.kitOne K (.type "list") (.ref CPut) = some false)
    (neMDraw : PySem.W.findIn K (.ref CDraw) "__ne__" = some (some (.builtin "object.__ne__")))
    (alDraw_NoneType : PySem.W.subIn K (.ref CDraw) (.type "NoneType") = some false)
    (ikDraw_NoneType : PySem.W.kitOne K (.type "NoneType") (.ref CDraw) = some false)
    (alDraw_int : PySem.W.subIn K (.ref CDraw) (.type "int") = some false)
    (ikDraw_int : PySem.W.kitOne K (.type "int") (.ref CDraw) = some false)
    (alDraw_tuple : PySem.W.subIn K (.ref CDraw) (.type "tuple") = some false)
    (ikDraw_tuple : PySem.W.kitOne K (.type "tuple") (.ref CDraw) = some false)
    (alDraw_list : PySem.W.subIn K (.ref CDraw) (.type "list") = some false)
    (ikDraw_list : PySem.W.kitOne K (.type "list") (.ref CDraw) = some false)
    (neMChange : PySem.W.findIn K (.ref CChange) "__ne__" = some (some (.builtin "object.__ne__")))
    (alChange_NoneType : PySem.W.subIn K (.ref CChange) (.type "NoneType") = some false)
    (ikChange_NoneType : PySem.W.kitOne K (.type "NoneType") (.ref CChange) = some false)
    (alChange_int : PySem.W.subIn K (.ref CChange) (.type "int") = some false)
    (ikChange_int : PySem.W.kitOne K (.type "int") (.ref CChange) = some false)
    (alChange_tuple : PySem.W.subIn K (.ref CChange) (.type "tuple") = some false)
    (ikChange_tuple : PySem.W.kitOne K (.type "tuple") (.ref CChange) = some false)
    (alChange_list : PySem.W.subIn K (.ref CChange) (.type "list") = some false)
    (ikChange_list : PySem.W.kitOne K (.type "list") (.ref CChange) = some false)
    (neMJars : PySem.W.findIn K (.ref CJars) "__ne__" = some (some (.builtin "object.__ne__")))
    (alJars_NoneType : PySem.W.subIn K (.ref CJars) (.type "NoneType") = some false)
    (ikJars_NoneType : PySem.W.kitOne K (.type "NoneType") (.ref CJars) = some false)
    (alJars_int : PySem.W.subIn K (.ref CJars) (.type "int") = some false)
    (ikJars_int : PySem.W.kitOne K (.type "int") (.ref CJars) = some false)
    (alJars_tuple : PySem.W.subIn K (.ref CJars) (.type "tuple") = some false)
    (ikJars_tuple : PySem.W.kitOne K (.type "tuple") (.ref CJars) = some false)
    (alJars_list : PySem.W.subIn K (.ref CJars) (.type "list") = some false)
    (ikJars_list : PySem.W.kitOne K (.type "list") (.ref CJars) = some false)
    (neMRow : PySem.W.findIn K (.ref CRow) "__ne__" = some (some (.builtin "object.__ne__")))
    (alRow_NoneType : PySem.W.subIn K (.ref CRow) (.type "NoneType") = some false)
    (ikRow_NoneType : PySem.W.kitOne K (.type "NoneType") (.ref CRow) = some false)
    (alRow_int : PySem.W.subIn K (.ref CRow) (.type "int") = some false)
    (ikRow_int : PySem.W.kitOne K (.type "int") (.ref CRow) = some false)
    (alRow_tuple : PySem.W.subIn K (.ref CRow) (.type "tuple") = some false)
    (ikRow_tuple : PySem.W.kitOne K (.type "tuple") (.ref CRow) = some false)
    (alRow_list : PySem.W.subIn K (.ref CRow) (.type "list") = some false)
    (ikRow_list : PySem.W.kitOne K (.type "list") (.ref CRow) = some false)
    (tyBadCount : PySem.W.typeIn K (.ref fBadCountInit) = some (.type "function"))
    (oxBadCount : K.lookup CBadCount = some (PySem.excClassObj nmXBadCount qXBadCount CBadCount NXBadCount bsXBadCount bmXBadCount true snXBadCount subXBadCount abXBadCount colXBadCount ddXBadCount r0XBadCount r1XBadCount r2XBadCount r3XBadCount r5XBadCount "ValueError.__new__"))
    (orBadCount : PySem.HandSPX.refsVE bmXBadCount = true)
    (osBadCount : PySem.W.findIn K (.ref CBadCount) "__setattr__" = some (some (.builtin "object.__setattr__")))
    (obBadCount : PySem.W.subIn K (.ref CBadCount) (.type "BaseException") = some true)
    (otBadCount : PySem.W.typeIn K (.ref CBadCount) = some (.type "type"))
    (okBadCount : PySem.W.keepIn K (.ref CBadCount) = true)
    (xgBadCount : PySem.W.findIn K (.ref CBadCount) "__getattribute__" = some (some (.builtin "BaseException.__getattribute__")))
    (xnBadCount : PySem.W.findIn K (.ref CBadCount) "__getattr__" = some none)
    (xdBadCount : PySem.W.hasDictIn K CBadCount = true)
    (nBadCount_what : PySem.W.findIn K (.ref CBadCount) "what" = some none)
    (nBadCount_count : PySem.W.findIn K (.ref CBadCount) "count" = some none)
    (euBadCount_BadCount : PySem.W.subIn K (.ref CBadCount) (.ref CBadCount) = some true)
    (euBadCount_NoJar : PySem.W.subIn K (.ref CBadCount) (.ref CNoJar) = some false)
    (euBadCount_SameJar : PySem.W.subIn K (.ref CBadCount) (.ref CSameJar) = some false)
    (euBadCount_Sizes : PySem.W.subIn K (.ref CBadCount) (.ref CSizes) = some false)
    (tyNoJar : PySem.W.typeIn K (.ref fNoJarInit) = some (.type "function"))
    (oxNoJar : K.lookup CNoJar = some (PySem.excClassObj nmXNoJar qXNoJar CNoJar NXNoJar bsXNoJar bmXNoJar true snXNoJar subXNoJar abXNoJar colXNoJar ddXNoJar r0XNoJar r1XNoJar r2XNoJar r3XNoJar r5XNoJar "ValueError.__new__"))
    (orNoJar : PySem.HandSPX.refsVE bmXNoJar = true)
    (osNoJar : PySem.W.findIn K (.ref CNoJar) "__setattr__" = some (some (.builtin "object.__setattr__")))
    (obNoJar : PySem.W.subIn K (.ref CNoJar) (.type "BaseException") = some true)
    (otNoJar : PySem.W.typeIn K (.ref CNoJar) = some (.type "type"))
    (okNoJar : PySem.W.keepIn K (.ref CNoJar) = true)
    (xgNoJar : PySem.W.findIn K (.ref CNoJar) "__getattribute__" = some (some (.builtin "BaseException.__getattribute__")))
    (xnNoJar : PySem.W.findIn K (.ref CNoJar) "__getattr__" = some none)
    (xdNoJar : PySem.W.hasDictIn K CNoJar = true)
    (nNoJar_jar : PySem.W.findIn K (.ref CNoJar) "jar" = some none)
    (euNoJar_BadCount : PySem.W.subIn K (.ref CNoJar) (.ref CBadCount) = some false)
    (euNoJar_NoJar : PySem.W.subIn K (.ref CNoJar) (.ref CNoJar) = some true)
    (euNoJar_SameJar : PySem.W.subIn K (.ref CNoJar) (.ref CSameJar) = some false)
    (euNoJar_Sizes : PySem.W.subIn K (.ref CNoJar) (.ref CSizes) = some false)
    (tySameJar : PySem.W.typeIn K (.ref fSameJarInit) = some (.type "function"))
    (oxSameJar : K.lookup CSameJar = some (PySem.excClassObj nmXSameJar qXSameJar CSameJar NXSameJar bsXSameJar bmXSameJar true snXSameJar subXSameJar abXSameJar colXSameJar ddXSameJar r0XSameJar r1XSameJar r2XSameJar r3XSameJar r5XSameJar "ValueError.__new__"))
    (orSameJar : PySem.HandSPX.refsVE bmXSameJar = true)
    (osSameJar : PySem.W.findIn K (.ref CSameJar) "__setattr__" = some (some (.builtin "object.__setattr__")))
    (obSameJar : PySem.W.subIn K (.ref CSameJar) (.type "BaseException") = some true)
    (otSameJar : PySem.W.typeIn K (.ref CSameJar) = some (.type "type"))
    (okSameJar : PySem.W.keepIn K (.ref CSameJar) = true)
    (xgSameJar : PySem.W.findIn K (.ref CSameJar) "__getattribute__" = some (some (.builtin "BaseException.__getattribute__")))
    (xnSameJar : PySem.W.findIn K (.ref CSameJar) "__getattr__" = some none)
    (xdSameJar : PySem.W.hasDictIn K CSameJar = true)
    (nSameJar_jar : PySem.W.findIn K (.ref CSameJar) "jar" = some none)
    (euSameJar_BadCount : PySem.W.subIn K (.ref CSameJar) (.ref CBadCount) = some false)
    (euSameJar_NoJar : PySem.W.subIn K (.ref CSameJar) (.ref CNoJar) = some false)
    (euSameJar_SameJar : PySem.W.subIn K (.ref CSameJar) (.ref CSameJar) = some true)
    (euSameJar_Sizes : PySem.W.subIn K (.ref CSameJar) (.ref CSizes) = some false)
    (tySizes : PySem.W.typeIn K (.ref fSizesInit) = some (.type "function"))
    (oxSizes : K.lookup CSizes = some (PySem.excClassObj nmXSizes qXSizes CSizes NXSizes bsXSizes bmXSizes true snXSizes subXSizes abXSizes colXSizes ddXSizes r0XSizes r1XSizes r2XSizes r3XSizes r5XSizes "ValueError.__new__"))
    (orSizes : PySem.HandSPX.refsVE bmXSizes = true)
    (osSizes : PySem.W.findIn K (.ref CSizes) "__setattr__" = some (some (.builtin "object.__setattr__")))
    (obSizes : PySem.W.subIn K (.ref CSizes) (.type "BaseException") = some true)
    (otSizes : PySem.W.typeIn K (.ref CSizes) = some (.type "type"))
    (okSizes : PySem.W.keepIn K (.ref CSizes) = true)
    (xgSizes : PySem.W.findIn K (.ref CSizes) "__getattribute__" = some (some (.builtin "BaseException.__getattribute__")))
    (xnSizes : PySem.W.findIn K (.ref CSizes) "__getattr__" = some none)
    (xdSizes : PySem.W.hasDictIn K CSizes = true)
    (nSizes_a : PySem.W.findIn K (.ref CSizes) "a" = some none)
    (nSizes_b : PySem.W.findIn K (.ref CSizes) "b" = some none)
    (euSizes_BadCount : PySem.W.subIn K (.ref CSizes) (.ref CBadCount) = some false)
    (euSizes_NoJar : PySem.W.subIn K (.ref CSizes) (.ref CNoJar) = some false)
    (euSizes_SameJar : PySem.W.subIn K (.ref CSizes) (.ref CSameJar) = some false)
    (euSizes_Sizes : PySem.W.subIn K (.ref CSizes) (.ref CSizes) = some true)
    (yaNoJar : PySem.W.findIn K (.ref CNoJar) "__class__" = some (some (.builtin "object.__class__")))
    (ymNoJar : PySem.W.mroIn K CNoJar (.type "object") = some true)
    (xBadStart : PySem.W.nsIn K mainGlobals "BadStart" = some (some (.ref CBadStart)))
    (ixNoJar_BadStart : PySem.W.kitOne K (.ref CNoJar) (.ref CBadStart) = some false)
    (gMOSTJARS : PySem.W.nsIn K mainGlobals "MOST_JARS" = some (some (.int 6 tkMOSTJARS)))
    (gMOSTDEEDS : PySem.W.nsIn K mainGlobals "MOST_DEEDS" = some (some (.int 20 tkMOSTDEEDS)))
    (gMOSTMUCH : PySem.W.nsIn K mainGlobals "MOST_MUCH" = some (some (.int 1000000000000 tkMOSTMUCH)))
    (zabs : PySem.W.nsIn K mainGlobals "abs" = some none)
    (zint : PySem.W.nsIn K mainGlobals "int" = some none)
    (zisinstance : PySem.W.nsIn K mainGlobals "isinstance" = some none)
    (zlen : PySem.W.nsIn K mainGlobals "len" = some none)
    (zlist : PySem.W.nsIn K mainGlobals "list" = some none)
    (zmax : PySem.W.nsIn K mainGlobals "max" = some none)
    (zmin : PySem.W.nsIn K mainGlobals "min" = some none)
    (zrange : PySem.W.nsIn K mainGlobals "range" = some none)
    (ztuple : PySem.W.nsIn K mainGlobals "tuple" = some none) :
    ∃ fd : FuncData, (∀ (s : Shared) (v : Value), BindsTo s fd ⟨[v], []⟩ [("_law_script", v)]) ∧ ∀ base : Heap, K.In base → base.Ns mainGlobals mg → FnOk l.prog w K mg base CX0 8 fa fd ["_law_script"] (spLaw K) := by
  have e := hfa.symm.trans (PySem.W.mg_of X G alaw)
  cases e
  exact ⟨PySem.W.fnOf "law" "law" (defArgs slaw) (defBody slaw) (defScope slaw) .none kVlaw dclaw pmlaw anlaw cdlaw ctlaw, fun s v => .of_eq rfl, fun base _ _ => oklaw {
    cJars := CJars
    mJars := PySem.W.mg_of X G xJars
    cPour := CPour
    mPour := PySem.W.mg_of X G xPour
    cPut := CPut
    mPut := PySem.W.mg_of X G xPut
    cDraw := CDraw
    mDraw := PySem.W.mg_of X G xDraw
    cChange := CChange
    mChange := PySem.W.mg_of X G xChange
    cRow := CRow
    mRow := PySem.W.mg_of X G xRow
    cDeed := CDeed
    mDeed := PySem.W.mg_of X G xDeed
    cBadCount := CBadCount
    mBadCount := PySem.W.mg_of X G xBadCount
    cNoJar := CNoJar
    mNoJar := PySem.W.mg_of X G xNoJar
    cSameJar := CSameJar
    mSameJar := PySem.W.mg_of X G xSameJar
    cSizes := CSizes
    mSizes := PySem.W.mg_of X G xSizes
    gcheckmuch := PySem.W.mg_of X G acheckmuch
    acheckmuch := fcheckmuch
    dcheckmuch := PySem.W.fnOf "check_much" "check_much" (defArgs scheckmuch) (defBody scheckmuch) (defScope scheckmuch) .none kVcheckmuch dccheckmuch pmcheckmuch ancheckmuch cdcheckmuch ctcheckmuch
    fcheckmuch := fun_mk (st := scheckmuch) lcheckmuch qcheckmuch kcheckmuch
    bcheckmuch := (fun_mk (st := scheckmuch) lcheckmuch qcheckmuch kcheckmuch).binds (ps := ["what", "much"]) fun _ _ _ _ _ _ us hl => match us, hl with | [_, _], _ => rfl
    gcheckjar := PySem.W.mg_of X G acheckjar
    acheckjar := fcheckjar
    dcheckjar := PySem.W.fnOf "check_jar" "check_jar" (defArgs scheckjar) (defBody scheckjar) (defScope scheckjar) .none kVcheckjar dccheckjar pmcheckjar ancheckjar cdcheckjar ctcheckjar
    fcheckjar := fun_mk (st := scheckjar) lcheckjar qcheckjar kcheckjar
    bcheckjar := (fun_mk (st := scheckjar) lcheckjar qcheckjar kcheckjar).binds (ps := ["jars", "jar"]) fun _ _ _ _ _ _ us hl => match us, hl with | [_, _], _ => rfl
    gcheckdeed := PySem.W.mg_of X G acheckdeed
    acheckdeed := fcheckdeed
    dcheckdeed := PySem.W.fnOf "check_deed" "check_deed" (defArgs scheckdeed) (defBody scheckdeed) (defScope scheckdeed) .none kVcheckdeed dccheckdeed pmcheckdeed ancheckdeed cdcheckdeed ctcheckdeed
    fcheckdeed := fun_mk (st := scheckdeed) lcheckdeed qcheckdeed kcheckdeed
    bcheckdeed := (fun_mk (st := scheckdeed) lcheckdeed qcheckdeed kcheckdeed).binds (ps := ["jars", "deed"]) fun _ _ _ _ _ _ us hl => match us, hl with | [_, _], _ => rfl
    aBadCountInit := fBadCountInit
    dBadCountInit := PySem.W.fnOf "__init__" "BadCount.__init__" (defArgs sBadCountInit) (defBody sBadCountInit) (defScope sBadCountInit) .none kVBadCountInit dcBadCountInit pmBadCountInit anBadCountInit cdBadCountInit ctBadCountInit
    fBadCountInit := fun_mk (st := sBadCountInit) lBadCountInit qBadCountInit kBadCountInit
    bBadCountInit := (fun_mk (st := sBadCountInit) lBadCountInit qBadCountInit kBadCountInit).binds (ps := ["self", "what", "count"]) fun _ _ _ _ _ _ us hl => match us, hl with | [_, _, _], _ => rfl
    aNoJarInit := fNoJarInit
    dNoJarInit := PySem.W.fnOf "__init__" "NoJar.__init__" (defArgs sNoJarInit) (defBody sNoJarInit) (defScope sNoJarInit) .none kVNoJarInit dcNoJarInit pmNoJarInit anNoJarInit cdNoJarInit ctNoJarInit
    fNoJarInit := fun_mk (st := sNoJarInit) lNoJarInit qNoJarInit kNoJarInit
    bNoJarInit := (fun_mk (st := sNoJarInit) lNoJarInit qNoJarInit kNoJarInit).binds (ps := ["self", "jar"]) fun _ _ _ _ _ _ us hl => match us, hl with | [_, _], _ => rfl
    aSameJarInit := fSameJarInit
    dSameJarInit := PySem.W.fnOf "__init__" "SameJar.__init__" (defArgs sSameJarInit) (defBody sSameJarInit) (defScope sSameJarInit) .none kVSameJarInit dcSameJarInit pmSameJarInit anSameJarInit cdSameJarInit ctSameJarInit
    fSameJarInit := fun_mk (st := sSameJarInit) lSameJarInit qSameJarInit kSameJarInit
    bSameJarInit := (fun_mk (st := sSameJarInit) lSameJarInit qSameJarInit kSameJarInit).binds (ps := ["self", "jar"]) fun _ _ _ _ _ _ us hl => match us, hl with | [_, _], _ => rfl
    aSizesInit := fSizesInit
    dSizesInit := PySem.W.fnOf "__init__" "Sizes.__init__" (defArgs sSizesInit) (defBody sSizesInit) (defScope sSizesInit) .none kVSizesInit dcSizesInit pmSizesInit anSizesInit cdSizesInit ctSizesInit
    fSizesInit := fun_mk (st := sSizesInit) lSizesInit qSizesInit kSizesInit
    bSizesInit := (fun_mk (st := sSizesInit) lSizesInit qSizesInit kSizesInit).binds (ps := ["self", "a", "b"]) fun _ _ _ _ _ _ us hl => match us, hl with | [_, _, _], _ => rfl
    aJarsInit := fJarsInit
    dJarsInit := PySem.W.fnOf "__init__" "Jars.__init__" (defArgs sJarsInit) (defBody sJarsInit) (defScope sJarsInit) .none kVJarsInit dcJarsInit pmJarsInit anJarsInit cdJarsInit ctJarsInit
    fJarsInit := fun_mk (st := sJarsInit) lJarsInit qJarsInit kJarsInit
    bJarsInit := (fun_mk (st := sJarsInit) lJarsInit qJarsInit kJarsInit).binds (ps := ["self", "sizes"]) fun _ _ _ _ _ _ us hl => match us, hl with | [_, _], _ => rfl
    aPourInit := fPourInit
    dPourInit := PySem.W.fnOf "__init__" "Pour.__init__" (defArgs sPourInit) (defBody sPourInit) (defScope sPourInit) .none kVPourInit dcPourInit pmPourInit anPourInit cdPourInit ctPourInit
    fPourInit := fun_mk (st := sPourInit) lPourInit qPourInit kPourInit
    bPourInit := (fun_mk (st := sPourInit) lPourInit qPourInit kPourInit).binds (ps := ["self", "a", "b"]) fun _ _ _ _ _ _ us hl => match us, hl with | [_, _, _], _ => rfl
    aPutInit := fPutInit
    dPutInit := PySem.W.fnOf "__init__" "Put.__init__" (defArgs sPutInit) (defBody sPutInit) (defScope sPutInit) .none kVPutInit dcPutInit pmPutInit anPutInit cdPutInit ctPutInit
    fPutInit := fun_mk (st := sPutInit) lPutInit qPutInit kPutInit
    bPutInit := (fun_mk (st := sPutInit) lPutInit qPutInit kPutInit).binds (ps := ["self", "a", "k"]) fun _ _ _ _ _ _ us hl => match us, hl with | [_, _, _], _ => rfl
    aDrawInit := fDrawInit
    dDrawInit := PySem.W.fnOf "__init__" "Draw.__init__" (defArgs sDrawInit) (defBody sDrawInit) (defScope sDrawInit) .none kVDrawInit dcDrawInit pmDrawInit anDrawInit cdDrawInit ctDrawInit
    fDrawInit := fun_mk (st := sDrawInit) lDrawInit qDrawInit kDrawInit
    bDrawInit := (fun_mk (st := sDrawInit) lDrawInit qDrawInit kDrawInit).binds (ps := ["self", "a", "k"]) fun _ _ _ _ _ _ us hl => match us, hl with | [_, _, _], _ => rfl
    aChangeInit := fChangeInit
    dChangeInit := PySem.W.fnOf "__init__" "Change.__init__" (defArgs sChangeInit) (defBody sChangeInit) (defScope sChangeInit) .none kVChangeInit dcChangeInit pmChangeInit anChangeInit cdChangeInit ctChangeInit
    fChangeInit := fun_mk (st := sChangeInit) lChangeInit qChangeInit kChangeInit
    bChangeInit := (fun_mk (st := sChangeInit) lChangeInit qChangeInit kChangeInit).binds (ps := ["self", "a", "b"]) fun _ _ _ _ _ _ us hl => match us, hl with | [_, _, _], _ => rfl
    aRowInit := fRowInit
    dRowInit := PySem.W.fnOf "__init__" "Row.__init__" (defArgs sRowInit) (defBody sRowInit) (defScope sRowInit) .none kVRowInit dcRowInit pmRowInit anRowInit cdRowInit ctRowInit
    fRowInit := fun_mk (st := sRowInit) lRowInit qRowInit kRowInit
    bRowInit := (fun_mk (st := sRowInit) lRowInit qRowInit kRowInit).binds (ps := ["self", "jars", "deeds"]) fun _ _ _ _ _ _ us hl => match us, hl with | [_, _, _], _ => rfl
    eJarsEq := aJarsEq
    eiJarsEq := iJarsEq
    aJarsEq := fJarsEq
    dJarsEq := PySem.W.fnOf "__eq__" "Jars.__eq__" (defArgs sJarsEq) (defBody sJarsEq) (defScope sJarsEq) .none kVJarsEq dcJarsEq pmJarsEq anJarsEq cdJarsEq ctJarsEq
    fJarsEq := fun_mk (st := sJarsEq) lJarsEq qJarsEq kJarsEq
    bJarsEq := (fun_mk (st := sJarsEq) lJarsEq qJarsEq kJarsEq).binds (ps := ["self", "other"]) fun _ _ _ _ _ _ us hl => match us, hl with | [_, _], _ => rfl
    ePourEq := aPourEq
    eiPourEq := iPourEq
    aPourEq := fPourEq
    dPourEq := PySem.W.fnOf "__eq__" "Pour.__eq__" (defArgs sPourEq) (defBody sPourEq) (defScope sPourEq) .none kVPourEq dcPourEq pmPourEq anPourEq cdPourEq ctPourEq
    fPourEq := fun_mk (st := sPourEq) lPourEq qPourEq kPourEq
    bPourEq := (fun_mk (st := sPourEq) lPourEq qPourEq kPourEq).binds (ps := ["self", "other"]) fun _ _ _ _ _ _ us hl => match us, hl with | [_, _], _ => rfl
    ePutEq := aPutEq
    eiPutEq := iPutEq
    aPutEq := fPutEq
    dPutEq := PySem.W.fnOf "__eq__" "Put.__eq__" (defArgs sPutEq) (defBody sPutEq) (defScope sPutEq) .none kVPutEq dcPutEq pmPutEq anPutEq cdPutEq ctPutEq
    fPutEq := fun_mk (st := sPutEq) lPutEq qPutEq kPutEq
    bPutEq := (fun_mk (st := sPutEq) lPutEq qPutEq kPutEq).binds (ps := ["self", "other"]) fun _ _ _ _ _ _ us hl => match us, hl with | [_, _], _ => rfl
    eDrawEq := aDrawEq
    eiDrawEq := iDrawEq
    aDrawEq := fDrawEq
    dDrawEq := PySem.W.fnOf "__eq__" "Draw.__eq__" (defArgs sDrawEq) (defBody sDrawEq) (defScope sDrawEq) .none kVDrawEq dcDrawEq pmDrawEq anDrawEq cdDrawEq ctDrawEq
    fDrawEq := fun_mk (st := sDrawEq) lDrawEq qDrawEq kDrawEq
    bDrawEq := (fun_mk (st := sDrawEq) lDrawEq qDrawEq kDrawEq).binds (ps := ["self", "other"]) fun _ _ _ _ _ _ us hl => match us, hl with | [_, _], _ => rfl
    eChangeEq := aChangeEq
    eiChangeEq := iChangeEq
    aChangeEq := fChangeEq
    dChangeEq := PySem.W.fnOf "__eq__" "Change.__eq__" (defArgs sChangeEq) (defBody sChangeEq) (defScope sChangeEq) .none kVChangeEq dcChangeEq pmChangeEq anChangeEq cdChangeEq ctChangeEq
    fChangeEq := fun_mk (st := sChangeEq) lChangeEq qChangeEq kChangeEq
    bChangeEq := (fun_mk (st := sChangeEq) lChangeEq qChangeEq kChangeEq).binds (ps := ["self", "other"]) fun _ _ _ _ _ _ us hl => match us, hl with | [_, _], _ => rfl
    eRowEq := aRowEq
    eiRowEq := iRowEq
    aRowEq := fRowEq
    dRowEq := PySem.W.fnOf "__eq__" "Row.__eq__" (defArgs sRowEq) (defBody sRowEq) (defScope sRowEq) .none kVRowEq dcRowEq pmRowEq anRowEq cdRowEq ctRowEq
    fRowEq := fun_mk (st := sRowEq) lRowEq qRowEq kRowEq
    bRowEq := (fun_mk (st := sRowEq) lRowEq qRowEq kRowEq).binds (ps := ["self", "other"]) fun _ _ _ _ _ _ us hl => match us, hl with | [_, _], _ => rfl
    gLwell := PySem.W.mg_of X G aLwell
    aLwell := fLwell
    dLwell := PySem.W.fnOf "_law_well" "_law_well" (defArgs sLwell) (defBody sLwell) (defScope sLwell) .none kVLwell dcLwell pmLwell anLwell cdLwell ctLwell
    fLwell := fun_mk (st := sLwell) lLwell qLwell kLwell
    bLwell := (fun_mk (st := sLwell) lLwell qLwell kLwell).binds (ps := ["_law_cell"]) fun _ _ _ _ _ _ us hl => match us, hl with | [_], _ => rfl
    gLdraw := PySem.W.mg_of X G aLdraw
    aLdraw := fLdraw
    dLdraw := PySem.W.fnOf "_law_draw" "_law_draw" (defArgs sLdraw) (defBody sLdraw) (defScope sLdraw) .none kVLdraw dcLdraw pmLdraw anLdraw cdLdraw ctLdraw
    fLdraw := fun_mk (st := sLdraw) lLdraw qLdraw kLdraw
    bLdraw := (fun_mk (st := sLdraw) lLdraw qLdraw kLdraw).binds (ps := ["_law_well_here", "_law_many"]) fun _ _ _ _ _ _ us hl => match us, hl with | [_, _], _ => rfl
    gLcaps := PySem.W.mg_of X G aLcaps
    aLcaps := fLcaps
    dLcaps := PySem.W.fnOf "_law_caps" "_law_caps" (defArgs sLcaps) (defBody sLcaps) (defScope sLcaps) .none kVLcaps dcLcaps pmLcaps anLcaps cdLcaps ctLcaps
    fLcaps := fun_mk (st := sLcaps) lLcaps qLcaps kLcaps
    bLcaps := (fun_mk (st := sLcaps) lLcaps qLcaps kLcaps).binds (ps := ["_law_well_here", "_law_most"]) fun _ _ _ _ _ _ us hl => match us, hl with | [_, _], _ => rfl
    gLfacts := PySem.W.mg_of X G aLfacts
    aLfacts := fLfacts
    dLfacts := PySem.W.fnOf "_law_facts" "_law_facts" (defArgs sLfacts) (defBody sLfacts) (defScope sLfacts) .none kVLfacts dcLfacts pmLfacts anLfacts cdLfacts ctLfacts
    fLfacts := fun_mk (st := sLfacts) lLfacts qLfacts kLfacts
    bLfacts := (fun_mk (st := sLfacts) lLfacts qLfacts kLfacts).binds (ps := ["_law_well_here", "_law_caps_here", "_law_many"]) fun _ _ _ _ _ _ us hl => match us, hl with | [_, _, _], _ => rfl
    gLdeed := PySem.W.mg_of X G aLdeed
    aLdeed := fLdeed
    dLdeed := PySem.W.fnOf "_law_deed" "_law_deed" (defArgs sLdeed) (defBody sLdeed) (defScope sLdeed) .none kVLdeed dcLdeed pmLdeed anLdeed cdLdeed ctLdeed
    fLdeed := fun_mk (st := sLdeed) lLdeed qLdeed kLdeed
    bLdeed := (fun_mk (st := sLdeed) lLdeed qLdeed kLdeed).binds (ps := ["_law_fact"]) fun _ _ _ _ _ _ us hl => match us, hl with | [_], _ => rfl
    gLodd := PySem.W.mg_of X G aLodd
    aLodd := fLodd
    dLodd := PySem.W.fnOf "_law_odd" "_law_odd" (defArgs sLodd) (defBody sLodd) (defScope sLodd) .none kVLodd dcLodd pmLodd anLodd cdLodd ctLodd
    fLodd := fun_mk (st := sLodd) lLodd qLodd kLodd
    bLodd := (fun_mk (st := sLodd) lLodd qLodd kLodd).binds (ps := ["_law_well_here", "_law_caps_here"]) fun _ _ _ _ _ _ us hl => match us, hl with | [_, _], _ => rfl
    gLamiss := PySem.W.mg_of X G aLamiss
    aLamiss := fLamiss
    dLamiss := PySem.W.fnOf "_law_amiss" "_law_amiss" (defArgs sLamiss) (defBody sLamiss) (defScope sLamiss) .none kVLamiss dcLamiss pmLamiss anLamiss cdLamiss ctLamiss
    fLamiss := fun_mk (st := sLamiss) lLamiss qLamiss kLamiss
    bLamiss := (fun_mk (st := sLamiss) lLamiss qLamiss kLamiss).binds (ps := ["_law_caps_here", "_law_fact"]) fun _ _ _ _ _ _ us hl => match us, hl with | [_, _], _ => rfl
    gLdue := PySem.W.mg_of X G aLdue
    aLdue := fLdue
    dLdue := PySem.W.fnOf "_law_due" "_law_due" (defArgs sLdue) (defBody sLdue) (defScope sLdue) .none kVLdue dcLdue pmLdue anLdue cdLdue ctLdue
    fLdue := fun_mk (st := sLdue) lLdue qLdue kLdue
    bLdue := (fun_mk (st := sLdue) lLdue qLdue kLdue).binds (ps := ["_law_caps_here", "_law_facts_here"]) fun _ _ _ _ _ _ us hl => match us, hl with | [_, _], _ => rfl
    gLsaid := PySem.W.mg_of X G aLsaid
    aLsaid := fLsaid
    dLsaid := PySem.W.fnOf "_law_said" "_law_said" (defArgs sLsaid) (defBody sLsaid) (defScope sLsaid) .none kVLsaid dcLsaid pmLsaid anLsaid cdLsaid ctLsaid
    fLsaid := fun_mk (st := sLsaid) lLsaid qLsaid kLsaid
    bLsaid := (fun_mk (st := sLsaid) lLsaid qLsaid kLsaid).binds (ps := ["_law_caps_here", "_law_facts_here"]) fun _ _ _ _ _ _ us hl => match us, hl with | [_, _], _ => rfl
    gLtoldright := PySem.W.mg_of X G aLtoldright
    aLtoldright := fLtoldright
    dLtoldright := PySem.W.fnOf "_law_told_right" "_law_told_right" (defArgs sLtoldright) (defBody sLtoldright) (defScope sLtoldright) .none kVLtoldright dcLtoldright pmLtoldright anLtoldright cdLtoldright ctLtoldright
    fLtoldright := fun_mk (st := sLtoldright) lLtoldright qLtoldright kLtoldright
    bLtoldright := (fun_mk (st := sLtoldright) lLtoldright qLtoldright kLtoldright).binds (ps := ["_law_well_here", "_law_caps_here", "_law_facts_here"]) fun _ _ _ _ _ _ us hl => match us, hl with | [_, _, _], _ => rfl
    glaw := PySem.W.mg_of X G alaw
    alaw := fa
    dlaw := PySem.W.fnOf "law" "law" (defArgs slaw) (defBody slaw) (defScope slaw) .none kVlaw dclaw pmlaw anlaw cdlaw ctlaw
    flaw := fun_mk (st := slaw) llaw qlaw klaw
    blaw := (fun_mk (st := slaw) llaw qlaw klaw).binds (ps := ["_law_script"]) fun _ _ _ _ _ _ us hl => match us, hl with | [_], _ => rfl
    lJars := ⟨pgJars, hdJars, poJars, saJars⟩
    kJars := ⟨mkJars, aJarsInit, iJarsInit, kcJars⟩
    nJars_sizes := nJars_sizes
    lPour := ⟨pgPour, hdPour, poPour, saPour⟩
    kPour := ⟨mkPour, aPourInit, iPourInit, kcPour⟩
    nPour_a := nPour_a
    nPour_b := nPour_b
    lPut := ⟨pgPut, hdPut, poPut, saPut⟩
    kPut := ⟨mkPut, aPutInit, iPutInit, kcPut⟩
    nPut_a := nPut_a
    nPut_k := nPut_k
    lDraw := ⟨pgDraw, hdDraw, poDraw, saDraw⟩
    kDraw := ⟨mkDraw, aDrawInit, iDrawInit, kcDraw⟩
    nDraw_a := nDraw_a
    nDraw_k := nDraw_k
    lChange := ⟨pgChange, hdChange, poChange, saChange⟩
    kChange := ⟨mkChange, aChangeInit, iChangeInit, kcChange⟩
    nChange_a := nChange_a
    nChange_b := nChange_b
    lRow := ⟨pgRow, hdRow, poRow, saRow⟩
    kRow := ⟨mkRow, aRowInit, iRowInit, kcRow⟩
    nRow_jars := nRow_jars
    nRow_deeds := nRow_deeds
    lDeed := ⟨pgDeed, hdDeed, poDeed, saDeed⟩
    yChange := ⟨yaChange, yn, yt, ymChange⟩
    yDraw := ⟨yaDraw, yn, yt, ymDraw⟩
    yJars := ⟨yaJars, yn, yt, ymJars⟩
    yPour := ⟨yaPour, yn, yt, ymPour⟩
    yPut := ⟨yaPut, yn, yt, ymPut⟩
    yRow := ⟨yaRow, yn, yt, ymRow⟩
    iPour_Put := isPour_Put
    iPour_Draw := isPour_Draw
    iPour_Pour := isPour_Pour
    iPour_Change := isPour_Change
    iPut_Put := isPut_Put
    iPut_Draw := isPut_Draw
    iPut_Pour := isPut_Pour
    iPut_Change := isPut_Change
    iDraw_Put := isDraw_Put
    iDraw_Draw := isDraw_Draw
    iDraw_Pour := isDraw_Pour
    iDraw_Change := isDraw_Change
    iChange_Put := isChange_Put
    iChange_Draw := isChange_Draw
    iChange_Pour := isChange_Pour
    iChange_Change := isChange_Change
    iJars_Jars := isJars_Jars
    iRow_Row := isRow_Row
    iPour_Deed := isPour_Deed
    iPut_Deed := isPut_Deed
    iDraw_Deed := isDraw_Deed
    iChange_Deed := isChange_Deed
    nfPour_Put := nfPour_Put
    nfPour_Draw := nfPour_Draw
    nfPour_Change := nfPour_Change
    nfPut_Pour := nfPut_Pour
    nfPut_Draw := nfPut_Draw
    nfPut_Change := nfPut_Change
    nfDraw_Pour := nfDraw_Pour
    nfDraw_Put := nfDraw_Put
    nfDraw_Change := nfDraw_Change
    nfChange_Pour := nfChange_Pour
    nfChange_Put := nfChange_Put
    nfChange_Draw := nfChange_Draw
    nePour := ⟨neMPour, ymPour, aPourEq, iPourEq⟩
    alPour_NoneType := alPour_NoneType
    ikPour_NoneType := ikPour_NoneType
    alPour_int := alPour_int
    ikPour_int := ikPour_int
    alPour_tuple := alPour_tuple
    ikPour_tuple := ikPour_tuple
    alPour_list := alPour_list
    ikPour_list := ikPour_list
    nePut := ⟨neMPut, ymPut, aPutEq, iPutEq⟩
    alPut_NoneType := alPut_NoneType
    ikPut_NoneType := ikPut_NoneType
    alPut_int := alPut_int
    ikPut_int := ikPut_int
    alPut_tuple := alPut_tuple
    ikPut_tuple := ikPut_tuple
    alPut_list := alPut_list
    ikPut_list := ikPut_list
    neDraw := ⟨neMDraw, ymDraw, aDrawEq, iDrawEq⟩
    alDraw_NoneType := alDraw_NoneType
    ikDraw_NoneType := ikDraw_NoneType
    alDraw_int := alDraw_int
    ikDraw_int := ikDraw_int
    alDraw_tuple := alDraw_tuple
    ikDraw_tuple := ikDraw_tuple
    alDraw_list := alDraw_list
    ikDraw_list := ikDraw_list
    neChange := ⟨neMChange, ymChange, aChangeEq, iChangeEq⟩
    alChange_NoneType := alChange_NoneType
    ikChange_NoneType := ikChange_NoneType
    alChange_int := alChange_int
    ikChange_int := ikChange_int
    alChange_tuple := alChange_tuple
    ikChange_tuple := ikChange_tuple
    alChange_list := alChange_list
    ikChange_list := ikChange_list
    neJars := ⟨neMJars, ymJars, aJarsEq, iJarsEq⟩
    alJars_NoneType := alJars_NoneType
    ikJars_NoneType := ikJars_NoneType
    alJars_int := alJars_int
    ikJars_int := ikJars_int
    alJars_tuple := alJars_tuple
    ikJars_tuple := ikJars_tuple
    alJars_list := alJars_list
    ikJars_list := ikJars_list
    neRow := ⟨neMRow, ymRow, aRowEq, iRowEq⟩
    alRow_NoneType := alRow_NoneType
    ikRow_NoneType := ikRow_NoneType
    alRow_int := alRow_int
    ikRow_int := ikRow_int
    alRow_tuple := alRow_tuple
    ikRow_tuple := ikRow_tuple
    alRow_list := alRow_list
    ikRow_list := ikRow_list
    kbRow_deeds_jars := kbOf (fun us ws h1 h2 => match us, ws, h1, h2 with | [_], [_, _], _, _ => rfl) (fun r1 r2 => r1.append (Vals.reverse r2))
    iBadCount := aBadCountInit
    tBadCount := tyBadCount
    oBadCount := ⟨⟨nmXBadCount, qXBadCount, NXBadCount, bsXBadCount, bmXBadCount, snXBadCount, subXBadCount, abXBadCount, colXBadCount, ddXBadCount, r0XBadCount, r1XBadCount, r2XBadCount, r3XBadCount, r5XBadCount, oxBadCount, orBadCount⟩, osBadCount, obBadCount, otBadCount, okBadCount⟩
    xfBadCount := ⟨xgBadCount, xnBadCount, obBadCount, xdBadCount⟩
    nBadCount_what := nBadCount_what
    nBadCount_count := nBadCount_count
    emBadCount_BadCount := PySem.W.exm_ref obBadCount xdBadCount otBadCount euBadCount_BadCount
    emBadCount_NoJar := PySem.W.exm_ref obNoJar xdNoJar otNoJar euBadCount_NoJar
    emBadCount_SameJar := PySem.W.exm_ref obSameJar xdSameJar otSameJar euBadCount_SameJar
    emBadCount_Sizes := PySem.W.exm_ref obSizes xdSizes otSizes euBadCount_Sizes
    iNoJar := aNoJarInit
    tNoJar := tyNoJar
    oNoJar := ⟨⟨nmXNoJar, qXNoJar, NXNoJar, bsXNoJar, bmXNoJar, snXNoJar, subXNoJar, abXNoJar, colXNoJar, ddXNoJar, r0XNoJar, r1XNoJar, r2XNoJar, r3XNoJar, r5XNoJar, oxNoJar, orNoJar⟩, osNoJar, obNoJar, otNoJar, okNoJar⟩
    xfNoJar := ⟨xgNoJar, xnNoJar, obNoJar, xdNoJar⟩
    nNoJar_jar := nNoJar_jar
    emNoJar_BadCount := PySem.W.exm_ref obBadCount xdBadCount otBadCount euNoJar_BadCount
    emNoJar_NoJar := PySem.W.exm_ref obNoJar xdNoJar otNoJar euNoJar_NoJar
    emNoJar_SameJar := PySem.W.exm_ref obSameJar xdSameJar otSameJar euNoJar_SameJar
    emNoJar_Sizes := PySem.W.exm_ref obSizes xdSizes otSizes euNoJar_Sizes
    iSameJar := aSameJarInit
    tSameJar := tySameJar
    oSameJar := ⟨⟨nmXSameJar, qXSameJar, NXSameJar, bsXSameJar, bmXSameJar, snXSameJar, subXSameJar, abXSameJar, colXSameJar, ddXSameJar, r0XSameJar, r1XSameJar, r2XSameJar, r3XSameJar, r5XSameJar, oxSameJar, orSameJar⟩, osSameJar, obSameJar, otSameJar, okSameJar⟩
    xfSameJar := ⟨xgSameJar, xnSameJar, obSameJar, xdSameJar⟩
    nSameJar_jar := nSameJar_jar
    emSameJar_BadCount := PySem.W.exm_ref obBadCount xdBadCount otBadCount euSameJar_BadCount
    emSameJar_NoJar := PySem.W.exm_ref obNoJar xdNoJar otNoJar euSameJar_NoJar
    emSameJar_SameJar := PySem.W.exm_ref obSameJar xdSameJar otSameJar euSameJar_SameJar
    emSameJar_Sizes := PySem.W.exm_ref obSizes xdSizes otSizes euSameJar_Sizes
    iSizes := aSizesInit
    tSizes := tySizes
    oSizes := ⟨⟨nmXSizes, qXSizes, NXSizes, bsXSizes, bmXSizes, snXSizes, subXSizes, abXSizes, colXSizes, ddXSizes, r0XSizes, r1XSizes, r2XSizes, r3XSizes, r5XSizes, oxSizes, orSizes⟩, osSizes, obSizes, otSizes, okSizes⟩
    xfSizes := ⟨xgSizes, xnSizes, obSizes, xdSizes⟩
    nSizes_a := nSizes_a
    nSizes_b := nSizes_b
    emSizes_BadCount := PySem.W.exm_ref obBadCount xdBadCount otBadCount euSizes_BadCount
    emSizes_NoJar := PySem.W.exm_ref obNoJar xdNoJar otNoJar euSizes_NoJar
    emSizes_SameJar := PySem.W.exm_ref obSameJar xdSameJar otSameJar euSizes_SameJar
    emSizes_Sizes := PySem.W.exm_ref obSizes xdSizes otSizes euSizes_Sizes
    xcNoJar := ⟨xgNoJar, xnNoJar, obNoJar, xdNoJar, yaNoJar, yn, yt, ymNoJar⟩
    cBadStart := CBadStart
    mBadStart := PySem.W.mg_of X G xBadStart
    ixNoJar_BadStart := ixNoJar_BadStart
    tMOSTJARS := tkMOSTJARS
    cMOSTJARS := PySem.W.mg_of X G gMOSTJARS
    tMOSTDEEDS := tkMOSTDEEDS
    cMOSTDEEDS := PySem.W.mg_of X G gMOSTDEEDS
    tMOSTMUCH := tkMOSTMUCH
    cMOSTMUCH := PySem.W.mg_of X G gMOSTMUCH
    nabs := PySem.W.mg_none_of X G zabs
    nint := PySem.W.mg_none_of X G zint
    nisinstance := PySem.W.mg_none_of X G zisinstance
    nlen := PySem.W.mg_none_of X G zlen
    nlist := PySem.W.mg_none_of X G zlist
    nmax := PySem.W.mg_none_of X G zmax
    nmin := PySem.W.mg_none_of X G zmin
    nrange := PySem.W.mg_none_of X G zrange
    ntuple := PySem.W.mg_none_of X G ztuple }⟩
theorem walk {l : PySem.W.OpenLaw} {q : Program} {loose : List Str} {XP : (Str → Option Value) → Heap → Prop} {YP : World → Heap → Prop} {d : DefRec} {K : Params → PySem.W.Frag} (hn : l.most = some 63) (hdf : d.params.defaults = [])
    (hY : ∀ (w : World) (h : Heap), YP w h → (K w.params).In h)
    (F : ∀ (w : World) (mg : Str → Option Value) (fa : Addr) (h : Heap), (K w.params).In h → h.Ns mainGlobals mg → mg d.name = some (.ref fa) →
      ∃ fd : FuncData, (∀ (s : Shared) (u : Value), BindsTo s fd ⟨[u], []⟩ [("_law_script", u)]) ∧ ∀ base : Heap, (K w.params).In base → base.Ns mainGlobals mg → FnOk l.prog w (K w.params) mg base CX0 8 fa fd ["_law_script"] (spLaw (K w.params))) :
    PySem.W.WalkO q loose XP YP l.row.toRowW d [] (fun f vs => PySem.call f vs) :=
  L2.walk_of (n := 63) (k := 8) (x := "_law_script") (CX := fun _ => CX0) (sp := fun w => spLaw (K w.params)) hn (by decide) hdf ⟨rfl, by decide, by decide⟩ hY F (fun _ _ a ns hl _ hS => ⟨a, ns, rfl, hS, hl, fun _ => rfl⟩) fun _ _ _ _ _ z => z
end Kp
open PySem PySem.W PyProof.Rows
set_option maxRecDepth 100000 in
set_option maxHeartbeats 0 in
theorem PySem.Challenge.cw_wholedrops_k02_rows_and_the_first_deed_a_holds : PySem.Challenge.rw_wholedrops_k02_rows_and_the_first_deed_a.Holds := by
  w_on; o_law; k_head; (case hw => w_witness2)
  k_fill
  refine Kp.walk (l := PySem.Challenge.rw_wholedrops_k02_rows_and_the_first_deed_a) rfl rfl (fun w h Y => PySem.W.kIn_of Y) ?F
  case F =>
    intro w mg fa h KX G hmg
    refine' Kp.all_mk KX G hmg ?xJars ?xPour ?xPut ?xDraw ?xChange ?xRow ?xDeed ?xBadCount ?xNoJar ?xSameJar ?xSizes ?acheckmuch ?lcheckmuch ?qcheckmuch ?kcheckmuch ?acheckjar ?lcheckjar ?qcheckjar ?kcheckjar ?acheckdeed ?lcheckdeed ?qcheckdeed ?kcheckdeed ?aBadCountInit ?iBadCountInit ?lBadCountInit ?qBadCountInit ?kBadCountInit ?aNoJarInit ?iNoJarInit ?lNoJarInit ?qNoJarInit ?kNoJarInit ?aSameJarInit ?iSameJarInit ?lSameJarInit ?qSameJarInit ?kSameJarInit ?aSizesInit ?iSizesInit ?lSizesInit ?qSizesInit ?kSizesInit ?aJarsInit ?iJarsInit ?lJarsInit ?qJarsInit ?kJarsInit ?aPourInit ?iPourInit ?lPourInit ?qPourInit ?kPourInit ?aPutInit ?iPutInit ?lPutInit ?qPutInit ?kPutInit ?aDrawInit ?iDrawInit ?lDrawInit ?qDrawInit ?kDrawInit ?aChangeInit ?iChangeInit ?lChangeInit ?qChangeInit ?kChangeInit ?aRowInit ?iRowInit ?lRowInit ?qRowInit ?kRowInit ?aJarsEq ?iJarsEq ?lJarsEq ?qJarsEq ?kJarsEq ?aPourEq ?iPourEq ?lPourEq ?qPourEq ?kPourEq ?aPutEq ?iPutEq ?lPutEq ?qPutEq ?kPutEq ?aDrawEq ?iDrawEq ?lDrawEq ?qDrawEq ?kDrawEq ?aChangeEq ?iChangeEq ?lChangeEq ?qChangeEq ?kChangeEq ?aRowEq ?iRowEq ?lRowEq ?qRowEq ?kRowEq ?aLwell ?lLwell ?qLwell ?kLwell ?aLdraw ?lLdraw ?qLdraw ?kLdraw ?aLcaps ?lLcaps ?qLcaps ?kLcaps ?aLfacts ?lLfacts ?qLfacts ?kLfacts ?aLdeed ?lLdeed ?qLdeed ?kLdeed ?aLodd ?lLodd ?qLodd ?kLodd ?aLamiss ?lLamiss ?qLamiss ?kLamiss ?aLdue ?lLdue ?qLdue ?kLdue ?aLsaid ?lLsaid ?qLsaid ?kLsaid ?aLtoldright ?lLtoldright ?qLtoldright ?kLtoldright ?alaw ?llaw ?qlaw ?klaw ?pgJars ?hdJars ?poJars ?saJars ?mkJars ?kcJars ?nJars_sizes ?pgPour ?hdPour ?poPour ?saPour ?mkPour ?kcPour ?nPour_a ?nPour_b ?pgPut ?hdPut ?poPut ?saPut ?mkPut ?kcPut ?nPut_a ?nPut_k ?pgDraw ?hdDraw ?poDraw ?saDraw ?mkDraw ?kcDraw ?nDraw_a ?nDraw_k ?pgChange ?hdChange ?poChange ?saChange ?mkChange ?kcChange ?nChange_a ?nChange_b ?pgRow ?hdRow ?poRow ?saRow ?mkRow ?kcRow ?nRow_jars ?nRow_deeds ?pgDeed ?hdDeed ?poDeed ?saDeed ?yaChange ?ymChange ?yaDraw ?ymDraw ?yaJars ?ymJars ?yaPour ?ymPour ?yaPut ?ymPut ?yaRow ?ymRow ?yn ?yt ?isPour_Put ?isPour_Draw ?isPour_Pour ?isPour_Change ?isPut_Put ?isPut_Draw ?isPut_Pour ?isPut_Change ?isDraw_Put ?isDraw_Draw ?isDraw_Pour ?isDraw_Change ?isChange_Put ?isChange_Draw ?isChange_Pour ?isChange_Change ?isJars_Jars ?isRow_Row ?isPour_Deed ?isPut_Deed ?isDraw_Deed ?isChange_Deed ?nfPour_Put ?nfPour_Draw ?nfPour_Change ?nfPut_Pour ?nfPut_Draw ?nfPut_Change ?nfDraw_Pour ?nfDraw_Put ?nfDraw_Change ?nfChange_Pour ?nfChange_Put ?nfChange_Draw ?neMPour ?alPour_NoneType ?ikPour_NoneType ?alPour_int ?ikPour_int ?alPour_tuple ?ikPour_tuple ?alPour_list ?ikPour_list ?neMPut ?alPut_NoneType ?ikPut_NoneType ?alPut_int ?ikPut_int ?alPut_tuple ?ikPut_tuple ?alPut_list ?ikPut_list ?neMDraw ?alDraw_NoneType ?ikDraw_NoneType ?alDraw_int ?ikDraw_int ?alDraw_tuple ?ikDraw_tuple ?alDraw_list ?ikDraw_list ?neMChange ?alChange_NoneType ?ikChange_NoneType ?alChange_int ?ikChange_int ?alChange_tuple ?ikChange_tuple ?alChange_list ?ikChange_list ?neMJars ?alJars_NoneType ?ikJars_NoneType ?alJars_int ?ikJars_int ?alJars_tuple ?ikJars_tuple ?alJars_list ?ikJars_list ?neMRow ?alRow_NoneType ?ikRow_NoneType ?alRow_int ?ikRow_int ?alRow_tuple ?ikRow_tuple ?alRow_list ?ikRow_list ?tyBadCount ?oxBadCount ?orBadCount ?osBadCount ?obBadCount ?otBadCount ?okBadCount ?xgBadCount ?xnBadCount ?xdBadCount ?nBadCount_what ?nBadCount_count ?euBadCount_BadCount ?euBadCount_NoJar ?euBadCount_SameJar ?euBadCount_Sizes ?tyNoJar ?oxNoJar ?orNoJar ?osNoJar ?obNoJar ?otNoJar ?okNoJar ?xgNoJar ?xnNoJar ?xdNoJar ?nNoJar_jar ?euNoJar_BadCount ?euNoJar_NoJar ?euNoJar_SameJar ?euNoJar_Sizes ?tySameJar ?oxSameJar ?orSameJar ?osSameJar ?obSameJar ?otSameJar ?okSameJar ?xgSameJar ?xnSameJar ?xdSameJar ?nSameJar_jar ?euSameJar_BadCount ?euSameJar_NoJar ?euSameJar_SameJar ?euSameJar_Sizes ?tySizes ?oxSizes ?orSizes ?osSizes ?obSizes ?otSizes ?okSizes ?xgSizes ?xnSizes ?xdSizes ?nSizes_a ?nSizes_b ?euSizes_BadCount ?euSizes_NoJar ?euSizes_SameJar ?euSizes_Sizes ?yaNoJar ?ymNoJar ?xBadStart ?ixNoJar_BadStart ?gMOSTJARS ?gMOSTDEEDS ?gMOSTMUCH ?zabs ?zint ?zisinstance ?zlen ?zlist ?zmax ?zmin ?zrange ?ztuple
    (case xJars => k_is)
    (case xPour => k_is)
    (case xPut => k_is)
    (case xDraw => k_is)
    (case xChange => k_is)
    (case xRow => k_is)
    (case xDeed => k_is)
    (case xBadCount => k_is)
    (case xNoJar => k_is)
    (case xSameJar => k_is)
    (case xSizes => k_is)
    (case acheckmuch => k_is)
    (case lcheckmuch => k_is)
    (case qcheckmuch => k_is)
    (case kcheckmuch => k_is)
    (case acheckjar => k_is)
    (case lcheckjar => k_is)
    (case qcheckjar => k_is)
    (case kcheckjar => k_is)
    (case acheckdeed => k_is)
    (case lcheckdeed => k_is)
    (case qcheckdeed => k_is)
    (case kcheckdeed => k_is)
    (case aBadCountInit => k_is)
    (case iBadCountInit => k_is)
    (case lBadCountInit => k_is)
    (case qBadCountInit => k_is)
    (case kBadCountInit => k_is)
    (case aNoJarInit => k_is)
    (case iNoJarInit => k_is)
    (case lNoJarInit => k_is)
    (case qNoJarInit => k_is)
    (case kNoJarInit => k_is)
    (case aSameJarInit => k_is)
    (case iSameJarInit => k_is)
    (case lSameJarInit => k_is)
    (case qSameJarInit => k_is)
    (case kSameJarInit => k_is)
    (case aSizesInit => k_is)
    (case iSizesInit => k_is)
    (case lSizesInit => k_is)
    (case qSizesInit => k_is)
    (case kSizesInit => k_is)
    (case aJarsInit => k_is)
    (case iJarsInit => k_is)
    (case lJarsInit => k_is)
    (case qJarsInit => k_is)
    (case kJarsInit => k_is)
    (case aPourInit => k_is)
    (case iPourInit => k_is)
    (case lPourInit => k_is)
    (case qPourInit => k_is)
    (case kPourInit => k_is)
    (case aPutInit => k_is)
    (case iPutInit => k_is)
    (case lPutInit => k_is)
    (case qPutInit => k_is)
    (case kPutInit => k_is)
    (case aDrawInit => k_is)
    (case iDrawInit => k_is)
    (case lDrawInit => k_is)
    (case qDrawInit => k_is)
    (case kDrawInit => k_is)
    (case aChangeInit => k_is)
    (case iChangeInit => k_is)
    (case lChangeInit => k_is)
    (case qChangeInit => k_is)
    (case kChangeInit => k_is)
    (case aRowInit => k_is)
    (case iRowInit => k_is)
    (case lRowInit => k_is)
    (case qRowInit => k_is)
    (case kRowInit => k_is)
    (case aJarsEq => k_is)
    (case iJarsEq => k_is)
    (case lJarsEq => k_is)
    (case qJarsEq => k_is)
    (case kJarsEq => k_is)
    (case aPourEq => k_is)
    (case iPourEq => k_is)
    (case lPourEq => k_is)
    (case qPourEq => k_is)
    (case kPourEq => k_is)
    (case aPutEq => k_is)
    (case iPutEq => k_is)
    (case lPutEq => k_is)
    (case qPutEq => k_is)
    (case kPutEq => k_is)
    (case aDrawEq => k_is)
    (case iDrawEq => k_is)
    (case lDrawEq => k_is)
    (case qDrawEq => k_is)
    (case kDrawEq => k_is)
    (case aChangeEq => k_is)
    (case iChangeEq => k_is)
    (case lChangeEq => k_is)
    (case qChangeEq => k_is)
    (case kChangeEq => k_is)
    (case aRowEq => k_is)
    (case iRowEq => k_is)
    (case lRowEq => k_is)
    (case qRowEq => k_is)
    (case kRowEq => k_is)
    (case aLwell => k_is)
    (case lLwell => k_is)
    (case qLwell => k_is)
    (case kLwell => k_is)
    (case aLdraw => k_is)
    (case lLdraw => k_is)
    (case qLdraw => k_is)
    (case kLdraw => k_is)
    (case aLcaps => k_is)
    (case lLcaps => k_is)
    (case qLcaps => k_is)
    (case kLcaps => k_is)
    (case aLfacts => k_is)
    (case lLfacts => k_is)
    (case qLfacts => k_is)
    (case kLfacts => k_is)
    (case aLdeed => k_is)
    (case lLdeed => k_is)
    (case qLdeed => k_is)
    (case kLdeed => k_is)
    (case aLodd => k_is)
    (case lLodd => k_is)
    (case qLodd => k_is)
    (case kLodd => k_is)
    (case aLamiss => k_is)
    (case lLamiss => k_is)
    (case qLamiss => k_is)
    (case kLamiss => k_is)
    (case aLdue => k_is)
    (case lLdue => k_is)
    (case qLdue => k_is)
    (case kLdue => k_is)
    (case aLsaid => k_is)
    (case lLsaid => k_is)
    (case qLsaid => k_is)
    (case kLsaid => k_is)
    (case aLtoldright => k_is)
    (case lLtoldright => k_is)
    (case qLtoldright => k_is)
    (case kLtoldright => k_is)
    (case alaw => k_is)
    (case llaw => k_is)
    (case qlaw => k_is)
    (case klaw => k_is)
    (case pgJars => k_is)
    (case hdJars => k_is)
    (case poJars => k_is)
    (case saJars => k_is)
    (case mkJars => k_is)
    (case kcJars => k_is)
    (case nJars_sizes => k_is)
    (case pgPour => k_is)
    (case hdPour => k_is)
    (case poPour => k_is)
    (case saPour => k_is)
    (case mkPour => k_is)
    (case kcPour => k_is)
    (case nPour_a => k_is)
    (case nPour_b => k_is)
    (case pgPut => k_is)
    (case hdPut => k_is)
    (case poPut => k_is)
    (case saPut => k_is)
    (case mkPut => k_is)
    (case kcPut => k_is)
    (case nPut_a => k_is)
    (case nPut_k => k_is)
    (case pgDraw => k_is)
    (case hdDraw => k_is)
    (case poDraw => k_is)
    (case saDraw => k_is)
    (case mkDraw => k_is)
    (case kcDraw => k_is)
    (case nDraw_a => k_is)
    (case nDraw_k => k_is)
    (case pgChange => k_is)
    (case hdChange => k_is)
    (case poChange => k_is)
    (case saChange => k_is)
    (case mkChange => k_is)
    (case kcChange => k_is)
    (case nChange_a => k_is)
    (case nChange_b => k_is)
    (case pgRow => k_is)
    (case hdRow => k_is)
    (case poRow => k_is)
    (case saRow => k_is)
    (case mkRow => k_is)
    (case kcRow => k_is)
    (case nRow_jars => k_is)
    (case nRow_deeds => k_is)
    (case pgDeed => k_is)
    (case hdDeed => k_is)
    (case poDeed => k_is)
    (case saDeed => k_is)
    (case yaChange => k_is)
    (case ymChange => k_is)
    (case yaDraw => k_is)
    (case ymDraw => k_is)
    (case yaJars => k_is)
    (case ymJars => k_is)
    (case yaPour => k_is)
    (case ymPour => k_is)
    (case yaPut => k_is)
    (case ymPut => k_is)
    (case yaRow => k_is)
    (case ymRow => k_is)
    (case yn => k_is)
    (case yt => k_is)
    (case isPour_Put => (exact KpR.kit_cls (by k_is) (by k_is) (by k_is) (by decide)))
    (case isPour_Draw => (exact KpR.kit_cls (by k_is) (by k_is) (by k_is) (by decide)))
    (case isPour_Pour => exact KpR.kit_self (by simp))
    (case isPour_Change => (exact KpR.kit_cls (by k_is) (by k_is) (by k_is) (by decide)))
    (case isPut_Put => exact KpR.kit_self (by simp))
    (case isPut_Draw => (exact KpR.kit_cls (by k_is) (by k_is) (by k_is) (by decide)))
    (case isPut_Pour => (exact KpR.kit_cls (by k_is) (by k_is) (by k_is) (by decide)))
    (case isPut_Change => (exact KpR.kit_cls (by k_is) (by k_is) (by k_is) (by decide)))
    (case isDraw_Put => (exact KpR.kit_cls (by k_is) (by k_is) (by k_is) (by decide)))
    (case isDraw_Draw => exact KpR.kit_self (by simp))
    (case isDraw_Pour => (exact KpR.kit_cls (by k_is) (by k_is) (by k_is) (by decide)))
    (case isDraw_Change => (exact KpR.kit_cls (by k_is) (by k_is) (by k_is) (by decide)))
    (case isChange_Put => (exact KpR.kit_cls (by k_is) (by k_is) (by k_is) (by decide)))
    (case isChange_Draw => (exact KpR.kit_cls (by k_is) (by k_is) (by k_is) (by decide)))
    (case isChange_Pour => (exact KpR.kit_cls (by k_is) (by k_is) (by k_is) (by decide)))
    (case isChange_Change => exact KpR.kit_self (by simp))
    (case isJars_Jars => exact KpR.kit_self (by simp))
    (case isRow_Row => exact KpR.kit_self (by simp))
    (case isPour_Deed => (exact KpR.kit_cls (by k_is) (by k_is) (by k_is) (by decide)))
    (case isPut_Deed => (exact KpR.kit_cls (by k_is) (by k_is) (by k_is) (by decide)))
    (case isDraw_Deed => (exact KpR.kit_cls (by k_is) (by k_is) (by k_is) (by decide)))
    (case isChange_Deed => (exact KpR.kit_cls (by k_is) (by k_is) (by k_is) (by decide)))
    (case nfPour_Put => k_is)
    (case nfPour_Draw => k_is)
    (case nfPour_Change => k_is)
    (case nfPut_Pour => k_is)
    (case nfPut_Draw => k_is)
    (case nfPut_Change => k_is)
    (case nfDraw_Pour => k_is)
    (case nfDraw_Put => k_is)
    (case nfDraw_Change => k_is)
    (case nfChange_Pour => k_is)
    (case nfChange_Put => k_is)
    (case nfChange_Draw => k_is)
    (case neMPour => k_is)
    (case alPour_NoneType => k_is)
    (case ikPour_NoneType => (exact KpR.kit_tc (by k_is) (by k_is) (by k_is)))
    (case alPour_int => k_is)
    (case ikPour_int => (exact KpR.kit_tc (by k_is) (by k_is) (by k_is)))
    (case alPour_tuple => k_is)
    (case ikPour_tuple => (exact KpR.kit_tc (by k_is) (by k_is) (by k_is)))
    (case alPour_list => k_is)
    (case ikPour_list => (exact KpR.kit_tc (by k_is) (by k_is) (by k_is)))
    (case neMPut => k_is)
    (case alPut_NoneType => k_is)
    (case ikPut_NoneType => (exact KpR.kit_tc (by k_is) (by k_is) (by k_is)))
    (case alPut_int => k_is)
    (case ikPut_int => (exact KpR.kit_tc (by k_is) (by k_is) (by k_is)))
    (case alPut_tuple => k_is)
    (case ikPut_tuple => (exact KpR.kit_tc (by k_is) (by k_is) (by k_is)))
    (case alPut_list => k_is)
    (case ikPut_list => (exact KpR.kit_tc (by k_is) (by k_is) (by k_is)))
    (case neMDraw => k_is)
    (case alDraw_NoneType => k_is)
    (case ikDraw_NoneType => (exact KpR.kit_tc (by k_is) (by k_is) (by k_is)))
    (case alDraw_int => k_is)
    (case ikDraw_int => (exact KpR.kit_tc (by k_is) (by k_is) (by k_is)))
    (case alDraw_tuple => k_is)
    (case ikDraw_tuple => (exact KpR.kit_tc (by k_is) (by k_is) (by k_is)))
    (case alDraw_list => k_is)
    (case ikDraw_list => (exact KpR.kit_tc (by k_is) (by k_is) (by k_is)))
    (case neMChange => k_is)
    (case alChange_NoneType => k_is)
    (case ikChange_NoneType => (exact KpR.kit_tc (by k_is) (by k_is) (by k_is)))
    (case alChange_int => k_is)
    (case ikChange_int => (exact KpR.kit_tc (by k_is) (by k_is) (by k_is)))
    (case alChange_tuple => k_is)
    (case ikChange_tuple => (exact KpR.kit_tc (by k_is) (by k_is) (by k_is)))
    (case alChange_list => k_is)
    (case ikChange_list => (exact KpR.kit_tc (by k_is) (by k_is) (by k_is)))
    (case neMJars => k_is)
    (case alJars_NoneType => k_is)
    (case ikJars_NoneType => (exact KpR.kit_tc (by k_is) (by k_is) (by k_is)))
    (case alJars_int => k_is)
    (case ikJars_int => (exact KpR.kit_tc (by k_is) (by k_is) (by k_is)))
    (case alJars_tuple => k_is)
    (case ikJars_tuple => (exact KpR.kit_tc (by k_is) (by k_is) (by k_is)))
    (case alJars_list => k_is)
    (case ikJars_list => (exact KpR.kit_tc (by k_is) (by k_is) (by k_is)))
    (case neMRow => k_is)
    (case alRow_NoneType => k_is)
    (case ikRow_NoneType => (exact KpR.kit_tc (by k_is) (by k_is) (by k_is)))
    (case alRow_int => k_is)
    (case ikRow_int => (exact KpR.kit_tc (by k_is) (by k_is) (by k_is)))
    (case alRow_tuple => k_is)
    (case ikRow_tuple => (exact KpR.kit_tc (by k_is) (by k_is) (by k_is)))
    (case alRow_list => k_is)
    (case ikRow_list => (exact KpR.kit_tc (by k_is) (by k_is) (by k_is)))
    (case tyBadCount => k_is)
    (case oxBadCount => k_is)
    (case orBadCount => rfl)
    (case osBadCount => k_is)
    (case obBadCount => k_is)
    (case otBadCount => k_is)
    (case okBadCount => k_is)
    (case xgBadCount => k_is)
    (case xnBadCount => k_is)
    (case xdBadCount => k_is)
    (case nBadCount_what => k_is)
    (case nBadCount_count => k_is)
    (case euBadCount_BadCount => k_is)
    (case euBadCount_NoJar => k_is)
    (case euBadCount_SameJar => k_is)
    (case euBadCount_Sizes => k_is)
    (case tyNoJar => k_is)
    (case oxNoJar => k_is)
    (case orNoJar => rfl)
    (case osNoJar => k_is)
    (case obNoJar => k_is)
    (case otNoJar => k_is)
    (case okNoJar => k_is)
    (case xgNoJar => k_is)
    (case xnNoJar => k_is)
    (case xdNoJar => k_is)
    (case nNoJar_jar => k_is)
    (case euNoJar_BadCount => k_is)
    (case euNoJar_NoJar => k_is)
    (case euNoJar_SameJar => k_is)
    (case euNoJar_Sizes => k_is)
    (case tySameJar => k_is)
    (case oxSameJar => k_is)
    (case orSameJar => rfl)
    (case osSameJar => k_is)
    (case obSameJar => k_is)
    (case otSameJar => k_is)
    (case okSameJar => k_is)
    (case xgSameJar => k_is)
    (case xnSameJar => k_is)
    (case xdSameJar => k_is)
    (case nSameJar_jar => k_is)
    (case euSameJar_BadCount => k_is)
    (case euSameJar_NoJar => k_is)
    (case euSameJar_SameJar => k_is)
    (case euSameJar_Sizes => k_is)
    (case tySizes => k_is)
    (case oxSizes => k_is)
    (case orSizes => rfl)
    (case osSizes => k_is)
    (case obSizes => k_is)
    (case otSizes => k_is)
    (case okSizes => k_is)
    (case xgSizes => k_is)
    (case xnSizes => k_is)
    (case xdSizes => k_is)
    (case nSizes_a => k_is)
    (case nSizes_b => k_is)
    (case euSizes_BadCount => k_is)
    (case euSizes_NoJar => k_is)
    (case euSizes_SameJar => k_is)
    (case euSizes_Sizes => k_is)
    (case yaNoJar => k_is)
    (case ymNoJar => k_is)
    (case xBadStart => k_is)
    (case ixNoJar_BadStart => (exact KpR.kit_cls (by k_is) (by k_is) (by k_is) (by decide)))
    (case gMOSTJARS => k_is)
    (case gMOSTDEEDS => k_is)
    (case gMOSTMUCH => k_is)
    (case zabs => k_is)
    (case zint => k_is)
    (case zisinstance => k_is)
    (case zlen => k_is)
    (case zlist => k_is)
    (case zmax => k_is)
    (case zmin => k_is)
    (case zrange => k_is)
    (case ztuple => k_is)


