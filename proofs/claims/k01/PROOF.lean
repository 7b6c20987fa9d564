import PyProof.Rows.All
import Wide.All
import OpenK.AllK
import Wide.FinOn
import HandS.ForMost
import HandS.Defaults
import HandS.MakeKwOnly
import HandS.IsInst
import HandS.Wide
import HandS.Style
import HandS.Zip
import HandS.Codes
import HandS.OwnEq
import HandS.Exc
import HandS.TryMany
import HandS.ExcInit
import HandS.ExcField
import HandS.ExcIs
import HandS.WordsExc
import PyProof.InstNe
import PySem.Challenge.RW_wholedrops_k01_jars_and_deeds_told
set_option Elab.async false
set_option linter.all false
set_option maxRecDepth 100000
set_option maxHeartbeats 4000000
namespace Kp
/-! ### an if whose test is a Bool -/
theorem ifT {c : Bool} {A B : Prop} (hc : c = true) (h : A) : if c = true then A else B := by
  rw [if_pos hc]
  exact h
theorem ifF {c : Bool} {A B : Prop} (hc : c = false) (h : B) : if c = true then A else B := by
  rw [hc, if_neg Bool.false_ne_true]
  exact h
theorem ifD {P A B : Prop} [Decidable P] (h1 : P → A) (h2 : ¬ P → B) : if decide P = true then A else B := by
  by_cases h : P
  · exact ifT (decide_eq_true h) (h1 h)
  · exact ifF (decide_eq_false h) (h2 h)
theorem ifN {P A B : Prop} [Decidable P] (h1 : P → B) (h2 : ¬ P → A) : if (!decide P) = true then A else B := by
  by_cases h : P
  · exact ifF (by rw [decide_eq_true h]; rfl) (h1 h)
  · exact ifT (by rw [decide_eq_false h]; rfl) (h2 h)
/-! ### lists of ints -/
def at0 (l : List Int) (i : Nat) : Int := l.getD i 0
theorem at0_get {l : List Int} {i : Nat} (h : i < l.length) : l[i]? = some (at0 l i) := by
  unfold at0
  rw [List.getD_eq_getElem?_getD, List.getElem?_eq_getElem h]
  rfl
theorem at0_of {l : List Int} {i : Nat} {v : Int} (h : l[i]? = some v) : at0 l i = v := by
  unfold at0
  rw [List.getD_eq_getElem?_getD, h]
  rfl
theorem at0_set {l : List Int} {i j : Nat} {v : Int} (h : i < l.length) : at0 (l.set i v) j = if i = j then v else at0 l j := by
  unfold at0
  rw [List.getD_eq_getElem?_getD, List.getD_eq_getElem?_getD, List.getElem?_set]
  by_cases e : i = j
  · subst e
    simp [h]
  · simp [e]
theorem at0_map {l : List Int} {f : Int → Int} {i : Nat} (h : i < l.length) : at0 (l.map f) i = f (at0 l i) := by
  have := at0_get h
  exact at0_of (by rw [List.getElem?_map, this]; rfl)
theorem ext0 {l m : List Int} (h : l.length = m.length) (e : ∀ i, i < l.length → at0 l i = at0 m i) : l = m := by
  apply List.ext_getElem? 
  intro i
  by_cases hi : i < l.length
  · rw [at0_get hi, at0_get (h ▸ hi), e i hi]
  · rw [List.getElem?_eq_none (by omega), List.getElem?_eq_none (by omega)]
/-! ### the deeds -/
inductive D where
  | pour (a b : Nat) | put (a : Nat) (k : Int) | draw (a : Nat) (k : Int) | change (a b : Nat)
  deriving DecidableEq
/-- what a deed must be for jars of these sizes -/
def D.ok (caps : List Int) : D → Prop
  | .pour a b => a < caps.length ∧ b < caps.length ∧ a ≠ b
  | .put a k => a < caps.length ∧ 1 ≤ k ∧ k ≤ 1000000000000
  | .draw a k => a < caps.length ∧ 1 ≤ k ∧ k ≤ 1000000000000
  | .change a b => a < caps.length ∧ b < caps.length ∧ a ≠ b ∧ at0 caps a = at0 caps b
/-- one deed, as behind_deed reckons it -/
def D.act (caps : List Int) (p : Int) (st : List Int) : D → List Int
  | .pour a b =>
    let m := if at0 caps b * p - at0 st b < at0 st a then at0 caps b * p - at0 st b else at0 st a
    (st.set a (at0 st a - m)).set b (at0 st b + m)
  | .put a k => st.set a (if at0 caps a * p < at0 st a + k * p then at0 caps a * p else at0 st a + k * p)
  | .draw a k => st.set a (if 0 > at0 st a - k * p then 0 else at0 st a - k * p)
  | .change a b => (st.set a (at0 st b)).set b (at0 st a)
def run (caps : List Int) (p : Int) (ds : List D) (st : List Int) : List Int := ds.foldl (D.act caps p) st
def runs (caps : List Int) (p : Int) (ds : List D) : Nat → List Int → List Int
  | 0, st => st
  | n + 1, st => run caps p ds (runs caps p ds n st)
/-- a start that can be -/
structure Stand (caps : List Int) (p : Int) (st : List Int) : Prop where
  len : st.length = caps.length
  lo : ∀ i, i < caps.length → 0 ≤ at0 st i
  hi : ∀ i, i < caps.length → at0 st i ≤ at0 caps i * p
structure Caps (caps : List Int) : Prop where
  l1 : 1 ≤ caps.length
  l6 : caps.length ≤ 6
  lo : ∀ i, i < caps.length → 1 ≤ at0 caps i
  hi : ∀ i, i < caps.length → at0 caps i ≤ 1000000000000
theorem act_len {caps st : List Int} {p : Int} {d : D} : (d.act caps p st).length = st.length := by
  cases d <;> simp [D.act]
theorem act_stand {caps st : List Int} {p : Int} {d : D} (hp : 1 ≤ p) (h : Stand caps p st) (hd : d.ok caps) : Stand caps p (d.act caps p st) := by
  have hl := h.len
  refine ⟨by rw [act_len, hl], ?_, ?_⟩
  all_goals
    intro i hi
    have z0 := h.lo i hi
    have z1 := h.hi i hi
    cases d with
    | pour a b =>
      obtain ⟨ha, hb, hab⟩ := hd
      have a0 := h.lo a ha
      have a1 := h.hi a ha
      have b0 := h.lo b hb
      have b1 := h.hi b hb
      simp only [D.act]
      rw [at0_set (by rw [List.length_set]; omega), at0_set (by omega)]
      by_cases e1 : b = i
      · subst e1
        rw [if_pos rfl]
        split <;> omega
      · rw [if_neg e1]
        by_cases e2 : a = i
        · subst e2
          rw [if_pos rfl]
          split <;> omega
        · rw [if_neg e2]
          omega
    | put a k =>
      obtain ⟨ha, hk, _⟩ := hd
      have a0 := h.lo a ha
      have a1 := h.hi a ha
      have kp : 0 ≤ k * p := Int.mul_nonneg (by omega) (by omega)
      simp only [D.act]
      rw [at0_set (by omega)]
      by_cases e1 : a = i
      · subst e1
        rw [if_pos rfl]
        split <;> omega
      · rw [if_neg e1]
        omega
    | draw a k =>
      obtain ⟨ha, hk, _⟩ := hd
      have a0 := h.lo a ha
      have a1 := h.hi a ha
      have kp : 0 ≤ k * p := Int.mul_nonneg (by omega) (by omega)
      simp only [D.act]
      rw [at0_set (by omega)]
      by_cases e1 : a = i
      · subst e1
        rw [if_pos rfl]
        split <;> omega
      · rw [if_neg e1]
        omega
    | change a b =>
      obtain ⟨ha, hb, hab, hs⟩ := hd
      have a0 := h.lo a ha
      have a1 := h.hi a ha
      have b0 := h.lo b hb
      have b1 := h.hi b hb
      simp only [D.act]
      rw [at0_set (by rw [List.length_set]; omega), at0_set (by omega)]
      by_cases e1 : b = i
      · subst e1
        rw [if_pos rfl]
        rw [hs] at a1
        omega
      · rw [if_neg e1]
        by_cases e2 : a = i
        · subst e2
          rw [if_pos rfl]
          rw [← hs] at b1
          omega
        · rw [if_neg e2]
          omega
theorem run_len {caps : List Int} {p : Int} : ∀ {ds : List D} {st : List Int}, (run caps p ds st).length = st.length
  | [], _ => rfl
  | d :: ds, st => (run_len (ds := ds) (st := d.act caps p st)).trans act_len
theorem run_stand {caps : List Int} {p : Int} (hp : 1 ≤ p) : ∀ {ds : List D} {st : List Int}, Stand caps p st → (∀ d ∈ ds, d.ok caps) → Stand caps p (run caps p ds st)
  | [], _, h, _ => h
  | d :: ds, st, h, hd => run_stand (ds := ds) hp (act_stand hp h (hd d (List.mem_cons_self ..))) fun e he => hd e (List.mem_cons_of_mem _ he)
theorem runs_stand {caps : List Int} {p : Int} (hp : 1 ≤ p) {ds : List D} (hd : ∀ d ∈ ds, d.ok caps) : ∀ {n : Nat} {st : List Int}, Stand caps p st → Stand caps p (runs caps p ds n st)
  | 0, _, h => h
  | n + 1, _, h => run_stand hp (runs_stand hp hd (n := n) h) hd
theorem run_app {caps : List Int} {p : Int} {ds es : List D} {st : List Int} : run caps p (ds ++ es) st = run caps p es (run caps p ds st) := List.foldl_append ..
theorem runs_add {caps : List Int} {p : Int} {ds : List D} : ∀ (m n : Nat) (st : List Int), runs caps p ds m (runs caps p ds n st) = runs caps p ds (n + m) st
  | 0, _, _ => rfl
  | m + 1, n, st => congrArg (run caps p ds) (runs_add m n st)
theorem runs_nil {caps : List Int} {p : Int} : ∀ (n : Nat) (st : List Int), runs caps p [] n st = st
  | 0, _ => rfl
  | n + 1, st => runs_nil n st
theorem run_snoc {caps : List Int} {p : Int} {ds : List D} {d : D} {i : Nat} {st : List Int} (h : ds[i]? = some d) : run caps p (ds.take (i + 1)) st = d.act caps p (run caps p (ds.take i) st) := by
  rw [List.take_add_one, h, run_app]
  rfl
end Kp

namespace Kp
theorem at0_app {l : List Int} {z : Int} {i : Nat} : at0 (l ++ [z]) i = if i < l.length then at0 l i else if i = l.length then z else 0 := by
  unfold at0
  rw [List.getD_eq_getElem?_getD, List.getD_eq_getElem?_getD]
  by_cases h : i < l.length
  · rw [if_pos h, List.getElem?_append_left h]
  · rw [if_neg h, List.getElem?_append_right (by omega)]
    by_cases e : i = l.length
    · subst e
      simp
    · rw [if_neg e, List.getElem?_eq_none (by simp; omega)]
      rfl
/-- sizes that are none too small, none too big -/
def Mid (caps : List Int) : Prop := ∀ c ∈ caps, 1 ≤ c ∧ c ≤ 1000000000000
theorem Mid.nil : Mid [] := fun c h => by cases h
theorem Mid.app {caps : List Int} {z : Int} (h : Mid caps) (h1 : 1 ≤ z) (h2 : z ≤ 1000000000000) : Mid (caps ++ [z]) := fun c hc => by
  rcases List.mem_append.mp hc with q | q
  · exact h c q
  · have : c = z := by simpa using q
    subst this
    exact ⟨h1, h2⟩
theorem at0_mem {l : List Int} {i : Nat} (h : i < l.length) : at0 l i ∈ l := List.mem_of_getElem? (at0_get h)
theorem Mid.set {caps : List Int} {i j : Nat} (h : Mid caps) (hj : j < caps.length) : Mid (caps.set i (at0 caps j)) := fun c hc => by
  rcases List.mem_or_eq_of_mem_set hc with q | q
  · exact h c q
  · rw [q]
    exact h _ (at0_mem hj)
theorem Mid.caps {caps : List Int} (h : Mid caps) (h1 : 1 ≤ caps.length) (h6 : caps.length ≤ 6) : Caps caps :=
  ⟨h1, h6, fun i hi => (h _ (at0_mem hi)).1, fun i hi => (h _ (at0_mem hi)).2⟩
/-- starts as far as they are made -/
structure Part (caps : List Int) (p : Int) (st : List Int) : Prop where
  lo : ∀ i, i < st.length → 0 ≤ at0 st i
  hi : ∀ i, i < st.length → at0 st i ≤ at0 caps i * p
theorem Part.nil {caps : List Int} {p : Int} : Part caps p [] := ⟨fun i h => absurd h (Nat.not_lt_zero _), fun i h => absurd h (Nat.not_lt_zero _)⟩
theorem Part.app {caps st : List Int} {p z : Int} (h : Part caps p st) (h0 : 0 ≤ z) (h1 : z ≤ at0 caps st.length * p) : Part caps p (st ++ [z]) := by
  refine ⟨fun i hi => ?_, fun i hi => ?_⟩
  all_goals
    rw [List.length_append] at hi
    rw [at0_app]
    by_cases q : i < st.length
    · rw [if_pos q]
      first | exact h.lo i q | exact h.hi i q
    · have e : i = st.length := by simp at hi; omega
      subst e
      rw [if_neg q, if_pos rfl]
      first | exact h0 | exact h1
theorem Part.stand {caps st : List Int} {p : Int} (h : Part caps p st) (hl : st.length = caps.length) : Stand caps p st :=
  ⟨hl, fun i hi => h.lo i (by omega), fun i hi => h.hi i (by omega)⟩
/-- the words of the deeds -/
inductive Wd where
  | pour | put | draw | change
  deriving DecidableEq
def sixW : List Wd := [.pour, .pour, .pour, .put, .draw, .change]
theorem unit_ok {n : Nat} (h : n < 6) : 1 ≤ at0 [1, 1, 1, 7, 1000000, 100000000000] n ∧ at0 [1, 1, 1, 7, 1000000, 100000000000] n ≤ 100000000000 := by
  have : ∀ n : Fin 6, 1 ≤ at0 [1, 1, 1, 7, 1000000, 100000000000] n.1 ∧ at0 [1, 1, 1, 7, 1000000, 100000000000] n.1 ≤ 100000000000 := by decide
  exact this ⟨n, h⟩
theorem pick4 {a b c d lo hi : Int} {n : Nat} (h : n < 4) (ha : lo ≤ a ∧ a ≤ hi) (hb : lo ≤ b ∧ b ≤ hi) (hc : lo ≤ c ∧ c ≤ hi) (hd : lo ≤ d ∧ d ≤ hi) : lo ≤ at0 [a, b, c, d] n ∧ at0 [a, b, c, d] n ≤ hi := by
  match n, h with
  | 0, _ => exact ha
  | 1, _ => exact hb
  | 2, _ => exact hc
  | 3, _ => exact hd
theorem pick5 {a b c d e lo hi : Int} {n : Nat} (h : n < 5) (ha : lo ≤ a ∧ a ≤ hi) (hb : lo ≤ b ∧ b ≤ hi) (hc : lo ≤ c ∧ c ≤ hi) (hd : lo ≤ d ∧ d ≤ hi) (he : lo ≤ e ∧ e ≤ hi) : lo ≤ at0 [a, b, c, d, e] n ∧ at0 [a, b, c, d, e] n ≤ hi := by
  match n, h with
  | 0, _ => exact ha
  | 1, _ => exact hb
  | 2, _ => exact hc
  | 3, _ => exact hd
  | 4, _ => exact he
end Kp

namespace KpR
open PySem PySem.Spec PyProof.Rows L2
open AutoSeq1 (wpAny_loadPart')
/-! ### xs + ys, each a list that can be read -/
theorem addMeets (l b : Addr) (xs ys : Array Value) (n m : Nat) (sl tl : Array (Option Value)) (hsz : xs.size + ys.size ≤ sizeLine) :
    Meets (Builtin.«list.__add__» ⟨[.ref l, .ref b], []⟩) (fun _ R s =>
      s.heap.get? l = some { cls := .type "list", dict := none, data := .seq xs n, slots := sl } ∧
      s.heap.get? b = some { cls := .type "list", dict := none, data := .seq ys m, slots := tl } ∧
      R (.ok (.ret (.ref s.heap.objs.size))) { s with heap := s.heap.push { cls := .type "list", data := .seq (xs ++ ys) } }) :=
  .of_wp fun prog w A R s h => by
    obtain ⟨hp, g, d, tk, os⟩ := s
    obtain ⟨e1, e2, h⟩ := h
    have z1 := AutoSeq1.idx_int
    have z2 := AutoSeq1.sub_tuple_tuple
    have z3 := AutoSeq1.sub_list_list
    have z4 := AutoSeq1.sub_tuple_list
    have z5 := AutoSeq1.sub_list_tuple
    wp_walk using wpAny_loadPart' e1, wpAny_loadPart' e2
    exact ⟨_, rfl, h⟩
theorem enumNewT (l : Addr) (its : Array Value) (n : Nat) (dct : Option Addr) (sl : Array (Option Value)) :
    Meets (Builtin.«enumerate.__new__» ⟨[.type "enumerate", .ref l], []⟩) (fun _ R s =>
      s.heap.get? l = some { cls := .type "tuple", dict := dct, data := .seq its n, slots := sl } ∧
      R (.ok (.ret (.ref (s.heap.push { cls := .type "tuple_iterator", data := .fields #[.ref l, .int 0 0] }).objs.size)))
        { s with heap := Heap.push (Heap.push s.heap { cls := .type "tuple_iterator", data := .fields #[.ref l, .int 0 0] }) { cls := .type "enumerate", data := .fields #[.none, .bool false, .ref s.heap.objs.size, rawInt 0, .none, .none] } }) :=
  .of_wp fun prog w A R s h => by
    obtain ⟨hp, g, d, tk, os⟩ := s
    obtain ⟨hl, h⟩ := h
    have hsub := sub_enumerate
    have hL : Heap.IsTuple (Shared.heap ⟨hp, g, d, tk, os⟩) l its := ⟨_, hl, rfl, n, rfl⟩
    wp_walk using wpAny_loadPart' hl
    refine wpAny_stack_any fun st => wpAny_pure ?_
    split
    · rename_i c _ _ _ _ _
      cases (c == Value.type "enumerate") <;>
        (wp_walk using wpAny_loadPart' hl, wpAny_pyIter_tuple hL
         exact ⟨_, rfl, h⟩)
    · wp_walk using wpAny_loadPart' hl, wpAny_pyIter_tuple hL
      exact ⟨_, rfl, h⟩
end KpR

namespace KpR
open PySem PySem.Spec PyProof.Rows L2
open AutoSeq1 (wpAny_loadPart')
def rCatR (K : PySem.W.Frag) : R2 := fun x y H Q => ∃ l b xs zs, x = .ref l ∧ y = .ref b ∧ SqL K H l xs ∧ SqL K H b zs ∧ xs.length + zs.length ≤ sizeLine ∧ ∀ q, H q = none → Q (.ref q) (upd H q (.lst (xs ++ zs)))
section
variable {X : Cx}
theorem op_catR : OpR X (binaryOp .Add) (rCatR X.K) := by
  intro pins s σ H x y v u Q I rx ry h
  obtain ⟨l, b, xs, zs, rfl, rfl, h1, h2, hz, q⟩ := h
  cases rx
  cases ry
  obtain ⟨its, r1, p1, _⟩ := I.list h1
  obtain ⟨jts, r2, p2, _⟩ := I.list h2
  obtain ⟨⟨c1, d1, t1, s1⟩, n1, g1, k1, k2, k3⟩ := p1
  obtain ⟨⟨c2, d2, t2, s2⟩, n2, g2, k4, k5, k6⟩ := p2
  cases k1; cases k2; cases k3; cases k4; cases k5; cases k6
  have e1 := r1.length
  have e2 := r2.length
  refine concat_meets ⟨_, g1, rfl⟩ ⟨_, g2, rfl⟩ noFill_list_add seq_list_add F.slot_list_add F.entry_list_add (F.args_list_add_2 _ _)
    (addMeets l b its.toArray jts.toArray n1 n2 s1 s2 (by rw [List.size_toArray, List.size_toArray]; omega)) ⟨g1, g2, ?_⟩
  have ea : its.toArray ++ jts.toArray = (its ++ jts).toArray := by simp
  rw [ea]
  exact ⟨.ref _, _, I.lnew (t' := s.toks) (r1.append r2) (by rw [List.length_append]; omega), rfl, q _ I.fresh⟩
end
/-! ### enumerate(tuple) -/
theorem drawsT {prog : Program} {w : World} {A : Around} (hh : A.handled = none) (it l : Addr) (hne : l ≠ it) (its : Array Value) :
    Draws prog w A it [it, l] its.size (fun i v => its[i]? = some v) (fun i h => h.IsTupleIter it l i ∧ h.IsTuple l its) where
  live := fun _ _ st => by
    obtain ⟨⟨o, ho, _⟩, _⟩ := st
    exact ⟨o, ho⟩
  frame := fun _ _ _ st kp => ⟨st.1.at fun o e => kp it (by simp) o e, st.2.at fun o e => kp l (by simp) o e⟩
  item := fun i s Q E hi st hQ => by
    refine RZ.nextOf_tuple_item st.1 st.2 (x := its[i]) (by simp [hi]) fun h1 hit1 hs1 => ?_
    exact hQ _ h1 s.toks (by simp [hi]) ⟨hit1, st.2.extBut hs1.extBut hne⟩ hs1
  done := fun s Q E st hE => RZ.nextOf_tuple_end hh st.1 st.2 (by simp) hE
section
variable {prog : Program} {w : World} {A : Around} {E : Value → Shared → Prop} {s : Shared}
theorem callEnumT {l : Addr} {its : Array Value} {Q : Value → Shared → Prop} (hL : s.heap.IsTuple l its)
    (h : ∀ h', IsEnum h' (s.heap.objs.size + 1) s.heap.objs.size 0 .none → h'.IsTupleIter s.heap.objs.size l 0 → h'.IsTuple l its →
      (∀ b o, s.heap.get? b = some o → h'.get? b = some o) → Q (.ref (s.heap.objs.size + 1)) { s with heap := h' }) :
    wpAny (model prog w) A (call (.type "enumerate") [.ref l]) Q E s := by
  obtain ⟨⟨c, dct, dt, sl⟩, hl, hc, n, hd⟩ := id hL
  cases hc
  cases hd
  refine callType_new F.called_enumerate (by decide) (F.typeCall_enumerate_1 _) (F.newCall_enumerate_1 _) (fun obj => F.args_object_init_2 obj _) F.entry_enumerate_new
    (enumNewT l its n dct sl) ⟨hl, ?_⟩
  have hz : (s.heap.push { cls := .type "tuple_iterator", data := .fields #[.ref l, .int 0 0] }).objs.size = s.heap.objs.size + 1 := Heap.size_push ..
  show _ ∧ _
  rw [hz]
  have he : IsEnum ((s.heap.push { cls := .type "tuple_iterator", data := .fields #[.ref l, .int 0 0] }).push
      { cls := .type "enumerate", data := .fields #[.none, .bool false, .ref s.heap.objs.size, rawInt 0, .none, .none] }) (s.heap.objs.size + 1) s.heap.objs.size 0 .none := by
    have q := Heap.get?_push_size (s.heap.push { cls := .type "tuple_iterator", data := .fields #[.ref l, .int 0 0] })
      (o := { cls := .type "enumerate", data := .fields #[.none, .bool false, .ref s.heap.objs.size, rawInt 0, .none, .none] }) rfl
    rw [hz] at q
    exact q
  exact ⟨⟨_, he, rfl⟩, h _ he ⟨_, Heap.get?_push_of_some _ (Heap.get?_push_size _ (by rfl)), by rfl, by rfl⟩ ((hL.push _).push _) fun b o x => Heap.get?_push_of_some _ (Heap.get?_push_of_some _ x)⟩
end
/-- the tuple at a: each item in a new pair -/
def IteT (K : PySem.W.Frag) (a : Addr) : It where
  go := fun i H => ∃ (xs : List V) (x : V), SqT K H a xs ∧ xs[i]? = some x
  yld := fun i H v H' => ∃ T x, v = .ref T ∧ H T = none ∧ H' = upd H T (.tup [.int (i : Nat), x]) ∧ ∀ xs, SqT K H a xs → xs[i]? = some x
  stop := fun i H => ∃ xs : List V, SqT K H a xs ∧ xs.length = i
theorem turnEnumT {P : Program} {w : World} {K : PySem.W.Frag} {elts : List Expr} {kk : Nat} {tpos : Pos} (a e it : Addr) :
    Turn P w K (.Tuple elts kk tpos) (IteT K a) [e, it] e (fun i h => (∃ old, IsEnum h e it ((i : Nat) : Int) old) ∧ h.IsTupleIter it a i ∧ e ≠ it ∧ a ≠ it ∧ e ≠ a) where
  mem := by simp
  obj := fun i h st b hb => by
    obtain ⟨⟨old, he⟩, ⟨o, ho, hc, hd⟩, _⟩ := st
    rcases (show b = e ∨ b = it by simpa using hb) with z | z
    · subst z
      exact ⟨_, he, fun v q => nomatch q⟩
    · subst z
      exact ⟨o, ho, fun v q => by rw [hd] at q; cases q⟩
  keep := fun i h h' st k => by
    obtain ⟨⟨old, he⟩, hi, r⟩ := st
    exact ⟨⟨old, k e (by simp) _ he⟩, hi.at fun o q => k it (by simp) o q, r⟩
  item := by
    intro X hP hw hK hc i pins s σ H E I hf st hg
    subst hP hw hK
    obtain ⟨⟨old, he⟩, hit, hne, hai, hea⟩ := st
    obtain ⟨xs, x, hq, hx⟩ := hg
    obtain ⟨its, rv, p, hz⟩ := I.tuple hq
    obtain ⟨u, hu, ru⟩ := rv.get hx
    have el : e < s.heap.objs.size := Heap.lt_size he
    have il : it < s.heap.objs.size := by
      obtain ⟨_, q, _⟩ := hit
      exact Heap.lt_size q
    have hlt : i < its.toArray.size := by
      have := (List.getElem?_eq_some_iff.mp hu).1
      simpa using this
    refine wpAny_pyNext_enum_itemD (drawsT (A := X.A.in1) (I.ok.hd hc) it a hai its.toArray) he ⟨hit, p⟩ hlt hne (by simp; exact ⟨hne, hea⟩) fun y h' tk hy ho st' hT hsz hk => ?_
    obtain rfl : y = u := by
      have q : its.toArray[i]? = some u := by simpa using hu
      rw [q] at hy
      exact (Option.some.inj hy).symm
    refine ⟨_, rfl, wpAny_letOwnedTupleGo_enum (s := { s with heap := h', toks := tk + 1 }) ho fun h2 he2 sb => ?_⟩
    have hT2 : h2.get? s.heap.objs.size = some { cls := .type "tuple", data := .seq #[.int i tk, y] } := (sb.2 _ (Nat.ne_of_gt el)).trans hT
    have new : ObjOk X.prog X.w (upd H s.heap.objs.size (.tup [.int (i : Nat), x])) h2 s.heap.objs.size (.tup [.int (i : Nat), x]) :=
      ⟨by show 2 ≤ sizeLine; decide, [.int i tk, y], .cons ⟨_, rfl⟩ (.cons ru .nil), ⟨_, hT2, rfl, _, rfl⟩⟩
    have I1 : Inv X pins σ (upd H s.heap.objs.size (.tup [.int (i : Nat), x])) { s with heap := h2, toks := tk + 1 } :=
      I.turnedNew (ch := [e, it]) (fun b ob hb q => (sb.2 b (fun z => hb (by simp [z]))).trans (hk b ob (fun z => hb (by simp [z])) (fun z => hb (by simp [z])) q)) hf (Nat.le_refl _) new
    refine ⟨.ref s.heap.objs.size, _, I1, rfl, ⟨_, x, rfl, I.hok.fresh (Nat.le_refl _), rfl, fun ys hy2 => by rw [I.tuple_inj hy2 hq]; exact hx⟩, ⟨⟨y, ?_⟩, st'.1.at fun o q => (sb.2 it (Ne.symm hne)).trans q, hne, hai, hea⟩, fun b hb => ?_⟩
    · have e1 : ((i + 1 : Nat) : Int) = (i : Int) + 1 := by omega
      rw [e1]
      exact he2
    · have hb2 : b < s.heap.objs.size := by
        rcases (show b = e ∨ b = it by simpa using hb) with z | z
        · rw [z]; exact el
        · rw [z]; exact il
      rw [upd_ne (Nat.ne_of_lt hb2)]
      exact (hf b hb).1
  done := by
    intro X hP hw hK hc i pins s σ H E I hf st hg
    subst hP hw hK
    obtain ⟨⟨old, he⟩, hit, hne, hai, hea⟩ := st
    obtain ⟨xs, hq, hx⟩ := hg
    obtain ⟨its, rv, p, hz⟩ := I.tuple hq
    obtain ⟨f0, f1, f2, f3, f4, f5⟩ := hf it (by simp)
    have hl := rv.length
    have hiEq : i = its.toArray.size := by
      rw [List.size_toArray]
      omega
    subst hiEq
    exact wpAny_pyNext_enum_endD (drawsT (A := X.A.in1) (I.ok.hd hc) it a hai its.toArray) he ⟨hit, p⟩ fun h' eb => ⟨rfl, I.turned (t' := s.toks) (fun b o hb q => eb b o hb q) f0 f1 f3 f4 f5⟩
  self := fun A i s Q E st h => by
    obtain ⟨⟨_, he⟩, _⟩ := st
    exact wpAny_pyIter_enum he h
def iEnumT (K : PySem.W.Frag) (ta : TA) : TI := fun σ H R => ta σ H fun vs H1 => ∃ a xs, vs = [.ref a] ∧ SqT K H1 a xs ∧ R (IteT K a) H1
theorem pi_enumT {X : Cx} {e : Expr} {ta : TA} {p pos tpos : Pos} {elts : List Expr} {kk : Nat} (hg : Gl X "enumerate") (hm : X.mg "enumerate" = none) (ha : PA X [e] ta) (hs : starEach [e] X.env = [(false, eval e X.env)] := by rfl) :
    PI X (.Tuple elts kk tpos) (.Call (.Name "enumerate" p) [e] [] pos) (iEnumT X.K ta) := by
  refine ⟨fun pins s σ H R I h => ?_⟩
  refine Call_ (ld_blt I hg hm boot_enumerate (PyProof.Rows.callWith_type1 (thn (ha.run pos pins s σ H _ I h) fun us s1 ⟨vs, H1, I1, r1, a, xs, ex, hq, q⟩ => ?_) hs rfl))
  subst ex
  cases r1 with
  | cons r rr =>
    cases rr
    cases r
    obtain ⟨its, rv, p1, hz⟩ := I1.tuple hq
    refine callEnumT p1 fun h1 he hit hT hk => wpAny_pyIter_enum he ?_
    have al : a < s1.heap.objs.size := by
      obtain ⟨o, ho, _⟩ := p1
      exact Heap.lt_size ho
    have I2 : Inv X pins σ H1 { s1 with heap := h1 } := I1.kept (t' := s1.toks) hk
    refine ⟨s1.heap.objs.size + 1, [s1.heap.objs.size + 1, s1.heap.objs.size], _, _, H1, rfl, I2, turnEnumT a (s1.heap.objs.size + 1) s1.heap.objs.size, ⟨⟨.none, he⟩, hit, Nat.succ_ne_self _, Nat.ne_of_lt al, Nat.ne_of_gt (Nat.lt_succ_of_lt al)⟩, fun b hb => ?_, q⟩
    have le : s1.heap.objs.size ≤ b := by
      rcases (show b = s1.heap.objs.size + 1 ∨ b = s1.heap.objs.size by simpa using hb) with z | z
      · rw [z]
        exact Nat.le_succ _
      · rw [z]
        exact Nat.le_refl _
    exact I1.fpOk le (I1.hok.fresh le)
/-- the loop's bookkeeping: the pair is a new tuple at T -/
theorem for_enumT {K : PySem.W.Frag} {a : Addr} {xs : List V} {g : TG} {tb : TS} {D : Ends} {σ : L2.St} {H : Hp} (Pv : Nat → L2.St → Hp → Prop) (h0 : Pv 0 σ H) (hl : ∀ i σ H, i ≤ xs.length → Pv i σ H → SqT K H a xs)
    (hs : ∀ i x T σ H, xs[i]? = some x → Pv i σ H → H T = none → g (.ref T) σ (upd H T (.tup [.int (i : Nat), x])) fun σ2 H2 => tb { D with nx := Pv (i + 1), ct := Pv (i + 1), bk := D.nx } σ2 H2) (hd : ∀ σ H, Pv xs.length σ H → D.nx σ H) :
    ∃ W : Nat → Nat → L2.St → Hp → Prop, (∃ m, W 0 m σ H) ∧ ∀ i m σ H, W i m σ H →
      ((IteT K a).stop i H ∧ D.nx σ H) ∨ ((IteT K a).go i H ∧ ∃ N : L2.St → Hp → Prop, (∀ σ' H', N σ' H' → ∃ m', m' < m ∧ W (i + 1) m' σ' H') ∧ ∀ x H', (IteT K a).yld i H x H' → g x σ H' fun σ2 H2 => tb { D with nx := N, ct := N, bk := D.nx } σ2 H2) := by
  refine ⟨fun i m σ H => m = xs.length - i ∧ i ≤ xs.length ∧ Pv i σ H, ⟨xs.length, by simp, Nat.zero_le _, h0⟩, ?_⟩
  rintro i m σ1 H1 ⟨rfl, hi, p⟩
  by_cases e : i = xs.length
  · subst e
    exact .inl ⟨⟨xs, hl _ _ _ hi p, rfl⟩, hd _ _ p⟩
  · have lt : i < xs.length := by omega
    have ge : xs[i]? = some xs[i] := List.getElem?_eq_getElem lt
    refine .inr ⟨⟨xs, xs[i], hl _ _ _ hi p, ge⟩, Pv (i + 1), fun σ2 H2 q => ⟨xs.length - (i + 1), by omega, rfl, by omega, q⟩, ?_⟩
    rintro x H2 ⟨T, y, rfl, hT, rfl, hy⟩
    have q := hy xs (hl _ _ _ hi p)
    exact hs i y T σ1 H1 q p hT
/-! ### f(k = v, ..): keywords alone -/
theorem pe_callN0 {X : Cx} {CX : CXT} {k : Nat} {f : Addr} {fd : FuncData} {ps ks : List Str} {sp : Sp} {E : XK} {x : Str} {p pos : Pos} {kws : List Keyword} {tk : TA} {g : List Value → List Value → List Value} {gV : List V → List V → List V}
    (F : FnOk X.prog X.w X.K X.mg X.base CX k f fd ps sp) (hr : Room k X.A) (hg : Gl X x) (hm : X.mg x = some (.ref f)) (hk : PySem.W.keepIn X.K (.ref f) = true) (hb : KBn X.K fd ps 0 ks g gV) (hx : Passes CX X E) (hkw : PK X kws tk)
    (hall : (backToKw pos (keywordEach kws X.env)).all (·.1.isSome) = true := by rfl) (hks : (backToKw pos (keywordEach kws X.env)).filterMap (·.1) = ks := by rfl) (hdb : (x == ("__debug__" : Str)) = false := by decide)
    (hpl : ((backTo pos (starEach [] X.env)).any (·.1) || (backToKw pos (keywordEach kws X.env)).any (·.1.isNone)) = false := by rfl) :
    PE X (.Call (.Name x p) [] kws pos) (tCallN 0 ks.length sp gV E tNil tk) := by
  refine ⟨fun pins s σ H Q I h => ?_⟩
  refine wpAny_Call_Name_kw (ld_glob I hg hm ?_ hdb)
  refine PySem.W.callWith_KW0 (h₀ := X.base) I.ok.mod.kin hk hall (thn (hkw.run pos pins s σ H _ I h) fun ws s2 ⟨zs, H2, I2, rz, l1, l2, q2⟩ => ⟨I2.kIn, ?_⟩) hpl
  rw [hks]
  exact run_fnN (us := []) (vs := []) F hr hb hx I2 .nil rz rfl l2 q2
/-! ### isinstance's answers -/
theorem kit_self {K : PySem.W.Frag} {t : Value} (h : (t == t) = true) : PySem.W.kitOne K t t = some true := by
  unfold PySem.W.kitOne
  rw [if_pos h]
theorem kit_cls {K : PySem.W.Frag} {A C : Addr} {b : Bool} (h1 : PySem.W.isClsIn K C = true) (h2 : PySem.W.typeIn K (.ref C) = some (.type "type")) (h3 : PySem.W.subIn K (.ref A) (.ref C) = some b) (ne : (Value.ref A == Value.ref C) = false) :
    PySem.W.kitOne K (.ref A) (.ref C) = some b := by
  unfold PySem.W.kitOne
  rw [if_neg (by rw [ne]; exact Bool.false_ne_true)]
  show (if ((PySem.W.clsIn K C).isSome && PySem.W.typeIn K (.ref C) == some (.type "type")) = true then PySem.W.subIn K (.ref A) (.ref C) else none) = some b
  have h1' : (PySem.W.clsIn K C).isSome = true := h1
  rw [h1', h2, if_pos (by rfl)]
  exact h3
/-! ### lists of things that stand in the heap -/
def A2 {α : Type} (R : V → α → Prop) : List V → List α → Prop
  | [], [] => True
  | v :: vs, d :: ds => R v d ∧ A2 R vs ds
  | _, _ => False
section
variable {α : Type} {R S : V → α → Prop}
theorem A2.len : ∀ {vs : List V} {ds : List α}, A2 R vs ds → vs.length = ds.length
  | [], [], _ => rfl
  | _ :: _, _ :: _, h => congrArg (· + 1) (A2.len h.2)
  | [], _ :: _, h => h.elim
  | _ :: _, [], h => h.elim
theorem A2.mono (f : ∀ v d, R v d → S v d) : ∀ {vs : List V} {ds : List α}, A2 R vs ds → A2 S vs ds
  | [], [], _ => trivial
  | _ :: _, _ :: _, h => ⟨f _ _ h.1, A2.mono f h.2⟩
  | [], _ :: _, h => h.elim
  | _ :: _, [], h => h.elim
theorem A2.get : ∀ {vs : List V} {ds : List α} {i : Nat} {v : V}, A2 R vs ds → vs[i]? = some v → ∃ d, ds[i]? = some d ∧ R v d
  | [], [], i, v, _, e => by simp at e
  | w :: _, d :: _, 0, v, h, e => by
    have : w = v := by simpa using e
    exact ⟨d, rfl, this ▸ h.1⟩
  | _ :: _, _ :: _, i + 1, v, h, e => by
    obtain ⟨d, e1, r⟩ := A2.get (i := i) h.2 (by simpa using e)
    exact ⟨d, by simpa using e1, r⟩
  | [], _ :: _, _, _, h, _ => h.elim
  | _ :: _, [], _, _, h, _ => h.elim
theorem A2.app : ∀ {vs ws : List V} {ds es : List α}, A2 R vs ds → A2 R ws es → A2 R (vs ++ ws) (ds ++ es)
  | [], _, [], _, _, k => k
  | _ :: _, _, _ :: _, _, h, k => ⟨h.1, A2.app h.2 k⟩
  | [], _, _ :: _, _, h, _ => h.elim
  | _ :: _, _, [], _, h, _ => h.elim
theorem A2.take : ∀ {vs : List V} {ds : List α} (n : Nat), A2 R vs ds → A2 R (vs.take n) (ds.take n)
  | vs, ds, 0, _ => by simp [A2]
  | [], [], n + 1, _ => trivial
  | _ :: _, _ :: _, n + 1, h => ⟨h.1, A2.take n h.2⟩
  | [], _ :: _, _ + 1, h => h.elim
  | _ :: _, [], _ + 1, h => h.elim
theorem A2.drop : ∀ {vs : List V} {ds : List α} (n : Nat), A2 R vs ds → A2 R (vs.drop n) (ds.drop n)
  | vs, ds, 0, h => by simpa using h
  | [], [], n + 1, _ => trivial
  | _ :: _, _ :: _, n + 1, h => A2.drop n h.2
  | [], _ :: _, _ + 1, h => h.elim
  | _ :: _, [], _ + 1, h => h.elim
end
/-! ### heaps -/
/-- all that was tracked, but what stands at w, is as it was -/
def Fr (w : Addr) (H H' : Hp) : Prop := ∀ b o, b ≠ w → H b = some o → H' b = some o
theorem Fr.refl (w : Addr) (H : Hp) : Fr w H H := fun _ _ _ h => h
theorem Fr.trans {w : Addr} {H H1 H2 : Hp} (a : Fr w H H1) (b : Fr w H1 H2) : Fr w H H2 := fun c o n h => b c o n (a c o n h)
theorem Fr.of {w : Addr} {H H1 : Hp} (a : Same H H1) : Fr w H H1 := fun b o _ h => a b o h
theorem Fr.sqL {K : PySem.W.Frag} {w : Addr} {H H' : Hp} {a : Addr} {xs : List V} (e : Fr w H H') (n : a ≠ w) (h : SqL K H a xs) : SqL K H' a xs := by
  rcases h with h | h
  · refine Or.inl ?_
    rcases h with h | ⟨o, h⟩
    · exact Or.inl (e a _ n h)
    · exact Or.inr ⟨o, e a _ n h⟩
  · exact Or.inr h
theorem Fr.sqT {K : PySem.W.Frag} {w : Addr} {H H' : Hp} {a : Addr} {xs : List V} (e : Fr w H H') (n : a ≠ w) (h : SqT K H a xs) : SqT K H' a xs := by
  rcases h with h | h
  · refine Or.inl ?_
    rcases h with h | ⟨o, h⟩
    · exact Or.inl (e a _ n h)
    · exact Or.inr ⟨o, e a _ n h⟩
  · exact Or.inr h
theorem sameT {K : PySem.W.Frag} {H H' : Hp} {a : Addr} {xs : List V} (e : Same H H') (h : SqT K H a xs) : SqT K H' a xs := by
  rcases h with h | h
  · refine Or.inl ?_
    rcases h with h | ⟨o, h⟩
    · exact Or.inl (e a _ h)
    · exact Or.inr ⟨o, e a _ h⟩
  · exact Or.inr h
theorem same_new {H : Hp} {p : Addr} {o : HO} (h : H p = none) : Same H (upd H p o) := fun b u e => by
  rw [upd_ne (ne_of_none e h)]
  exact e
theorem same_mut {H H' : Hp} {p : Addr} {o : HO} (e : Same H H') (h : H p = none) : Same H (upd H' p o) := fun b u ha => by
  rw [upd_ne (ne_of_none ha h)]
  exact e b u ha
theorem fr_mut {w : Addr} {H H' : Hp} {o : HO} (e : Fr w H H') : Fr w H (upd H' w o) := fun b u n h => by
  rw [upd_ne n]
  exact e b u n h
theorem fr_new {w : Addr} {H H' : Hp} {p : Addr} {o : HO} (e : Fr w H H') (h : H p = none) : Fr w H (upd H' p o) := fun b u n ha => by
  rw [upd_ne (ne_of_none ha h)]
  exact e b u n ha
theorem fr_free {w : Addr} {H H' : Hp} {p : Addr} (e : Fr w H H') (n : p ≠ w) (h : H' p = none) : H p = none := by
  cases z : H p with
  | none => rfl
  | some o =>
    rw [e p o n z] at h
    cases h
/-- ints as values -/
abbrev vi (l : List Int) : List V := l.map V.int
theorem vi_get {l : List Int} {i : Nat} {y : V} (h : (vi l)[i]? = some y) : ∃ z, l[i]? = some z ∧ y = .int z := by
  rw [List.getElem?_map] at h
  cases e : l[i]? with
  | none =>
    rw [e] at h
    cases h
  | some z =>
    rw [e] at h
    exact ⟨z, rfl, (Option.some.inj h).symm⟩
theorem vi_at {l : List Int} {i : Nat} (h : i < l.length) : atI (vi l) (i : Int) = some (.int (l.getD i 0)) := by
  refine atI_nat ?_
  rw [List.getElem?_map, List.getElem?_eq_getElem h, List.getD_eq_getElem?_getD, List.getElem?_eq_getElem h]
  rfl
end KpR

namespace KpR
open PySem PySem.Spec PyProof.Rows L2
section
variable {prog : Program} {w : World} {A : Around} {E : Value → Shared → Prop} {s : Shared} {K : PySem.W.Frag} {x C f : Addr} {ox : Obj} {od : Option Obj}
theorem dec_tup {l : Addr} {its : Array Value} {n : Nat} {dd : Option Addr} {sl : Array (Option Value)} {Q : Value → Shared → Prop} (hl : s.heap.get? l = some { cls := .type "tuple", dict := dd, data := .seq its n, slots := sl })
    (hx : s.heap.get? x = some ox) (hc : ox.cls = .ref C) (hs : PySem.W.Looks (model prog w) s.heap (isSubtype (.ref C) (.type "tuple")) false) (q : Q .notImplemented s) :
    wpAny (model prog w) A (call (.builtin "tuple.__eq__") [.ref l, .ref x]) Q E s := by
  refine GQ.call_here F.slot_tuple_eq ⟨_, hl, rfl⟩ F.entry_tuple_eq (F.args_tuple_eq_2 _ _) ?_
  obtain ⟨hp, g, d, tk, os⟩ := s
  wp_walk using PySem.AutoSeq1.wpAny_loadPart' hx
  rw [hc]
  refine hs.at ?_
  wp_walk
  exact q
theorem dec_int {i : Int} {t : Tok} {Q : Value → Shared → Prop}
    (hx : s.heap.get? x = some ox) (hd : ∀ p, ox.data ≠ .prim p) (q : Q .notImplemented s) :
    wpAny (model prog w) A (call (.builtin "int.__eq__") [.int i t, .ref x]) Q E s := by
  refine GQ.call_here F.slot_int_eq (typeIs_int s i t) F.entry_int_eq (F.args_int_eq_2 _ _) ?_
  obtain ⟨hp, g, d, tk, os⟩ := s
  wp_walk using PySem.AutoSeq1.wpAny_loadPart' hx, wpAny_load hx
  split
  · rename_i i' t' e
    exact absurd e (hd _)
  · wp_walk
    exact q
theorem dec_non {Q : Value → Shared → Prop} (q : Q .notImplemented s) :
    wpAny (model prog w) A (call (.builtin "NoneType.__eq__") [.none, .ref x]) Q E s :=
  call_gives F.slot_NoneType_eq rfl F.entry_NoneType_eq (F.args_NoneType_eq_2 _ _) (SeqAt.NoneType___eq___none_ref_0 x) q
/-- a value that declines, then the own == of the other side -/
theorem rc_behind {v : Value} {T id : String} {Q : Value → Shared → Prop} (tv : s.TypeIs v T) (X : K.In s.heap) (I : PySem.W.InstAt s.heap x ox C od) (hsub : PySem.W.subIn K (.ref C) (.type T) = some false)
    (h1 : Slot T "__eq__" id) (dec : ∀ Q' : Value → Shared → Prop, Q' .notImplemented s → wpAny (model prog w) A (call (.builtin id) [v, .ref x]) Q' E s) (hs : PySem.W.findIn K (.ref C) "__eq__" = some (some (.ref f))) (hf : PySem.W.isFn K (.ref f) = true)
    (hu : A.units < cLine) (h : wpAny (model prog w) A (call (.ref f) [.ref x, v]) (PySem.W.CmpBack Q) E s) : wpAny (model prog w) A (richCompare .Eq v (.ref x)) Q E s := by
  have one : wpAny (model prog w) A (tryCompare (.ref x) "__eq__" v) (fun r s' => ∃ z, r = some z ∧ Q z s') E s := by
    unfold tryCompare
    refine wpAny_bind (PySem.W.ifBound_K X I hs hf (wpAny_mono h (fun z s' hz => ?_) fun _ _ e => e))
    cases z with
    | notImplemented => exact False.elim hz
    | _ => exact wpAny_pure ⟨_, rfl, hz⟩
  have nz : (Value.type T != Value.ref C) = true := rfl
  simp only [richCompare, cmpInfo_Eq, tv.oneThing_none]
  refine wpAny_holding (wpAny_bind (wpAny_cRoomFor hu ?_))
  refine wpAny_bind (wpAny_typeOf tv (wpAny_bind (I.type.here ?_)))
  rw [if_pos nz]
  refine wpAny_bind ((PySem.W.looks_subIn X hsub).here ?_)
  rw [if_neg Bool.false_ne_true]
  refine wpAny_bind (m := tryCompare v _ (.ref x)) (wpAny_tryCompare_declines tv h1 (dec _ ⟨rfl, ?_⟩))
  rw [if_pos (show (!false) = true from rfl)]
  refine wpAny_bind (m := tryCompare (.ref x) _ v) (wpAny_mono one (fun r s' z => ?_) fun _ _ e => e)
  obtain ⟨z, rfl, hq⟩ := z
  exact wpAny_pure hq
end
/-- an own == that answers b where R says so, and only makes objects -/
def spEqB (R : Addr → V → Bool → Hp → Prop) : Sp := fun vs H Q _ => ∃ a y b, vs = [.ref a, y] ∧ R a y b H ∧ ∀ H', Ext H H' → Q (.bl b) H'
/-- either answer, by the abstract heap -/
abbrev EqvB := V → V → Bool → Hp → Prop
def EqB (X : Cx) (n : Nat) (D : EqvB) : Prop :=
  ∀ (B : Around) (pins : List (Addr × Obj)) (s : Shared) (σ : L2.St) (H : Hp) (x y : V) (b : Bool) (u v : Value), Sub X n B → Inv X pins σ H s → RelV x u → RelV y v → D x y b H →
    wpAny (model X.prog X.w) B (eqBool u v) (fun r s' => r = b ∧ LoopI X pins σ H s') X.xe s
def RcB (X : Cx) (n : Nat) (D : EqvB) : Prop :=
  ∀ (B : Around) (pins : List (Addr × Obj)) (s : Shared) (σ : L2.St) (H : Hp) (x y : V) (b : Bool) (u v : Value), Sub X n B → Inv X pins σ H s → RelV x u → RelV y v → D x y b H →
    wpAny (model X.prog X.w) B (richCompare .Eq u v) (fun r s' => r = .bool b ∧ LoopI X pins σ H s') X.xe s
/-- what the written part says of a class with an own == -/
structure EqCls (K : PySem.W.Frag) (C f : Addr) : Prop where
  hs : PySem.W.findIn K (.ref C) "__eq__" = some (some (.ref f))
  hf : PySem.W.isFn K (.ref f) = true
/-- both are instances, the second of no class below the first one's -/
def DInsB (K : PySem.W.Frag) (C : Addr) (R : Addr → V → Bool → Hp → Prop) : EqvB := fun x y b H => ∃ a c C' dx dy fs gs, x = .ref a ∧ y = .ref c ∧ H a = some (.ins C dx fs) ∧ H c = some (.ins C' dy gs) ∧ PySem.W.notFirst K C (.ref C') = true ∧ R a (.ref c) b H
/-- the first one is none of the class -/
inductive Alien (K : PySem.W.Frag) (C : Addr) (H : Hp) : V → Prop
  | non (h : PySem.W.subIn K (.ref C) (.type "NoneType") = some false) : Alien K C H .non
  | int {i : Int} (h : PySem.W.subIn K (.ref C) (.type "int") = some false) : Alien K C H (.int i)
  | tup {a : Addr} {xs : List V} (h : PySem.W.subIn K (.ref C) (.type "tuple") = some false) (e : H a = some (.tup xs)) : Alien K C H (.ref a)
  | lst {a : Addr} {xs : List V} (h : PySem.W.subIn K (.ref C) (.type "list") = some false) (e : H a = some (.lst xs)) : Alien K C H (.ref a)
def DBehB (K : PySem.W.Frag) (C : Addr) (R : Addr → V → Bool → Hp → Prop) : EqvB := fun x y b H => ∃ a dx fs, y = .ref a ∧ H a = some (.ins C dx fs) ∧ Alien K C H x ∧ R a x b H
section
variable {prog : Program} {w : World} {A : Around} {E : Value → Shared → Prop} {s : Shared} {x C : Addr} {ox : Obj}
theorem dec_lst {l : Addr} {its : Array Value} {n : Nat} {dd : Option Addr} {sl : Array (Option Value)} {Q : Value → Shared → Prop} (hl : s.heap.get? l = some { cls := .type "list", dict := dd, data := .seq its n, slots := sl })
    (hx : s.heap.get? x = some ox) (hc : ox.cls = .ref C) (hs : PySem.W.Looks (model prog w) s.heap (isSubtype (.ref C) (.type "list")) false) (q : Q .notImplemented s) :
    wpAny (model prog w) A (call (.builtin "list.__eq__") [.ref l, .ref x]) Q E s := by
  refine GQ.call_here F.slot_list_eq ⟨_, hl, rfl⟩ F.entry_list_eq (F.args_list_eq_2 _ _) ?_
  obtain ⟨hp, g, d, tk, os⟩ := s
  wp_walk using PySem.AutoSeq1.wpAny_loadPart' hx
  rw [hc]
  refine hs.at ?_
  wp_walk
  exact q
end
section
variable {X : Cx} {CX : CXT} {n : Nat} {C f : Addr} {fd : FuncData} {ps : List Str} {R : Addr → V → Bool → Hp → Prop} {E : XK} {pins : List (Addr × Obj)} {σ : L2.St} {H : Hp} {s : Shared} {B : Around}
theorem own_runB (G : FnOk X.prog X.w X.K X.mg X.base CX n f fd ps (spEqB R)) (hb : Binds X.K fd ps []) (hx : Passes CX X E) (sb : Sub X n B) (I : Inv X pins σ H s) {a : Addr} {y : V} {v : Value} {b : Bool} (ry : RelV y v) (hr : R a y b H) :
    wpAny (model X.prog X.w) B (call (.ref f) [.ref a, v]) (PySem.W.CmpBack fun r s' => r = .bool b ∧ LoopI X pins σ H s') X.xe s := by
  have sp1 : spEqB R [.ref a, y] H (fun z H' => z = .bl b ∧ Ext H H') E := ⟨a, y, b, rfl, hr, fun H' e => ⟨rfl, e⟩⟩
  have e0 := I.env0
  have ln := G.len _ _ _ _ sp1
  have vals : Vals [V.ref a, y] [Value.ref a, v] := .cons rfl (.cons ry .nil)
  have f0 : Env0 X.prog X.w X.K X.mg X.base B X.stack s H := ⟨by rw [sb.fr]; exact e0.frames, e0.mod, e0.bs, e0.bsz, e0.funs, e0.frf, e0.hok, e0.bare⟩
  have bd := hb s [.ref a, v] I.kIn (by simpa using ln)
  refine wpAny_call (codeAny_mono (G.run B X.stack s H ⟨[.ref a, v], []⟩ [.ref a, v] [.ref a, y] _ E sb.room f0 (by simpa using bd) vals sp1) fun r s1 hq1 => ?_)
  cases r with
  | error e => exact hx pins σ H s e s1 I hq1
  | ok fl =>
    cases fl with
    | ret w1 =>
      obtain ⟨z, H1, I1, rz, ez, ex⟩ := I.after hq1
      subst ez
      cases rz
      exact ⟨rfl, H1, I1, ex⟩
    | next => exact False.elim hq1
    | brk => exact False.elim hq1
    | cont => exact False.elim hq1
theorem rcB_ins (hc : EqCls X.K C f) (G : FnOk X.prog X.w X.K X.mg X.base CX n f fd ps (spEqB R)) (hb : Binds X.K fd ps []) (hx : Passes CX X E) : RcB X n (DInsB X.K C R) := by
  intro B pins s σ H x y b u v sb I rx ry hd
  obtain ⟨a, c, C', dx, dy, fs, gs, rfl, rfl, ha, hc1, nf, hr⟩ := hd
  cases rx
  cases ry
  obtain ⟨mA, J, _⟩ := ins_get I.hok ha
  obtain ⟨mC, J1, _⟩ := ins_get I.hok hc1
  obtain ⟨od, J, _⟩ := J.look
  obtain ⟨od1, J1, _⟩ := J1.look
  obtain ⟨m, hF⟩ := I.fr
  exact PySem.W.cmp_K (op := .Eq) (tb := .ref C') sb.room.units0 hF I.ok.mod.kin J J1.type nf hc.hs hc.hf (own_runB (y := .ref c) (v := .ref c) G hb hx sb I rfl hr)
theorem rcB_beh (hc : EqCls X.K C f) (G : FnOk X.prog X.w X.K X.mg X.base CX n f fd ps (spEqB R)) (hb : Binds X.K fd ps []) (hx : Passes CX X E) : RcB X n (DBehB X.K C R) := by
  intro B pins s σ H x y b u v sb I rx ry hd
  obtain ⟨a, dx, fs, rfl, ha, al, hr⟩ := hd
  cases ry
  obtain ⟨mA, J, _⟩ := ins_get I.hok ha
  obtain ⟨od, J, _⟩ := J.look
  have go := fun {v : Value} (rv : RelV x v) => own_runB G hb hx sb I rv hr
  cases al with
  | non h =>
    cases (show u = Value.none from rx)
    exact rc_behind rfl I.kIn J h F.slot_NoneType_eq (fun _ q => dec_non q) hc.hs hc.hf sb.room.units0 (go rfl)
  | int h =>
    obtain ⟨t, e⟩ := (show ∃ t, u = Value.int _ t from rx)
    cases e
    exact rc_behind (typeIs_int s _ t) I.kIn J h F.slot_int_eq (fun _ q => dec_int J.at_ (fun _ z => nomatch z) q) hc.hs hc.hf sb.room.units0 (go ⟨t, rfl⟩)
  | tup h e =>
    cases (show u = Value.ref _ from rx)
    obtain ⟨its, r, ⟨⟨cl, dd, dt, sl⟩, e1, e2, k, e3⟩, _⟩ := I.tuple (SqT.of e)
    simp only at e2 e3
    subst e2 e3
    exact rc_behind ⟨_, e1, rfl⟩ I.kIn J h F.slot_tuple_eq (fun _ q => dec_tup e1 J.at_ rfl (PySem.W.looks_subIn I.kIn h) q) hc.hs hc.hf sb.room.units0 (go rfl)
  | lst h e =>
    cases (show u = Value.ref _ from rx)
    obtain ⟨z, its, k, r, e1⟩ := I.hok _ _ e
    exact rc_behind ⟨_, e1, rfl⟩ I.kIn J h F.slot_list_eq (fun _ q => dec_lst e1 J.at_ rfl (PySem.W.looks_subIn I.kIn h) q) hc.hs hc.hf sb.room.units0 (go rfl)
end
section
variable {X : Cx} {n m : Nat} {D D' : EqvB}
theorem RcB.or (h : RcB X n D) (h' : RcB X n D') : RcB X n (fun x y b H => D x y b H ∨ D' x y b H) := fun B pins s σ H x y b u v sb I rx ry d =>
  d.elim (h B pins s σ H x y b u v sb I rx ry) (h' B pins s σ H x y b u v sb I rx ry)
theorem EqB.or (h : EqB X n D) (h' : EqB X n D') : EqB X n (fun x y b H => D x y b H ∨ D' x y b H) := fun B pins s σ H x y b u v sb I rx ry d =>
  d.elim (h B pins s σ H x y b u v sb I rx ry) (h' B pins s σ H x y b u v sb I rx ry)
theorem RcB.mono (h : RcB X n D) (k : n ≤ m) : RcB X m D := fun B pins s σ H x y b u v sb => h B pins s σ H x y b u v (sb.mono k)
/-- inside a list or a tuple: the same object is itself -/
theorem RcB.eqB (h : RcB X n D) (hr : ∀ x y b H, D x y b H → (∃ c, x = .ref c ∧ ∃ a, y = .ref a ∧ (c = a → b = true)) ∨ ((x = .non ∨ ∃ i, x = .int i) ∧ ∃ a, y = .ref a)) : EqB X n D := by
  intro B pins s σ H x y b u v sb I rx ry d
  have go : u ≠ v → (∀ p q, ¬ (u = .float p q)) → wpAny (model X.prog X.w) B (eqBool u v) (fun r s' => r = b ∧ LoopI X pins σ H s') X.xe s := by
    intro ne nf
    unfold eqBool
    refine wpAny_holding ?_
    refine wpAny_ite_split (fun e => absurd (eq_of_beq e) ne) (fun _ => ?_)
    have k := h B pins s σ H x y b u v sb I rx ry d
    have k2 : wpAny (model X.prog X.w) B (do truthOfDropped (← richCompare .Eq u v)) (fun r s' => r = b ∧ LoopI X pins σ H s') X.xe s := by
      refine wpAny_bind (wpAny_mono k (fun z s' q => ?_) fun _ _ e => e)
      obtain ⟨rfl, q⟩ := q
      exact wpAny_truthy_bool ⟨rfl, q⟩
    cases u with
    | float p q => exact absurd rfl (nf p q)
    | _ => exact k2
  rcases hr x y b H d with ⟨c, rfl, a, rfl, q⟩ | ⟨hx, a, rfl⟩
  · cases (show u = Value.ref c from rx)
    cases (show v = Value.ref a from ry)
    by_cases e : c = a
    · have eb := q e
      subst e
      subst eb
      exact SeqAt.EqAt.same (A := B) (s := s) (.ref c) X.prog X.w X.xe _ ⟨rfl, H, I, Ext.rfl'⟩
    · exact go (fun z => e (Value.ref.inj z)) (fun _ _ z => nomatch z)
  · cases (show v = Value.ref a from ry)
    rcases hx with rfl | ⟨i, rfl⟩
    · cases (show u = Value.none from rx)
      exact go (fun z => nomatch z) (fun _ _ z => nomatch z)
    · obtain ⟨t, e⟩ := (show ∃ t, u = Value.int i t from rx)
      cases e
      exact go (fun z => nomatch z) (fun _ _ z => nomatch z)
/-- x == y -/
def rEqB (D : EqvB) : R2 := fun x y H Q => ∃ b, D x y b H ∧ ∀ H', Ext H H' → Q (.bl b) H'
theorem op_eqB (h : RcB X n D) (hr : Room n X.A) : OpR X (compareOp .Eq) (rEqB D) := by
  intro pins s σ H x y v u Q I rx ry hq
  obtain ⟨b, d, q⟩ := hq
  show wpAny (model X.prog X.w) X.A (richCompare .Eq v u) (EP X pins σ Q) X.xe s
  refine wpAny_mono (h X.A pins s σ H x y b v u ⟨hr, rfl⟩ I rx ry d) (fun r s1 z => ?_) fun _ _ e => e
  obtain ⟨rfl, H1, I1, e⟩ := z
  exact ⟨.bl b, H1, I1, rfl, q H1 e⟩
/-- x in a list none of whose items is equal to it -/
def rOutB (D : EqvB) : R2 := fun x y H Q => ∃ l ys, y = .ref l ∧ (∀ H', Ext H H' → H' l = some (.lst ys)) ∧ (∀ z, z ∈ ys → ∀ H', Ext H H' → D z x false H') ∧ ∀ H', Ext H H' → Q (.bl false) H'
theorem has_none (h : EqB X n D) {B : Around} (sb : Sub X (n + 1) B) {pins : List (Addr × Obj)} {σ : L2.St} {H : Hp} {x : V} {v : Value} {l : Addr} {ys : List V} (rx : RelV x v) (hl : ∀ H', Ext H H' → H' l = some (.lst ys)) (hd : ∀ z, z ∈ ys → ∀ H', Ext H H' → D z x false H')
    {Q : Value → Shared → Prop} (fin : ∀ s', LoopI X pins σ H s' → Q (.bool false) s') (k : Nat) : ∀ i : Nat, ys.length - i = k → ∀ s, LoopI X pins σ H s →
      wpAny (model X.prog X.w) B.in1 (Builtin.«list.__contains__.loop» ⟨[.ref l, v, rawInt i], []⟩) (GQ.FinOf X.prog X.w B (wants Q X.xe)) (fun e s' => wants Q X.xe (.error e) s') s := by
  induction k with
  | zero =>
    intro i hi s hs
    obtain ⟨H1, I1, e1⟩ := id hs
    obtain ⟨z, its, kk, r, eo⟩ := I1.hok _ _ (hl H1 e1)
    have out := fin s hs
    have no : its.toArray[((i : Nat) : Int).toNat]? = none := by
      have q := r.length
      simp
      omega
    obtain ⟨hp, g, d, tk, os⟩ := s
    wp_walk using PySem.AutoSeq1.wpAny_loadPart' eo
    rw [no]
    wp_walk
    exact out
  | succ k ih =>
    intro i hi s hs
    obtain ⟨H1, I1, e1⟩ := id hs
    obtain ⟨z, its, kk, r, eo⟩ := I1.hok _ _ (hl H1 e1)
    have lt : i < ys.length := by omega
    have lt2 : i < its.length := by rw [← r.length] <;> exact lt
    have so : its.toArray[((i : Nat) : Int).toNat]? = some its[i] := by simp [lt2]
    obtain ⟨u, hu, ru⟩ := r.get (List.getElem?_eq_getElem lt)
    have eu : its[i] = u := by
      rw [List.getElem?_eq_getElem lt2] at hu
      exact Option.some.inj hu
    have turn := h B.in1 pins s σ H1 _ x false u v sb.in1 I1 ru rx (hd _ (List.getElem_mem lt) H1 e1)
    obtain ⟨hp, g, d, tk, os⟩ := s
    wp_walk using PySem.AutoSeq1.wpAny_loadPart' eo
    rw [so, eu]
    refine wpAny_bind (wpAny_mono turn (fun rr s2 q => ?_) fun _ _ e => e)
    obtain ⟨rfl, H2, I2, e2⟩ := q
    have next := ih (i + 1) (by omega) s2 ⟨H2, I2, e1.trans e2⟩
    have up : ((i : Int) + 1) = ((i + 1 : Nat) : Int) := by omega
    obtain ⟨hp2, g2, d2, tk2, os2⟩ := s2
    wp_walk
    rw [up]
    exact ⟨plainId_quiet MeetsSeq.plain_contains_loop _, codeAny_builtin MeetsSeq.entry_contains_loop (by
      rw [Around.under_plainId MeetsSeq.plain_contains_loop _]
      exact next)⟩
theorem op_outB (h : EqB X n D) (hr : Room (n + 1) X.A) : OpR X (compareOp .In) (rOutB D) := by
  intro pins s σ H x y v u Q I rx ry hq
  obtain ⟨l, ys, rfl, hl, hd, q⟩ := hq
  cases (show u = Value.ref l from ry)
  obtain ⟨z, its, kk, r, eo⟩ := I.hok _ _ (hl H Ext.rfl')
  show wpAny (model X.prog X.w) X.A (do return .bool (← contains (.ref l) v)) (EP X pins σ Q) X.xe s
  have end_ : ∀ s', LoopI X pins σ H s' → EP X pins σ Q (.bool false) s' := fun s' ⟨H1, I1, e1⟩ => ⟨.bl false, H1, I1, rfl, q H1 e1⟩
  have run := has_none (B := X.A) h ⟨hr, rfl⟩ rx hl hd (Q := fun r s' => r = .bool false ∧ LoopI X pins σ H s') (fun s' z => ⟨rfl, z⟩) _ 0 rfl s ⟨H, I, Ext.rfl'⟩
  refine wpAny_bind (wpAny_contains_slot (id := "list.__contains__") ⟨_, eo, rfl⟩ F.slot_list_contains (wpAny_mono (GQ.call_here (Q := fun r s' => r = .bool false ∧ LoopI X pins σ H s') F.slot_list_contains ⟨_, eo, rfl⟩ F.entry_list_contains (F.args_list_contains_2 _ _) ?_) (fun r s' z => ?_) fun _ _ e => e))
  · obtain ⟨hp, g, d, tk, os⟩ := s
    wp_walk
    exact ⟨plainId_quiet MeetsSeq.plain_contains_loop _, codeAny_builtin MeetsSeq.entry_contains_loop (by
      rw [Around.under_plainId MeetsSeq.plain_contains_loop _]
      exact run)⟩
  · obtain ⟨rfl, z⟩ := z
    exact wpAny_truthy_bool (wpAny_pure (end_ s' z))
end
end KpR

namespace KpR
open PySem PySem.Spec PyProof.Rows L2
/-- a callee of which nothing comes -/
theorem passF {X : Cx} : Passes (L2.CX X.prog X.w) X (fun _ _ _ => False) := fun _ _ _ _ _ _ _ ⟨_, _, _, _, _, _, _, _, _, _, _, _, z⟩ => z.elim
/-- what a callee in a try's body may raise: whatever the locals are -/
def anyL (n : Nat) (W : WX) : XK := fun cls d H => ∀ σ : L2.St, σ.length = n → W cls d σ H
theorem passL {X : Cx} {W : WX} {n : Nat} (tk : Takes X W) (hn : X.N.length = n) : Passes (L2.CX X.prog X.w) X (anyL n W) := fun _ σ _ _ e s' I c => tk e s' (XE.of_call I (fun _ _ _ h => h σ (by rw [← hn] <;> exact I.len)) c)
/-- a call by keywords of a def without defaults -/
theorem kbOf {K : PySem.W.Frag} {fd : FuncData} {ps ks : List Str} {n : Nat} {g : List Value → List Value → List Value} {gV : List V → List V → List V}
    (h : ∀ us ws : List Value, us.length = n → ws.length = ks.length → bindArgs fd ⟨us, ks.zip ws⟩ = pure (ps.zip (g us ws))) (r : ∀ {vs : List V} {us : List Value} {zs : List V} {ws : List Value}, Vals vs us → Vals zs ws → Vals (gV vs zs) (g us ws)) : KBn K fd ps n ks g gV :=
  ⟨fun s us ws _ l1 l2 => .of_eq (h us ws l1 l2), r⟩
/-- a builtin's type against an own class -/
theorem kit_tc {K : PySem.W.Frag} {T : String} {C : Addr} {b : Bool} (h1 : PySem.W.isClsIn K C = true) (h2 : PySem.W.typeIn K (.ref C) = some (.type "type")) (h3 : PySem.W.subIn K (.type T) (.ref C) = some b) : PySem.W.kitOne K (.type T) (.ref C) = some b := by
  have ne : ¬ (Value.type T == Value.ref C) = true := fun z => nomatch eq_of_beq z
  unfold PySem.W.kitOne
  rw [if_neg ne]
  show (if ((PySem.W.clsIn K C).isSome && PySem.W.typeIn K (.ref C) == some (.type "type")) = true then PySem.W.subIn K (.type T) (.ref C) else none) = some b
  rw [show (PySem.W.clsIn K C).isSome = true from h1, h2, if_pos (by rfl)]
  exact h3
/-- the first clause takes it -/
def wFst (K : PySem.W.Frag) (c : Value) (i : Nat) (tz : Addr → Value → Option Addr → TS) (D : Ends) : WX := fun cls d σ H =>
  PySem.W.exmOne K cls c = some true ∧ ∀ a, H a = none → tz a cls d ⟨fun τ G => D.nx (τ.set i none) G, D.rt, fun τ G => D.bk (τ.set i none) G, fun τ G => D.ct (τ.set i none) G⟩ (σ.set i (some (.ref a))) H
section
variable {X : Cx} {x n : Str} {c : Value} {i : Nat} {body rest : List Stmt} {z₀ : Stmt} {more : List ExceptHandler} {pn pt pw : Pos} {tb : WX → TS} {tz : Addr → Value → Option Addr → TS}
theorem ps_try_fst (st : X.stack = X.env :: X.outer) (fr : X.env.frame = some X.env.locals) (nd : X.N.Nodup) (at_ : X.N[i]? = some n) (lo : X.env.kindOf n = some .local) (nm : Names X x c)
    (bd : ∀ (W : WX) (qn : List (Addr × Obj)) (xe : Value → Shared → Prop), Takes (X.tr qn xe) W → PassesOwn (model X.prog X.w) X.A X.env xe → PSs (X.tr qn xe) body (tb W))
    (su : ∀ (e : Addr) (oe : Obj) (cls : Value) (d : Option Addr) (qn : List (Addr × Obj)), Zc cls d oe → (∃ fs, oe.data = .fields fs) → PSs (X.suite e ((e, oe) :: qn)) (z₀ :: rest) (tz e cls d)) :
    PS X (.Try body (.ExceptHandler (some (.Name x pn)) (some n) (z₀ :: rest) pw :: more) [] [] pt) (fun D σ H => tb (wFst X.K c i tz D) D σ H) := by
  refine ⟨fun pins s σ H D I hyp => ?_⟩
  have okX := I.ok
  have afr : X.A.frames = some (X.env :: X.outer) := by rw [okX.frames, st]
  have lcl : Loc X.env.scope n := .inl lo
  let hs := ExceptHandler.ExceptHandler (some (.Name x pn)) (some n) (z₀ :: rest) pw :: more
  refine wpAny_Try_except ?_
  refine wpAny_mono ((bd (wFst X.K c i tz D) (X.pn ++ pins) (fun e t1 => wpAny (model X.prog X.w) X.A (noteFrame e X.env) (fun _ t2 => wpAny (model X.prog X.w) X.A (setFlight e none) (fun _ t3 =>
    wpAny (model X.prog X.w) X.A (handleBy e X.env hs) (SP X pins D) X.xe t3) X.xe t2) X.xe t1) (fun u t air => ?_) PassesOwn.looking).run [] s σ H D (I.toTry _) hyp) (fun f t done => ?_) (fun _ _ air => air)
  · obtain ⟨e, G, sI, pq, τ, H1, cls, d, rfl, J0, near, upS, sky0, free, osE, bare, hit, go⟩ := air
    have J : Inv X pins τ H1 sI := J0.ofTry okX
    have sky : Sky G (X.env :: X.outer) e (Zc cls d) X.env.locals t.heap := by rw [← st] <;> exact sky0
    show wpAny (model X.prog X.w) X.A (noteFrame (.ref e) X.env) _ _ _
    refine Sky.land Zc.steady afr fr sky fun hp1 fly1 up1 => ?_
    have J1 : Inv X pins τ H1 { t with heap := hp1 } := J.landed near fly1.1 (upS.trans up1) osE bare
    obtain ⟨o1, fs1, at1, z1, dat1⟩ := fly1.there
    have off : e ∉ frs (X.env :: X.outer) := fun mem => by
      obtain ⟨_, o2, at2, no2⟩ := fly1.2.2.1.mem mem
      have q : o1 = o2 := Option.some.inj (at1.symm.trans at2)
      subst q
      exact no2 _ dat1
    have offL : e ≠ X.env.locals := fun q => off (List.mem_filterMap.mpr ⟨X.env, List.mem_cons_self, by rw [fr, q]⟩)
    have offF : e ∉ X.fs := fun mem => by
      obtain ⟨y, hy, q⟩ := List.mem_filterMap.mp mem
      exact off (List.mem_filterMap.mpr ⟨y, List.mem_cons_of_mem _ hy, q⟩)
    have S1 := J1.suite at1 dat1 free offL offF
    refine wpAny_handleBy_cons (codeAny_handlers_test ?_) (fun q => nomatch q)
    have ty : PySem.W.Looks (model X.prog X.w) hp1 (typeOf (.ref e)) cls := fun A Q E s k q => wpAny_typeOf_ref (k _ _ at1) (by rw [z1.1] <;> exact q)
    have mt := PySem.W.exm_one (M := model X.prog X.w) (J1.kIn) ty hit
    have look : ∀ {Q : Value → Shared → Prop} {E : Value → Shared → Prop}, Q c { t with heap := hp1 } → wpAny (model X.prog X.w) (X.A.mark (some (.ref e))) (eval (.Name x pn) X.env) Q E { t with heap := hp1 } := fun {Q E} q => by
      obtain ⟨gl, nd2, own | ⟨none_, boot, nn⟩⟩ := nm
      · exact ld_glob (X := X.suite e ((e, o1) :: (X.pn ++ pins))) S1 gl own q nd2
      · exact ld_blt (X := X.suite e ((e, o1) :: (X.pn ++ pins))) S1 gl none_ boot q nn nd2
    refine look (mt.here ?_)
    refine codeAny_handlers_suite_as ?_
    refine HandSPX.lands_againZ fly1 fun hp2 fly2 up2 => ?_
    have J2 : Inv X pins τ H1 { t with heap := hp2 } := J.landed near fly2.1 ((upS.trans up1).trans up2) osE bare
    obtain ⟨o2, fs2, at2, z2, dat2⟩ := fly2.there
    have S2 := J2.suite at2 dat2 free offL offF
    refine store_ok (X := X.suite e ((e, o2) :: (X.pn ++ pins))) (v := .ref e) S2 nd at_ lcl rfl (fun t2 S3 => ?_) (.inr lo)
    refine wpAny_mono ((su e o2 cls d (X.pn ++ pins) z2 ⟨_, dat2⟩).run [] t2 _ H1 _ S3 (go e free)) (fun f t3 out => ?_) (fun _ _ q => False.elim q)
    have fin : ∀ {τ1 : L2.St} {H2 : Hp} {R : Shared → Prop}, Inv (X.suite e ((e, o2) :: (X.pn ++ pins))) [] τ1 H2 t3 → (∀ t4, Inv X pins (τ1.set i none) H2 t4 → R t4) →
        wpAny (model X.prog X.w) X.A (do bindName X.env n .none; unbindBehindTheSuite X.env n pw) (fun _ t4 => R t4) X.xe t3 := fun {τ1 H2 R} S4 q => gone_ok (S4.unsuite okX) nd at_ lo q
    match f, out with
    | .next, ⟨_, _, S4, q⟩ => exact fin S4 fun _ J4 => ⟨_, _, J4, q⟩
    | .brk, ⟨_, _, S4, q⟩ => exact fin S4 fun _ J4 => ⟨_, _, J4, q⟩
    | .cont, ⟨_, _, S4, q⟩ => exact fin S4 fun _ J4 => ⟨_, _, J4, q⟩
    | .ret u, ⟨_, _, _, S4, ru, q⟩ => exact fin S4 fun _ J4 => ⟨_, _, _, J4, ru, q⟩
  · match f, done with
    | .next, ⟨_, _, J4, q⟩ => exact wpAny_execs_nil ⟨_, _, J4.ofTry okX, q⟩
    | .brk, ⟨_, _, J4, q⟩ => exact ⟨_, _, J4.ofTry okX, q⟩
    | .cont, ⟨_, _, J4, q⟩ => exact ⟨_, _, J4.ofTry okX, q⟩
    | .ret u, ⟨_, _, _, J4, ru, q⟩ => exact ⟨_, _, _, J4.ofTry okX, ru, q⟩
end
/-- what the written part says of a class with an own == and the != of object, anywhere below object -/
structure NeK (K : PySem.W.Frag) (C f : Addr) : Prop where
  hn : PySem.W.findIn K (.ref C) "__ne__" = some (some (.builtin "object.__ne__"))
  hm : PySem.W.mroIn K C (.type "object") = some true
  hs : PySem.W.findIn K (.ref C) "__eq__" = some (some (.ref f))
  hf : PySem.W.isFn K (.ref f) = true
section
variable {prog : Program} {w : World} {A : Around} {E : Value → Shared → Prop} {s : Shared} {K : PySem.W.Frag} {x y C f : Addr} {ox oy : Obj} {od : Option Obj}
theorem objNe_own {Q : Fin → Shared → Prop} (X : K.In s.heap) (I : PySem.W.InstAt s.heap x ox C od) (c : NeK K C f) (hu : A.units < cLine)
    (h : wpAny (model prog w) A (call (.ref f) [.ref x, .ref y]) (fun v s1 => ∃ b, v = .bool b ∧ Q (.done (.ret (.bool (!b)))) s1) E s) : wpAny (model prog w) A (Builtin.«object.__ne__» ⟨[.ref x, .ref y], []⟩) Q E s := by
  have one : wpAny (model prog w) A (callSpecialIfBound? (.ref x) "__eq__" [.ref y]) (fun r s1 => ∃ b, r = some (.bool b) ∧ Q (.done (.ret (.bool (!b)))) s1) E s :=
    PySem.W.ifBound_K X I c.hs c.hf (wpAny_mono h (fun v s1 ⟨b, e, q⟩ => ⟨b, congrArg some e, q⟩) fun _ _ e => e)
  obtain ⟨hp, g, d, tk, os⟩ := s
  unfold Builtin.«object.__ne__»
  repeat (first
    | with_reducible refine wpAny_cRoomFor hu ?_
    | (refine wpAny_bind (m := callSpecialIfBound? (.ref x) (Str.ofString "__eq__") [.ref y]) (wpAny_mono one (fun r s1 hr => by
          obtain ⟨b, rfl, hq⟩ := hr
          repeat (first | exact hq | exact wpAny_pure hq | exact wpAny_truthy_bool hq | (refine wpAny_bind (m := truthy (.bool _)) (wpAny_truthy_bool ?_)) | wp_step)) fun _ _ e => e))
    | wp_step)
theorem call_objNe {Q : Value → Shared → Prop} (X : K.In s.heap) (I : PySem.W.InstAt s.heap x ox C od) (c : NeK K C f) (hu : A.in1.units < cLine)
    (h : wpAny (model prog w) A.in1 (call (.ref f) [.ref x, .ref y]) (fun v s1 => ∃ b, v = .bool b ∧ Q (.bool (!b)) s1) E s) : wpAny (model prog w) A (call (.builtin "object.__ne__") [.ref x, .ref y]) Q E s :=
  wpAny_call (codeAny_call_builtin F.cmp_object.ne.plain F.cmpEntry_ne (PySem.W.check_slot F.cmpKind_ne F.cmpSplit_ne (I.type.andThen (PySem.W.looks_mroIn X c.hm)) (F.cmpArgs_ne _ _) (objNe_own X I c hu h)))
theorem rc_neK {Q : Value → Shared → Prop} (X : K.In s.heap) (I : PySem.W.InstAt s.heap x ox C od) (c : NeK K C f) (hy : s.heap.get? y = some oy) (cy : oy.cls = .ref C) (hu : A.units + 1 < cLine)
    (h : wpAny (model prog w) A.in1 (call (.ref f) [.ref x, .ref y]) (fun v s1 => ∃ b, v = .bool b ∧ Q (.bool (!b)) s1) E s) : wpAny (model prog w) A (richCompare .NotEq (.ref x) (.ref y)) Q E s := by
  have hu0 : A.units < cLine := Nat.lt_of_succ_lt hu
  have run : wpAny (model prog w) A (callSpecialIfBound? (.ref x) "__ne__" [.ref y]) (fun r s1 => ∃ b, r = some (.bool b) ∧ Q (.bool b) s1) E s := by
    simp only [callSpecialIfBound?, bindSpecialIfBound?]
    refine wpAny_holding (wpAny_bind (wpAny_bind (wpAny_bind (I.type.here ((PySem.W.looks_findIn X c.hn).here ?_)))))
    refine wpAny_bind (wpAny_askSetting (wpAny_ite ?_))
    have fin : wpAny (model prog w) A (call (.builtin "object.__ne__") ([.ref x] ++ [.ref y]) >>= fun v => pure (some v)) (fun r s1 => ∃ b, r = some (.bool b) ∧ Q (.bool b) s1) E s :=
      wpAny_bind (wpAny_mono (call_objNe (Q := fun v s1 => ∃ b, v = .bool b ∧ Q (.bool b) s1) X I c hu (wpAny_mono h (fun v s1 ⟨b, e, q⟩ => ⟨b, e, _, rfl, q⟩) fun _ _ e => e)) (fun v s1 ⟨b, e, q⟩ => wpAny_pure ⟨b, congrArg some e, q⟩) fun _ _ e => e)
    split
    · exact wpAny_bind (wpAny_of_eq (F.cmp_object.ne.bind _) (wpAny_pure (by exact fin)))
    · exact wpAny_tryCatch (wpAny_bind (wpAny_of_eq (F.cmp_object.ne.bind _) (wpAny_pure (by exact fin))))
  have one : wpAny (model prog w) A (tryCompare (.ref x) "__ne__" (.ref y)) (fun r s1 => ∃ b, r = some (.bool b) ∧ Q (.bool b) s1) E s := by
    unfold tryCompare
    refine wpAny_bind (wpAny_mono run (fun r s1 z => ?_) fun _ _ e => e)
    obtain ⟨b, rfl, q⟩ := z
    exact wpAny_pure ⟨b, rfl, q⟩
  unfold richCompare
  simp only [oneThing_ref]
  refine wpAny_holding (wpAny_bind (wpAny_cRoomFor hu0 ?_))
  rw [cmpInfo_NotEq]
  dsimp only
  refine wpAny_bind (I.type.here (wpAny_bind (wpAny_typeOf_ref hy ?_)))
  rw [cy, show (Value.ref C != Value.ref C) = false from by simp]
  simp only [Bool.false_eq_true, if_false]
  refine wpAny_bind (wpAny_pure ?_)
  simp only [Bool.false_eq_true, if_false]
  refine wpAny_bind (wpAny_mono one (fun r s1 z => ?_) fun _ _ e => e)
  obtain ⟨b, rfl, q⟩ := z
  exact wpAny_pure q
end
section
variable {X : Cx} {CX : CXT} {n : Nat} {C f : Addr} {fd : FuncData} {ps : List Str} {R : Addr → V → Bool → Hp → Prop} {E : XK}
/-- x != y of two instances of one such class -/
def rNeK (C : Addr) (R : Addr → V → Bool → Hp → Prop) : R2 := fun x y H Q => ∃ a c b dx dy fs gs, x = .ref a ∧ y = .ref c ∧ H a = some (.ins C dx fs) ∧ H c = some (.ins C dy gs) ∧ R a (.ref c) b H ∧ ∀ H', Ext H H' → Q (.bl (!b)) H'
theorem op_neK (G : FnOk X.prog X.w X.K X.mg X.base CX n f fd ps (spEqB R)) (hc : NeK X.K C f) (hb : Binds X.K fd ps []) (hx : Passes CX X E) (hr : Room (n + 1) X.A) : OpR X (compareOp .NotEq) (rNeK C R) := by
  intro pins s σ H x y v u Q I rx ry hq
  obtain ⟨a, c, b, dx, dy, fs, gs, rfl, rfl, ha, hc1, hR, q⟩ := hq
  cases rx
  cases ry
  obtain ⟨mA, J, _⟩ := ins_get I.hok ha
  obtain ⟨mC, J1, _⟩ := ins_get I.hok hc1
  obtain ⟨od, J, _⟩ := J.look
  obtain ⟨od1, J1, _⟩ := J1.look
  have r1 : Room n X.A.in1 := hr.in1
  have go := own_runB (B := X.A.in1) (y := .ref c) (v := .ref c) G hb hx ⟨r1, rfl⟩ I rfl hR
  show wpAny (model X.prog X.w) X.A (richCompare .NotEq (.ref a) (.ref c)) (EP X pins σ Q) X.xe s
  refine rc_neK I.kIn J hc J1.at_ J1.cls (hu_of hr) (wpAny_mono go (fun r s1 z => ?_) fun _ _ e => e)
  cases r with
  | notImplemented => exact False.elim z
  | bool b' =>
    obtain ⟨e, H1, I1, ex⟩ := z
    cases e
    exact ⟨_, rfl, .bl _, H1, I1, rfl, q H1 ex⟩
  | _ => exact (nomatch z.1)
end
end KpR




namespace Kp
open PySem PySem.Spec PyProof.Rows L2 KpR
def topS (i : Nat) : Stmt := PySem.Challenge.pw_wholedrops_k01_jars_and_deeds_told.main.body.getD i (.Pass ⟨0, 0, 0, 0⟩)
abbrev scheckmuch : Stmt := topS 12
abbrev sBadCountInit : Stmt := inClass (topS 2) 0
abbrev sJarsInit : Stmt := inClass (topS 6) 0
abbrev sPourInit : Stmt := inClass (topS 8) 0
abbrev sPutInit : Stmt := inClass (topS 9) 0
abbrev sDrawInit : Stmt := inClass (topS 10) 0
abbrev sChangeInit : Stmt := inClass (topS 11) 0
abbrev sJarsEq : Stmt := inClass (topS 6) 1
abbrev sPourEq : Stmt := inClass (topS 8) 1
abbrev sPutEq : Stmt := inClass (topS 9) 1
abbrev sDrawEq : Stmt := inClass (topS 10) 1
abbrev sChangeEq : Stmt := inClass (topS 11) 1
abbrev sLwell : Stmt := topS 14
abbrev sLdraw : Stmt := topS 15
abbrev sLdrawn : Stmt := topS 16
abbrev sLdue : Stmt := topS 17
abbrev sLsaid : Stmt := topS 18
abbrev sLjarsright : Stmt := topS 19
abbrev sLdeed : Stmt := topS 20
abbrev sLnamed : Stmt := topS 21
abbrev sLfields : Stmt := topS 22
abbrev sLdeedsright : Stmt := topS 23
abbrev slaw : Stmt := topS 24
theorem sccheckmuch : FnScope ["what", "much"] ["what", "much"] (defScope scheckmuch) := ⟨rfl, rfl, rfl, by decide +kernel, rfl, by decide +kernel, by decide +kernel⟩
theorem scBadCountInit : FnScope ["self", "what", "count"] ["self", "what", "count"] (defScope sBadCountInit) := ⟨rfl, rfl, rfl, by decide +kernel, rfl, by decide +kernel, by decide +kernel⟩
theorem scJarsInit : FnScope ["self", "sizes", "size"] ["self", "sizes"] (defScope sJarsInit) := ⟨rfl, rfl, rfl, by decide +kernel, rfl, by decide +kernel, by decide +kernel⟩
theorem scPourInit : FnScope ["self", "a", "b"] ["self", "a", "b"] (defScope sPourInit) := ⟨rfl, rfl, rfl, by decide +kernel, rfl, by decide +kernel, by decide +kernel⟩
theorem scPutInit : FnScope ["self", "a", "k"] ["self", "a", "k"] (defScope sPutInit) := ⟨rfl, rfl, rfl, by decide +kernel, rfl, by decide +kernel, by decide +kernel⟩
theorem scDrawInit : FnScope ["self", "a", "k"] ["self", "a", "k"] (defScope sDrawInit) := ⟨rfl, rfl, rfl, by decide +kernel, rfl, by decide +kernel, by decide +kernel⟩
theorem scChangeInit : FnScope ["self", "a", "b"] ["self", "a", "b"] (defScope sChangeInit) := ⟨rfl, rfl, rfl, by decide +kernel, rfl, by decide +kernel, by decide +kernel⟩
theorem scJarsEq : FnScope ["self", "other"] ["self", "other"] (defScope sJarsEq) := ⟨rfl, rfl, rfl, by decide +kernel, rfl, by decide +kernel, by decide +kernel⟩
theorem scPourEq : FnScope ["self", "other"] ["self", "other"] (defScope sPourEq) := ⟨rfl, rfl, rfl, by decide +kernel, rfl, by decide +kernel, by decide +kernel⟩
theorem scPutEq : FnScope ["self", "other"] ["self", "other"] (defScope sPutEq) := ⟨rfl, rfl, rfl, by decide +kernel, rfl, by decide +kernel, by decide +kernel⟩
theorem scDrawEq : FnScope ["self", "other"] ["self", "other"] (defScope sDrawEq) := ⟨rfl, rfl, rfl, by decide +kernel, rfl, by decide +kernel, by decide +kernel⟩
theorem scChangeEq : FnScope ["self", "other"] ["self", "other"] (defScope sChangeEq) := ⟨rfl, rfl, rfl, by decide +kernel, rfl, by decide +kernel, by decide +kernel⟩
theorem scLwell : FnScope ["_law_cell"] ["_law_cell"] (defScope sLwell) := ⟨rfl, rfl, rfl, by decide +kernel, rfl, by decide +kernel, by decide +kernel⟩
theorem scLdraw : FnScope ["_law_well_here", "_law_many", "_law_found", "_law_number"] ["_law_well_here", "_law_many"] (defScope sLdraw) := ⟨rfl, rfl, rfl, by decide +kernel, rfl, by decide +kernel, by decide +kernel⟩
theorem scLdrawn : FnScope ["_law_well_here", "_law_some", "_law_top", "_law_turn"] ["_law_well_here"] (defScope sLdrawn) := ⟨rfl, rfl, rfl, by decide +kernel, rfl, by decide +kernel, by decide +kernel⟩
theorem scLdue : FnScope ["_law_caps", "_law_bad", "_law_cap"] ["_law_caps"] (defScope sLdue) := ⟨rfl, rfl, rfl, by decide +kernel, rfl, by decide +kernel, by decide +kernel⟩
theorem scLsaid : FnScope ["_law_caps", "e"] ["_law_caps"] (defScope sLsaid) := ⟨rfl, rfl, rfl, by decide +kernel, rfl, by decide +kernel, by decide +kernel⟩
theorem scLjarsright : FnScope ["_law_caps", "_law_handed", "_law_first", "_law_others", "_law_other"] ["_law_caps"] (defScope sLjarsright) := ⟨rfl, rfl, rfl, by decide +kernel, rfl, by decide +kernel, by decide +kernel⟩
theorem scLdeed : FnScope ["_law_fact", "_law_word", "_law_here", "_law_last"] ["_law_fact"] (defScope sLdeed) := ⟨rfl, rfl, rfl, by decide +kernel, rfl, by decide +kernel, by decide +kernel⟩
theorem scLnamed : FnScope ["_law_fact", "_law_word", "_law_here", "_law_last"] ["_law_fact"] (defScope sLnamed) := ⟨rfl, rfl, rfl, by decide +kernel, rfl, by decide +kernel, by decide +kernel⟩
theorem scLfields : FnScope ["_law_word", "_law_deed_here"] ["_law_word", "_law_deed_here"] (defScope sLfields) := ⟨rfl, rfl, rfl, by decide +kernel, rfl, by decide +kernel, by decide +kernel⟩
theorem scLdeedsright : FnScope ["_law_well_here", "_law_numbers", "_law_facts", "_law_turn", "_law_word", "_law_fact", "_law_deed_here", "_law_kinds", "_law_other"] ["_law_well_here"] (defScope sLdeedsright) := ⟨rfl, rfl, rfl, by decide +kernel, rfl, by decide +kernel, by decide +kernel⟩
theorem sclaw : FnScope ["_law_script", "_law_cell", "_law_well_here", "_law_caps", "_law_due_here"] ["_law_script"] (defScope slaw) := ⟨rfl, rfl, rfl, by decide +kernel, rfl, by decide +kernel, by decide +kernel⟩
structure TyIns (K : PySem.W.Frag) (C : Addr) : Prop where
  ha : PySem.W.findIn K (.ref C) "__class__" = some (some (.builtin "object.__class__"))
  hn : PySem.W.specialIn K (.builtin "object.__class__") "__get__" = some (some (.builtin "getset_descriptor.__get__"))
  ht : PySem.W.takesIn K (.builtin "object.__class__") = some true
  hm : PySem.W.mroIn K C (.type "object") = some true
structure Tx (K : PySem.W.Frag) (mg : Str → Option Value) : Type where
  cJars : Addr
  cPour : Addr
  cPut : Addr
  cDraw : Addr
  cChange : Addr
  cDeed : Addr
  acheckmuch : Addr
  dcheckmuch : FuncData
  aBadCountInit : Addr
  dBadCountInit : FuncData
  aJarsInit : Addr
  dJarsInit : FuncData
  aPourInit : Addr
  dPourInit : FuncData
  aPutInit : Addr
  dPutInit : FuncData
  aDrawInit : Addr
  dDrawInit : FuncData
  aChangeInit : Addr
  dChangeInit : FuncData
  aJarsEq : Addr
  dJarsEq : FuncData
  aPourEq : Addr
  dPourEq : FuncData
  aPutEq : Addr
  dPutEq : FuncData
  aDrawEq : Addr
  dDrawEq : FuncData
  aChangeEq : Addr
  dChangeEq : FuncData
  aLwell : Addr
  dLwell : FuncData
  aLdraw : Addr
  dLdraw : FuncData
  aLdrawn : Addr
  dLdrawn : FuncData
  aLdue : Addr
  dLdue : FuncData
  aLsaid : Addr
  dLsaid : FuncData
  aLjarsright : Addr
  dLjarsright : FuncData
  aLdeed : Addr
  dLdeed : FuncData
  aLnamed : Addr
  dLnamed : FuncData
  aLfields : Addr
  dLfields : FuncData
  aLdeedsright : Addr
  dLdeedsright : FuncData
  alaw : Addr
  dlaw : FuncData
  tMOSTJARS : Tok
  tMOSTMUCH : Tok
  cBadCount : Addr
  fcheckmuch : Fun K "check_much" "check_much" scheckmuch acheckmuch dcheckmuch
  bcheckmuch : Binds K dcheckmuch ["what", "much"] []
  gcheckmuch : mg "check_much" = some (.ref acheckmuch)
  fBadCountInit : Fun K "__init__" "BadCount.__init__" sBadCountInit aBadCountInit dBadCountInit
  bBadCountInit : Binds K dBadCountInit ["self", "what", "count"] []
  iBadCount : PySem.W.findIn K (.ref cBadCount) "__init__" = some (some (.ref aBadCountInit))
  tBadCount : PySem.W.typeIn K (.ref aBadCountInit) = some (.type "function")
  fJarsInit : Fun K "__init__" "Jars.__init__" sJarsInit aJarsInit dJarsInit
  bJarsInit : Binds K dJarsInit ["self", "sizes"] []
  fPourInit : Fun K "__init__" "Pour.__init__" sPourInit aPourInit dPourInit
  bPourInit : Binds K dPourInit ["self", "a", "b"] []
  fPutInit : Fun K "__init__" "Put.__init__" sPutInit aPutInit dPutInit
  bPutInit : Binds K dPutInit ["self", "a", "k"] []
  fDrawInit : Fun K "__init__" "Draw.__init__" sDrawInit aDrawInit dDrawInit
  bDrawInit : Binds K dDrawInit ["self", "a", "k"] []
  fChangeInit : Fun K "__init__" "Change.__init__" sChangeInit aChangeInit dChangeInit
  bChangeInit : Binds K dChangeInit ["self", "a", "b"] []
  fJarsEq : Fun K "__eq__" "Jars.__eq__" sJarsEq aJarsEq dJarsEq
  bJarsEq : Binds K dJarsEq ["self", "other"] []
  eJarsEq : PySem.W.findIn K (.ref cJars) "__eq__" = some (some (.ref aJarsEq))
  eiJarsEq : PySem.W.isFn K (.ref aJarsEq) = true
  fPourEq : Fun K "__eq__" "Pour.__eq__" sPourEq aPourEq dPourEq
  bPourEq : Binds K dPourEq ["self", "other"] []
  ePourEq : PySem.W.findIn K (.ref cPour) "__eq__" = some (some (.ref aPourEq))
  eiPourEq : PySem.W.isFn K (.ref aPourEq) = true
  fPutEq : Fun K "__eq__" "Put.__eq__" sPutEq aPutEq dPutEq
  bPutEq : Binds K dPutEq ["self", "other"] []
  ePutEq : PySem.W.findIn K (.ref cPut) "__eq__" = some (some (.ref aPutEq))
  eiPutEq : PySem.W.isFn K (.ref aPutEq) = true
  fDrawEq : Fun K "__eq__" "Draw.__eq__" sDrawEq aDrawEq dDrawEq
  bDrawEq : Binds K dDrawEq ["self", "other"] []
  eDrawEq : PySem.W.findIn K (.ref cDraw) "__eq__" = some (some (.ref aDrawEq))
  eiDrawEq : PySem.W.isFn K (.ref aDrawEq) = true
  fChangeEq : Fun K "__eq__" "Change.__eq__" sChangeEq aChangeEq dChangeEq
  bChangeEq : Binds K dChangeEq ["self", "other"] []
  eChangeEq : PySem.W.findIn K (.ref cChange) "__eq__" = some (some (.ref aChangeEq))
  eiChangeEq : PySem.W.isFn K (.ref aChangeEq) = true
  fLwell : Fun K "_law_well" "_law_well" sLwell aLwell dLwell
  bLwell : Binds K dLwell ["_law_cell"] []
  gLwell : mg "_law_well" = some (.ref aLwell)
  fLdraw : Fun K "_law_draw" "_law_draw" sLdraw aLdraw dLdraw
  bLdraw : Binds K dLdraw ["_law_well_here", "_law_many"] []
  gLdraw : mg "_law_draw" = some (.ref aLdraw)
  fLdrawn : Fun K "_law_drawn" "_law_drawn" sLdrawn aLdrawn dLdrawn
  bLdrawn : Binds K dLdrawn ["_law_well_here"] []
  gLdrawn : mg "_law_drawn" = some (.ref aLdrawn)
  fLdue : Fun K "_law_due" "_law_due" sLdue aLdue dLdue
  bLdue : Binds K dLdue ["_law_caps"] []
  gLdue : mg "_law_due" = some (.ref aLdue)
  fLsaid : Fun K "_law_said" "_law_said" sLsaid aLsaid dLsaid
  bLsaid : Binds K dLsaid ["_law_caps"] []
  gLsaid : mg "_law_said" = some (.ref aLsaid)
  fLjarsright : Fun K "_law_jars_right" "_law_jars_right" sLjarsright aLjarsright dLjarsright
  bLjarsright : Binds K dLjarsright ["_law_caps"] []
  gLjarsright : mg "_law_jars_right" = some (.ref aLjarsright)
  fLdeed : Fun K "_law_deed" "_law_deed" sLdeed aLdeed dLdeed
  bLdeed : Binds K dLdeed ["_law_fact"] []
  gLdeed : mg "_law_deed" = some (.ref aLdeed)
  fLnamed : Fun K "_law_named" "_law_named" sLnamed aLnamed dLnamed
  bLnamed : Binds K dLnamed ["_law_fact"] []
  gLnamed : mg "_law_named" = some (.ref aLnamed)
  fLfields : Fun K "_law_fields" "_law_fields" sLfields aLfields dLfields
  bLfields : Binds K dLfields ["_law_word", "_law_deed_here"] []
  gLfields : mg "_law_fields" = some (.ref aLfields)
  fLdeedsright : Fun K "_law_deeds_right" "_law_deeds_right" sLdeedsright aLdeedsright dLdeedsright
  bLdeedsright : Binds K dLdeedsright ["_law_well_here"] []
  gLdeedsright : mg "_law_deeds_right" = some (.ref aLdeedsright)
  flaw : Fun K "law" "law" slaw alaw dlaw
  blaw : Binds K dlaw ["_law_script"] []
  glaw : mg "law" = some (.ref alaw)
  mJars : mg "Jars" = some (.ref cJars)
  lJars : Cls K cJars
  kJars : Mk K cJars aJarsInit
  nJars_sizes : NoAttr K cJars "sizes"
  mPour : mg "Pour" = some (.ref cPour)
  lPour : Cls K cPour
  kPour : Mk K cPour aPourInit
  nPour_a : NoAttr K cPour "a"
  nPour_b : NoAttr K cPour "b"
  mPut : mg "Put" = some (.ref cPut)
  lPut : Cls K cPut
  kPut : Mk K cPut aPutInit
  nPut_a : NoAttr K cPut "a"
  nPut_k : NoAttr K cPut "k"
  mDraw : mg "Draw" = some (.ref cDraw)
  lDraw : Cls K cDraw
  kDraw : Mk K cDraw aDrawInit
  nDraw_a : NoAttr K cDraw "a"
  nDraw_k : NoAttr K cDraw "k"
  mChange : mg "Change" = some (.ref cChange)
  lChange : Cls K cChange
  kChange : Mk K cChange aChangeInit
  nChange_a : NoAttr K cChange "a"
  nChange_b : NoAttr K cChange "b"
  mDeed : mg "Deed" = some (.ref cDeed)
  lDeed : Cls K cDeed
  mBadCount : mg "BadCount" = some (.ref cBadCount)
  oBadCount : OexC K cBadCount
  xfBadCount : XfC K cBadCount
  nBadCount_what : PySem.W.findIn K (.ref cBadCount) "what" = some none
  nBadCount_count : PySem.W.findIn K (.ref cBadCount) "count" = some none
  emBadCount_BadCount : PySem.W.exmOne K (.ref cBadCount) (.ref cBadCount) = some true
  yChange : TyIns K cChange
  yDraw : TyIns K cDraw
  yJars : TyIns K cJars
  yPour : TyIns K cPour
  yPut : TyIns K cPut
  iPour_Put : PySem.W.kitOne K (.ref cPour) (.ref cPut) = some false
  iPour_Draw : PySem.W.kitOne K (.ref cPour) (.ref cDraw) = some false
  iPour_Pour : PySem.W.kitOne K (.ref cPour) (.ref cPour) = some true
  iPour_Change : PySem.W.kitOne K (.ref cPour) (.ref cChange) = some false
  iPut_Put : PySem.W.kitOne K (.ref cPut) (.ref cPut) = some true
  iPut_Draw : PySem.W.kitOne K (.ref cPut) (.ref cDraw) = some false
  iPut_Pour : PySem.W.kitOne K (.ref cPut) (.ref cPour) = some false
  iPut_Change : PySem.W.kitOne K (.ref cPut) (.ref cChange) = some false
  iDraw_Put : PySem.W.kitOne K (.ref cDraw) (.ref cPut) = some false
  iDraw_Draw : PySem.W.kitOne K (.ref cDraw) (.ref cDraw) = some true
  iDraw_Pour : PySem.W.kitOne K (.ref cDraw) (.ref cPour) = some false
  iDraw_Change : PySem.W.kitOne K (.ref cDraw) (.ref cChange) = some false
  iChange_Put : PySem.W.kitOne K (.ref cChange) (.ref cPut) = some false
  iChange_Draw : PySem.W.kitOne K (.ref cChange) (.ref cDraw) = some false
  iChange_Pour : PySem.W.kitOne K (.ref cChange) (.ref cPour) = some false
  iChange_Change : PySem.W.kitOne K (.ref cChange) (.ref cChange) = some true
  iPour_Deed : PySem.W.kitOne K (.ref cPour) (.ref cDeed) = some true
  iPut_Deed : PySem.W.kitOne K (.ref cPut) (.ref cDeed) = some true
  iDraw_Deed : PySem.W.kitOne K (.ref cDraw) (.ref cDeed) = some true
  iChange_Deed : PySem.W.kitOne K (.ref cChange) (.ref cDeed) = some true
  iJars_Jars : PySem.W.kitOne K (.ref cJars) (.ref cJars) = some true
  nfPour_Put : PySem.W.notFirst K cPour (.ref cPut) = true
  nfPour_Draw : PySem.W.notFirst K cPour (.ref cDraw) = true
  nfPour_Change : PySem.W.notFirst K cPour (.ref cChange) = true
  nfPut_Pour : PySem.W.notFirst K cPut (.ref cPour) = true
  nfPut_Draw : PySem.W.notFirst K cPut (.ref cDraw) = true
  nfPut_Change : PySem.W.notFirst K cPut (.ref cChange) = true
  nfDraw_Pour : PySem.W.notFirst K cDraw (.ref cPour) = true
  nfDraw_Put : PySem.W.notFirst K cDraw (.ref cPut) = true
  nfDraw_Change : PySem.W.notFirst K cDraw (.ref cChange) = true
  nfChange_Pour : PySem.W.notFirst K cChange (.ref cPour) = true
  nfChange_Put : PySem.W.notFirst K cChange (.ref cPut) = true
  nfChange_Draw : PySem.W.notFirst K cChange (.ref cDraw) = true
  nePour : NeK K cPour aPourEq
  alPour_NoneType : PySem.W.subIn K (.ref cPour) (.type "NoneType") = some false
  ikPour_NoneType : PySem.W.kitOne K (.type "NoneType") (.ref cPour) = some false
  alPour_int : PySem.W.subIn K (.ref cPour) (.type "int") = some false
  ikPour_int : PySem.W.kitOne K (.type "int") (.ref cPour) = some false
  alPour_tuple : PySem.W.subIn K (.ref cPour) (.type "tuple") = some false
  ikPour_tuple : PySem.W.kitOne K (.type "tuple") (.ref cPour) = some false
  alPour_list : PySem.W.subIn K (.ref cPour) (.type "list") = some false
  ikPour_list : PySem.W.kitOne K (.type "list") (.ref cPour) = some false
  nePut : NeK K cPut aPutEq
  alPut_NoneType : PySem.W.subIn K (.ref cPut) (.type "NoneType") = some false
  ikPut_NoneType : PySem.W.kitOne K (.type "NoneType") (.ref cPut) = some false
  alPut_int : PySem.W.subIn K (.ref cPut) (.type "int") = some false
  ikPut_int : PySem.W.kitOne K (.type "int") (.ref cPut) = some false
  alPut_tuple : PySem.W.subIn K (.ref cPut) (.type "tuple") = some false
  ikPut_tuple : PySem.W.kitOne K (.type "tuple") (.ref cPut) = some false
  alPut_list : PySem.W.subIn K (.ref cPut) (.type "list") = some false
  ikPut_list : PySem.W.kitOne K (.type "list") (.ref cPut) = some false
  neDraw : NeK K cDraw aDrawEq
  alDraw_NoneType : PySem.W.subIn K (.ref cDraw) (.type "NoneType") = some false
  ikDraw_NoneType : PySem.W.kitOne K (.type "NoneType") (.ref cDraw) = some false
  alDraw_int : PySem.W.subIn K (.ref cDraw) (.type "int") = some false
  ikDraw_int : PySem.W.kitOne K (.type "int") (.ref cDraw) = some false
  alDraw_tuple : PySem.W.subIn K (.ref cDraw) (.type "tuple") = some false
  ikDraw_tuple : PySem.W.kitOne K (.type "tuple") (.ref cDraw) = some false
  alDraw_list : PySem.W.subIn K (.ref cDraw) (.type "list") = some false
  ikDraw_list : PySem.W.kitOne K (.type "list") (.ref cDraw) = some false
  neChange : NeK K cChange aChangeEq
  alChange_NoneType : PySem.W.subIn K (.ref cChange) (.type "NoneType") = some false
  ikChange_NoneType : PySem.W.kitOne K (.type "NoneType") (.ref cChange) = some false
  alChange_int : PySem.W.subIn K (.ref cChange) (.type "int") = some false
  ikChange_int : PySem.W.kitOne K (.type "int") (.ref cChange) = some false
  alChange_tuple : PySem.W.subIn K (.ref cChange) (.type "tuple") = some false
  ikChange_tuple : PySem.W.kitOne K (.type "tuple") (.ref cChange) = some false
  alChange_list : PySem.W.subIn K (.ref cChange) (.type "list") = some false
  ikChange_list : PySem.W.kitOne K (.type "list") (.ref cChange) = some false
  neJars : NeK K cJars aJarsEq
  alJars_NoneType : PySem.W.subIn K (.ref cJars) (.type "NoneType") = some false
  ikJars_NoneType : PySem.W.kitOne K (.type "NoneType") (.ref cJars) = some false
  alJars_int : PySem.W.subIn K (.ref cJars) (.type "int") = some false
  ikJars_int : PySem.W.kitOne K (.type "int") (.ref cJars) = some false
  alJars_tuple : PySem.W.subIn K (.ref cJars) (.type "tuple") = some false
  ikJars_tuple : PySem.W.kitOne K (.type "tuple") (.ref cJars) = some false
  alJars_list : PySem.W.subIn K (.ref cJars) (.type "list") = some false
  ikJars_list : PySem.W.kitOne K (.type "list") (.ref cJars) = some false
  kbJars_sizes : KBn K dJarsInit ["self", "sizes"] 1 ["sizes"] (fun us ws => us ++ ws) (fun vs zs => vs ++ zs)
  kbChange_a_b : KBn K dChangeInit ["self", "a", "b"] 1 ["a", "b"] (fun us ws => us ++ ws) (fun vs zs => vs ++ zs)
  kbPour_b_a : KBn K dPourInit ["self", "a", "b"] 1 ["b", "a"] (fun us ws => us ++ ws.reverse) (fun vs zs => vs ++ zs.reverse)
  kbPut_k_a : KBn K dPutInit ["self", "a", "k"] 1 ["k", "a"] (fun us ws => us ++ ws.reverse) (fun vs zs => vs ++ zs.reverse)
  kbDraw_a_k : KBn K dDrawInit ["self", "a", "k"] 1 ["a", "k"] (fun us ws => us ++ ws) (fun vs zs => vs ++ zs)
  cMOSTJARS : mg "MOST_JARS" = some (.int 6 tMOSTJARS)
  cMOSTMUCH : mg "MOST_MUCH" = some (.int 1000000000000 tMOSTMUCH)
  nabs : mg "abs" = none
  nisinstance : mg "isinstance" = none
  nlen : mg "len" = none
  nlist : mg "list" = none
  nrange : mg "range" = none
  ntuple : mg "tuple" = none
/-! ### fields -/
theorem put2 {a b : Str} {u v : V} (h : ¬ a = b) : putF b v (putF a u []) = ([(a, u), (b, v)] : List (Str × V)) := by
  show (if a = b then [(a, v)] else (a, u) :: putF b v []) = [(a, u), (b, v)]
  rw [if_neg h]
  rfl
theorem lk1 {a : Str} {x : V} {r : List (Str × V)} : List.lookup a ((a, x) :: r) = some x := by simp [List.lookup]
theorem lk2 {a b : Str} {x y : V} (h : ¬ b = a) : List.lookup b [(a, x), (b, y)] = some y := by
  have : (b == a) = false := by simpa using h
  simp [List.lookup, this]
/-! ### things in the heap -/
section
variable {K : PySem.W.Frag} {mg : Str → Option Value}
def f1s (a : Str) (x : V) : List (Str × V) := [(a, x)]
def f2s (a : Str) (x : V) (b : Str) (y : V) : List (Str × V) := [(a, x), (b, y)]
def DeedAt (T : Tx K mg) (H : Hp) (v : V) (d : D) : Prop := ∃ p dx, v = .ref p ∧ match d with
  | .pour a b => H p = some (.ins T.cPour dx (f2s "a" (.int a) "b" (.int b)))
  | .put a k => H p = some (.ins T.cPut dx (f2s "a" (.int a) "k" (.int k)))
  | .draw a k => H p = some (.ins T.cDraw dx (f2s "a" (.int a) "k" (.int k)))
  | .change a b => H p = some (.ins T.cChange dx (f2s "a" (.int a) "b" (.int b)))
def JarsAt (T : Tx K mg) (H : Hp) (p : Addr) (caps : List Int) : Prop := ∃ dx t, H p = some (.ins T.cJars dx (f1s "sizes" (.ref t))) ∧ H t = some (.tup (vi caps))
theorem DeedAt.same {T : Tx K mg} {H H' : Hp} {v : V} {d : D} (e : Same H H') (h : DeedAt T H v d) : DeedAt T H' v d := by
  obtain ⟨p, dx, rfl, h⟩ := h
  refine ⟨p, dx, rfl, ?_⟩
  cases d <;> exact e _ _ h
theorem JarsAt.same {T : Tx K mg} {H H' : Hp} {p : Addr} {caps : List Int} (e : Same H H') (h : JarsAt T H p caps) : JarsAt T H' p caps := by
  obtain ⟨dx, t, h1, h2⟩ := h
  exact ⟨dx, t, e _ _ h1, e _ _ h2⟩
/-- a list, or an instance without fields: what a def may change -/
def Blank (o : HO) : Prop := (∃ ws, o = .lst ws) ∨ ∃ C dx, o = .ins C dx []
theorem bl_l {ws : List V} : Blank (.lst ws) := .inl ⟨ws, rfl⟩
theorem bl_i {C dx : Addr} : Blank (.ins C dx []) := .inr ⟨C, dx, rfl⟩
theorem nb1 {C dx : Addr} {a : Str} {x : V} : ¬ Blank (.ins C dx (f1s a x)) := by
  rintro (⟨_, z⟩ | ⟨_, _, z⟩)
  · cases z
  · injection z with _ _ z
    cases z
theorem nb2 {C dx : Addr} {a b : Str} {x y : V} : ¬ Blank (.ins C dx (f2s a x b y)) := by
  rintro (⟨_, z⟩ | ⟨_, _, z⟩)
  · cases z
  · injection z with _ _ z
    cases z
theorem nbT {xs : List V} : ¬ Blank (.tup xs) := by
  rintro (⟨_, z⟩ | ⟨_, _, z⟩) <;> cases z
/-- all but one thing at w stays: what is no list stays -/
theorem fr_no {w : Addr} {H H' : Hp} {u : HO} {b : Addr} {o : HO} (e : Fr w H H') (hw : H w = some u) (hb : Blank u) (h : H b = some o) (n : ¬ Blank o) : H' b = some o :=
  e b o (fun z => by rw [z, hw] at h; cases h; exact n hb) h
theorem DeedAt.fr {T : Tx K mg} {w : Addr} {H H' : Hp} {u : HO} {v : V} {d : D} (e : Fr w H H') (hw : H w = some u) (hb : Blank u) (h : DeedAt T H v d) : DeedAt T H' v d := by
  obtain ⟨p, dx, rfl, h⟩ := h
  refine ⟨p, dx, rfl, ?_⟩
  cases d <;> exact fr_no e hw hb h nb2
theorem JarsAt.fr {T : Tx K mg} {w : Addr} {H H' : Hp} {u : HO} {p : Addr} {caps : List Int} (e : Fr w H H') (hw : H w = some u) (hb : Blank u) (h : JarsAt T H p caps) : JarsAt T H' p caps := by
  obtain ⟨dx, t, h1, h2⟩ := h
  exact ⟨dx, t, fr_no e hw hb h1 nb1, fr_no e hw hb h2 nbT⟩
/-! ### the promises of the program's defs -/
def okN (c : Int) : Bool := decide (1 ≤ c) && decide (c ≤ 1000000000000)
def bads (l : List Int) : List Int := l.filter fun c => !okN c
def BadAt (H : Hp) (d : Addr) (x : Str) (n : Int) : Prop := ∃ fs, H d = some (.xd fs) ∧ fs.lookup ("what" : Str) = some (.str x) ∧ fs.lookup ("count" : Str) = some (.int n)
def bE (T : Tx K mg) (H : Hp) (E : XK) (x : Str) (n : Int) : Prop := ∀ (H' : Hp) (d : Addr), BadAt H' d x n → Same H H' → E (.ref T.cBadCount) (some d) H'
def spBadCountInit (T : Tx K mg) : Sp := fun vs H Q _ => ∃ (a : Addr) (x : Str) (n : Int), vs = [.ref a, .str x, .int n] ∧ H a = some (exo a T.cBadCount none) ∧
  ∀ (H' : Hp) (d : Addr), H d = none → d ≠ a → H' a = some (exo a T.cBadCount (some d)) → H' d = some (exd d (f2s "count" (.int n) "what" (.str x))) → Fr a H H' → Q .non H'
def spcheckmuch (T : Tx K mg) : Sp := fun vs H Q E => ∃ (x : Str) (n : Int), vs = [.str x, .int n] ∧ (okN n = true → Q .non H) ∧ (okN n = false → bE T H E x n)
def spJarsOf (T : Tx K mg) (S : Hp → Addr → List Int → Prop) : Sp := fun vs H Q E => ∃ (p dx a : Addr) (caps : List Int), vs = [.ref p, .ref a] ∧ H p = some (.ins T.cJars dx []) ∧ S H a caps ∧ caps.length ≤ 1000 ∧
  (¬ (1 ≤ caps.length ∧ caps.length ≤ 6) → bE T H E "jars" caps.length) ∧ (1 ≤ caps.length ∧ caps.length ≤ 6 → ∀ z r, bads caps = z :: r → bE T H E "size" z) ∧
  (1 ≤ caps.length ∧ caps.length ≤ 6 → bads caps = [] → ∀ H', JarsAt T H' p caps → Fr p H H' → Q .non H')
def spJarsL (T : Tx K mg) : Sp := spJarsOf T fun H a caps => SqL K H a (vi caps)
def spJarsT (T : Tx K mg) : Sp := spJarsOf T fun H a caps => H a = some (.tup (vi caps))
def spJarsInit (T : Tx K mg) : Sp := spJarsOf T fun H a caps => SqL K H a (vi caps) ∨ H a = some (.tup (vi caps))
/-- an __init__ that stores two ints -/
def spTwo (C : Addr) (f g : Str) : Sp := fun vs H Q _ => ∃ (p dx : Addr) (u v : V), vs = [.ref p, u, v] ∧ H p = some (.ins C dx []) ∧ ∀ H', H' p = some (.ins C dx (f2s f u g v)) → Fr p H H' → Q .non H'
def spPourInit (T : Tx K mg) : Sp := spTwo T.cPour "a" "b"
def spPutInit (T : Tx K mg) : Sp := spTwo T.cPut "a" "k"
def spDrawInit (T : Tx K mg) : Sp := spTwo T.cDraw "a" "k"
def spChangeInit (T : Tx K mg) : Sp := spTwo T.cChange "a" "b"
def RJars (T : Tx K mg) (a : Addr) (y : V) (b : Bool) (H : Hp) : Prop := ∃ caps, JarsAt T H a caps ∧ ((∃ c caps2, y = .ref c ∧ JarsAt T H c caps2 ∧ b = decide (caps = caps2)) ∨ (Alien K T.cJars H y ∧ b = false))
/-- a deed of one kind against a deed, or against what is none -/
def RDeed (T : Tx K mg) (C : Addr) (k : D → Bool) (a : Addr) (y : V) (b : Bool) (H : Hp) : Prop := ∃ d, k d = true ∧ DeedAt T H (.ref a) d ∧ ((∃ d2, DeedAt T H y d2 ∧ b = decide (d = d2)) ∨ (Alien K C H y ∧ b = false))
def spJarsEq (T : Tx K mg) : Sp := spEqB (RJars T)
end
section
variable {P : Program} {w : World} {K : PySem.W.Frag} {mg : Str → Option Value} {base : Heap}
theorem FnOk.or {CX : CXT} {k : Nat} {f : Addr} {fd : FuncData} {ps : List Str} {s1 s2 s3 : Sp} (F : FnOk P w K mg base CX k f fd ps s1) (G : FnOk P w K mg base CX k f fd ps s2) (h : ∀ vs H Q E, s3 vs H Q E → s1 vs H Q E ∨ s2 vs H Q E) : FnOk P w K mg base CX k f fd ps s3 :=
  ⟨fun vs H Q E q => (h _ _ _ _ q).elim (F.len vs H Q E) (G.len vs H Q E), fun A outer s H args us vs Q E hr he hb hv hs => (h _ _ _ _ hs).elim (F.run A outer s H args us vs Q E hr he hb hv) (G.run A outer s H args us vs Q E hr he hb hv)⟩
/-! ### the program's bodies -/
theorem okBadCountInit (T : Tx K mg) : FnOk P w K mg base CX0 1 T.aBadCountInit T.dBadCountInit ["self", "what", "count"] (spBadCountInit T) := by
  refine T.fBadCountInit.ok scBadCountInit (fun vs H Q E h => ?_) (fun cdv A outer s H vs Q E hr h => ?_)
  · obtain ⟨a, x, n, rfl, _⟩ := h
    rfl
  · obtain ⟨a, x, n, rfl, ha, hq⟩ := h
    refine ⟨_, (pss_cons (ps_ost (pv 0) (pv 1))
      (pss_one (ps_ost (pv 0) (pv 2)))), ?_⟩
    refine ⟨_, rfl, _, rfl, a, _, rfl, T.oBadCount, T.nBadCount_what, .inl ⟨ha, fun d hd ne => ?_⟩⟩
    refine ⟨_, rfl, _, rfl, a, _, rfl, T.oBadCount, T.nBadCount_count, .inr ⟨d, _, upd_same, by rw [upd_ne ne]; exact upd_same, (by show 1 ≤ 900; decide), ?_⟩⟩
    refine hq _ d hd ne (by rw [upd_ne ne.symm]; exact upd_same) upd_same ?_
    exact fun b o n1 e => by
      have n2 := ne_of_none e hd
      rw [upd_ne n2, upd_ne n1, upd_ne n2]
      exact e
/-- an own exception is made: what it leaves -/
theorem bad_made {T : Tx K mg} {H : Hp} {E : XK} {x : Str} {n : Int} (h : bE T H E x n) : ∀ a, H a = none → spBadCountInit T [.ref a, .str x, .int n] (upd H a (exo a T.cBadCount none))
    (fun v H2 => v = .non ∧ ∃ (d : Addr) (fs : List (Str × V)), H2 a = some (exo a T.cBadCount (some d)) ∧ H2 d = some (exd d fs) ∧ H d = none ∧ E (.ref T.cBadCount) (some d) (upd (del H2 a) d (.xd fs))) (fun _ _ _ => False) := fun a ha => by
  refine ⟨a, x, n, rfl, upd_same, fun H' d hd ne e1 e2 fr => ⟨rfl, d, _, e1, e2, by rw [upd_ne ne] at hd; exact hd, ?_⟩⟩
  have hd0 : H d = none := by rw [upd_ne ne] at hd; exact hd
  refine h _ d ⟨_, upd_same, lk2 (by decide +kernel), lk1⟩ fun b o e => ?_
  have n1 := ne_of_none e ha
  have n2 := ne_of_none e hd0
  rw [upd_ne n2, del_ne n1]
  exact fr b o n1 (by rw [upd_ne n1]; exact e)
theorem okcheckmuch (T : Tx K mg) : FnOk P w K mg base (L2.CX P w) 3 T.acheckmuch T.dcheckmuch ["what", "much"] (spcheckmuch T) := by
  refine T.fcheckmuch.okX sccheckmuch (fun vs H Q E h => ?_) (fun cdv A outer s H vs Q E hr h => ?_)
  · obtain ⟨x, n, rfl, _⟩ := h
    rfl
  · obtain ⟨x, n, rfl, h1, h2⟩ := h
    refine ⟨_, (pss_one (ps_if (pt_not (pt_chain op_le op_le pe_int (pv 1) (pe_glob (v := .int 1000000000000) rfl T.cMOSTMUCH ⟨_, rfl⟩))) (pss_one (ps_raise rfl (takes_of rfl rfl rfl rfl) (pmk_oex T.oBadCount T.iBadCount T.tBadCount (okBadCountInit T) (hr.mono (by decide)) T.bBadCountInit .nil pass0 rfl T.mBadCount (pa_cons (pv 0) (pa_cons (pv 1) pa_nil))))) pss_nil)), ?_⟩
    cases ok : okN n with
    | true =>
      have q := h1 ok
      unfold okN at ok
      simp only [Bool.and_eq_true, decide_eq_true_eq] at ok
      refine ⟨_, rfl, _, _, rfl, rfl, _, rfl, ifT (decide_eq_true ok.1) ?_⟩
      exact ⟨_, _, rfl, rfl, _, rfl, iteNS ok.2 q⟩
    | false =>
      have q := h2 ok
      unfold okN at ok
      have bad := bad_made q
      by_cases g : (1 : Int) ≤ n
      · refine ⟨_, rfl, _, _, rfl, rfl, _, rfl, ifT (decide_eq_true g) ?_⟩
        have g2 : ¬ n ≤ 1000000000000 := fun z => by rw [decide_eq_true g, decide_eq_true z] at ok; cases ok
        refine ⟨_, _, rfl, rfl, _, rfl, ?_⟩
        show if (!decide (n ≤ 1000000000000)) = true then _ else _
        rw [decide_eq_false g2]
        refine ifT rfl ?_
        exact ⟨_, rfl, _, rfl, (by show 2 ≤ 1000; decide), bad⟩
      · refine ⟨_, rfl, _, _, rfl, rfl, _, rfl, ifF (decide_eq_false g) ?_⟩
        exact ⟨_, rfl, ifT rfl ⟨_, rfl, _, rfl, (by show 2 ≤ 1000; decide), bad⟩⟩
theorem okPourInit (T : Tx K mg) : FnOk P w K mg base CX0 1 T.aPourInit T.dPourInit ["self", "a", "b"] (spPourInit T) := by
  refine T.fPourInit.ok scPourInit (fun vs H Q E h => ?_) (fun cdv A outer s H vs Q E hr h => ?_)
  · obtain ⟨p, dx, u, v, rfl, _⟩ := h
    rfl
  · obtain ⟨p, dx, u, v, rfl, hp, hq⟩ := h
    refine ⟨_, (pss_cons (ps_fld (pv 0) (pv 1) rfl)
      (pss_one (ps_fld (pv 0) (pv 2) rfl))), ?_⟩
    refine ⟨_, rfl, _, rfl, p, _, dx, _, rfl, hp, T.lPour, T.nPour_a, (by show 0 < 1000; decide), ?_⟩
    refine ⟨_, rfl, _, rfl, p, _, dx, _, rfl, upd_same, T.lPour, T.nPour_b, (by show 1 < 1000; decide), ?_⟩
    refine hq _ ?_ (fr_mut (fr_mut (Fr.refl _ _)))
    rw [upd_same, put2 (by decide +kernel)]
    rfl
theorem okPutInit (T : Tx K mg) : FnOk P w K mg base CX0 1 T.aPutInit T.dPutInit ["self", "a", "k"] (spPutInit T) := by
  refine T.fPutInit.ok scPutInit (fun vs H Q E h => ?_) (fun cdv A outer s H vs Q E hr h => ?_)
  · obtain ⟨p, dx, u, v, rfl, _⟩ := h
    rfl
  · obtain ⟨p, dx, u, v, rfl, hp, hq⟩ := h
    refine ⟨_, (pss_cons (ps_fld (pv 0) (pv 1) rfl)
      (pss_one (ps_fld (pv 0) (pv 2) rfl))), ?_⟩
    refine ⟨_, rfl, _, rfl, p, _, dx, _, rfl, hp, T.lPut, T.nPut_a, (by show 0 < 1000; decide), ?_⟩
    refine ⟨_, rfl, _, rfl, p, _, dx, _, rfl, upd_same, T.lPut, T.nPut_k, (by show 1 < 1000; decide), ?_⟩
    refine hq _ ?_ (fr_mut (fr_mut (Fr.refl _ _)))
    rw [upd_same, put2 (by decide +kernel)]
    rfl
theorem okDrawInit (T : Tx K mg) : FnOk P w K mg base CX0 1 T.aDrawInit T.dDrawInit ["self", "a", "k"] (spDrawInit T) := by
  refine T.fDrawInit.ok scDrawInit (fun vs H Q E h => ?_) (fun cdv A outer s H vs Q E hr h => ?_)
  · obtain ⟨p, dx, u, v, rfl, _⟩ := h
    rfl
  · obtain ⟨p, dx, u, v, rfl, hp, hq⟩ := h
    refine ⟨_, (pss_cons (ps_fld (pv 0) (pv 1) rfl)
      (pss_one (ps_fld (pv 0) (pv 2) rfl))), ?_⟩
    refine ⟨_, rfl, _, rfl, p, _, dx, _, rfl, hp, T.lDraw, T.nDraw_a, (by show 0 < 1000; decide), ?_⟩
    refine ⟨_, rfl, _, rfl, p, _, dx, _, rfl, upd_same, T.lDraw, T.nDraw_k, (by show 1 < 1000; decide), ?_⟩
    refine hq _ ?_ (fr_mut (fr_mut (Fr.refl _ _)))
    rw [upd_same, put2 (by decide +kernel)]
    rfl
theorem okChangeInit (T : Tx K mg) : FnOk P w K mg base CX0 1 T.aChangeInit T.dChangeInit ["self", "a", "b"] (spChangeInit T) := by
  refine T.fChangeInit.ok scChangeInit (fun vs H Q E h => ?_) (fun cdv A outer s H vs Q E hr h => ?_)
  · obtain ⟨p, dx, u, v, rfl, _⟩ := h
    rfl
  · obtain ⟨p, dx, u, v, rfl, hp, hq⟩ := h
    refine ⟨_, (pss_cons (ps_fld (pv 0) (pv 1) rfl)
      (pss_one (ps_fld (pv 0) (pv 2) rfl))), ?_⟩
    refine ⟨_, rfl, _, rfl, p, _, dx, _, rfl, hp, T.lChange, T.nChange_a, (by show 0 < 1000; decide), ?_⟩
    refine ⟨_, rfl, _, rfl, p, _, dx, _, rfl, upd_same, T.lChange, T.nChange_b, (by show 1 < 1000; decide), ?_⟩
    refine hq _ ?_ (fr_mut (fr_mut (Fr.refl _ _)))
    rw [upd_same, put2 (by decide +kernel)]
    rfl
end
end Kp

namespace Kp
open PySem PySem.Spec PyProof.Rows L2 KpR
theorem bads_take {l : List Int} {i : Nat} {z : Int} (h : bads (l.take i) = []) (hz : l[i]? = some z) : (okN z = true → bads (l.take (i + 1)) = []) ∧ (okN z = false → ∃ r, bads l = z :: r) := by
  have e : l.take (i + 1) = l.take i ++ [z] := by
    rw [List.take_add_one, hz]
    rfl
  refine ⟨fun k => ?_, fun k => ?_⟩
  · rw [e]
    unfold bads at h ⊢
    rw [List.filter_append, h]
    simp [k]
  · refine ⟨bads (l.drop (i + 1)), ?_⟩
    have e2 : l = l.take i ++ z :: l.drop (i + 1) := by
      obtain ⟨lt, q⟩ := List.getElem?_eq_some_iff.mp hz
      rw [← q, ← List.drop_eq_getElem_cons lt, List.take_append_drop]
    conv => lhs; rw [e2]
    unfold bads at h ⊢
    rw [List.filter_append, h, List.filter_cons]
    simp [k]
section
variable {P : Program} {w : World} {K : PySem.W.Frag} {mg : Str → Option Value} {base : Heap}
theorem okJarsL (T : Tx K mg) : FnOk P w K mg base (L2.CX P w) 4 T.aJarsInit T.dJarsInit ["self", "sizes"] (spJarsL T) := by
  refine T.fJarsInit.okX scJarsInit (fun vs H Q E h => ?_) (fun cdv A outer s H vs Q E hr h => ?_)
  · obtain ⟨p, dx, a, caps, rfl, _⟩ := h
    rfl
  · obtain ⟨p, dx, a, caps, rfl, hp, hS, hz, h1, h2, hq⟩ := h
    refine ⟨_, (pss_cons (ps_if (pt_not (pt_chain op_le op_le pe_int (pe_callB call_len_seq rfl T.nlen PySem.boot_len (pa_cons (pv 1) pa_nil)) (pe_glob (v := .int 6) rfl T.cMOSTJARS ⟨_, rfl⟩))) (pss_one (ps_raise rfl (takes_of rfl rfl rfl rfl) (pmk_oex T.oBadCount T.iBadCount T.tBadCount (okBadCountInit T) (hr.mono (by decide)) T.bBadCountInit .nil pass0 rfl T.mBadCount (pa_cons pe_str (pa_cons (pe_callB call_len_seq rfl T.nlen PySem.boot_len (pa_cons (pv 1) pa_nil)) pa_nil))))) pss_nil)
      (pss_cons (ps_for (passes_of rfl) rfl (pi_list (pv 1)) (pg_name (i := 2) scJarsInit.nd rfl (by first | exact Or.inl rfl | exact Or.inr rfl)) (pss_one (ps_expr (pe_call (okcheckmuch T) (hr.mono (by decide)) rfl T.gcheckmuch T.fcheckmuch.kp T.bcheckmuch .nil (passes_call (W := fun c d _ H => E c d H) (takes_of rfl rfl rfl rfl) (fun _ _ _ _ h => h)) (pa_cons pe_str (pa_cons (pv 2) pa_nil))))))
      (pss_one (ps_fld (pv 0) (pe_callTy call_tuple_of rfl T.ntuple (by decide +kernel) (pa_cons (pv 1) pa_nil)) rfl)))), ?_⟩
    have el : (vi caps).length = caps.length := List.length_map ..
    have h1' : ¬ (1 ≤ caps.length ∧ caps.length ≤ 6) → bE T H E "jars" ((vi caps).length : Int) := by
      rw [el]
      exact h1
    refine ⟨_, rfl, a, _, rfl, .inl hS, 1, _, rfl, rfl, _, rfl, ?_⟩
    by_cases g1 : 1 ≤ caps.length
    · refine ifT (decide_eq_true (by rw [el]; omega)) ?_
      refine ⟨_, _, rfl, rfl, _, rfl, ?_⟩
      by_cases g2 : caps.length ≤ 6
      · refine iteNS (by rw [el]; omega) ?_
        have h3 := h2 ⟨g1, g2⟩
        have hq := hq ⟨g1, g2⟩
        refine ⟨_, rfl, a, rfl, ⟨_, hS⟩, for_list (K := K) (a := a) (xs := vi caps) (fun i σ H' => ∃ v : Option V, σ = [some (.ref p), some (.ref a), v] ∧ H' = H ∧ bads (caps.take i) = []) ⟨none, rfl, rfl, rfl⟩ (fun i σ H' _ ⟨_, _, e, _⟩ => by rw [e]; exact hS) ?_ ?_⟩
        · rintro i y σ H' hi ⟨v, rfl, rfl, hb⟩
          obtain ⟨z, hz, rfl⟩ := vi_get hi
          obtain ⟨b1, b2⟩ := bads_take hb hz
          refine ⟨_, rfl, "size", z, rfl, fun ok => ⟨some (.int z), rfl, rfl, b1 ok⟩, fun no => ?_⟩
          obtain ⟨r, e⟩ := b2 no
          exact h3 z r e
        · rintro σ H' ⟨v, rfl, rfl, hb⟩
          rw [el, List.take_length] at hb
          refine ⟨_, rfl, a, _, rfl, .inl ⟨hS, fun t ht => ?_⟩⟩
          have n : p ≠ t := ne_of_none hp ht
          refine ⟨_, rfl, p, _, dx, _, rfl, (by rw [upd_ne n]; exact hp), T.lJars, T.nJars_sizes, (by show 0 < 1000; decide), ?_⟩
          refine hq hb _ ⟨dx, t, upd_same, by rw [upd_ne n.symm]; exact upd_same⟩ (fr_mut (fr_new (Fr.refl _ _) ht))
      · refine (congrArg (fun c : Bool => if (!c) = true then _ else _) (decide_eq_false (by rw [el]; omega))).mpr ?_
        exact ifT rfl ⟨_, rfl, a, _, rfl, .inl hS, (by show 2 ≤ 1000; decide), bad_made (h1' fun z => g2 z.2)⟩
    · refine ifF (decide_eq_false (by rw [el]; omega)) ?_
      exact ⟨_, rfl, ifT rfl ⟨_, rfl, a, _, rfl, .inl hS, (by show 2 ≤ 1000; decide), bad_made (h1' fun z => g1 z.1)⟩⟩
theorem okJarsT (T : Tx K mg) : FnOk P w K mg base (L2.CX P w) 4 T.aJarsInit T.dJarsInit ["self", "sizes"] (spJarsT T) := by
  refine T.fJarsInit.okX scJarsInit (fun vs H Q E h => ?_) (fun cdv A outer s H vs Q E hr h => ?_)
  · obtain ⟨p, dx, a, caps, rfl, _⟩ := h
    rfl
  · obtain ⟨p, dx, a, caps, rfl, hp, hS, hz, h1, h2, hq⟩ := h
    refine ⟨_, (pss_cons (ps_if (pt_not (pt_chain op_le op_le pe_int (pe_callB call_len_seq rfl T.nlen PySem.boot_len (pa_cons (pv 1) pa_nil)) (pe_glob (v := .int 6) rfl T.cMOSTJARS ⟨_, rfl⟩))) (pss_one (ps_raise rfl (takes_of rfl rfl rfl rfl) (pmk_oex T.oBadCount T.iBadCount T.tBadCount (okBadCountInit T) (hr.mono (by decide)) T.bBadCountInit .nil pass0 rfl T.mBadCount (pa_cons pe_str (pa_cons (pe_callB call_len_seq rfl T.nlen PySem.boot_len (pa_cons (pv 1) pa_nil)) pa_nil))))) pss_nil)
      (pss_cons (ps_for (passes_of rfl) rfl (pi_tup (pv 1)) (pg_name (i := 2) scJarsInit.nd rfl (by first | exact Or.inl rfl | exact Or.inr rfl)) (pss_one (ps_expr (pe_call (okcheckmuch T) (hr.mono (by decide)) rfl T.gcheckmuch T.fcheckmuch.kp T.bcheckmuch .nil (passes_call (W := fun c d _ H => E c d H) (takes_of rfl rfl rfl rfl) (fun _ _ _ _ h => h)) (pa_cons pe_str (pa_cons (pv 2) pa_nil))))))
      (pss_one (ps_fld (pv 0) (pe_callTy call_tuple_of rfl T.ntuple (by decide +kernel) (pa_cons (pv 1) pa_nil)) rfl)))), ?_⟩
    have el : (vi caps).length = caps.length := List.length_map ..
    have h1' : ¬ (1 ≤ caps.length ∧ caps.length ≤ 6) → bE T H E "jars" ((vi caps).length : Int) := by
      rw [el]
      exact h1
    refine ⟨_, rfl, a, _, rfl, .inr (SqT.of hS), 1, _, rfl, rfl, _, rfl, ?_⟩
    by_cases g1 : 1 ≤ caps.length
    · refine ifT (decide_eq_true (by rw [el]; omega)) ?_
      refine ⟨_, _, rfl, rfl, _, rfl, ?_⟩
      by_cases g2 : caps.length ≤ 6
      · refine iteNS (by rw [el]; omega) ?_
        have h3 := h2 ⟨g1, g2⟩
        have hq := hq ⟨g1, g2⟩
        refine ⟨_, rfl, a, rfl, ⟨_, SqT.of hS⟩, for_tup (K := K) (a := a) (xs := vi caps) (fun i σ H' => ∃ v : Option V, σ = [some (.ref p), some (.ref a), v] ∧ H' = H ∧ bads (caps.take i) = []) ⟨none, rfl, rfl, rfl⟩ (fun i σ H' _ ⟨_, _, e, _⟩ => by rw [e]; exact SqT.of hS) ?_ ?_⟩
        · rintro i y σ H' hi ⟨v, rfl, rfl, hb⟩
          obtain ⟨z, hz, rfl⟩ := vi_get hi
          obtain ⟨b1, b2⟩ := bads_take hb hz
          refine ⟨_, rfl, "size", z, rfl, fun ok => ⟨some (.int z), rfl, rfl, b1 ok⟩, fun no => ?_⟩
          obtain ⟨r, e⟩ := b2 no
          exact h3 z r e
        · rintro σ H' ⟨v, rfl, rfl, hb⟩
          rw [el, List.take_length] at hb
          refine ⟨_, rfl, a, _, rfl, .inr ⟨SqT.of hS, ?_⟩⟩
          have n : a ≠ p := ne_of hS hp (by intro z; cases z)
          refine ⟨_, rfl, p, _, dx, _, rfl, hp, T.lJars, T.nJars_sizes, (by show 0 < 1000; decide), ?_⟩
          refine hq hb _ ⟨dx, a, upd_same, by rw [upd_ne n]; exact hS⟩ (fr_mut (Fr.refl _ _))
      · refine (congrArg (fun c : Bool => if (!c) = true then _ else _) (decide_eq_false (by rw [el]; omega))).mpr ?_
        exact ifT rfl ⟨_, rfl, a, _, rfl, .inr (SqT.of hS), (by show 2 ≤ 1000; decide), bad_made (h1' fun z => g2 z.2)⟩
    · refine ifF (decide_eq_false (by rw [el]; omega)) ?_
      exact ⟨_, rfl, ifT rfl ⟨_, rfl, a, _, rfl, .inr (SqT.of hS), (by show 2 ≤ 1000; decide), bad_made (h1' fun z => g1 z.1)⟩⟩
theorem okJarsInit (T : Tx K mg) : FnOk P w K mg base (L2.CX P w) 4 T.aJarsInit T.dJarsInit ["self", "sizes"] (spJarsInit T) :=
  FnOk.or (okJarsL T) (okJarsT T) fun vs H Q E h => by
    obtain ⟨p, dx, a, caps, e, hp, hS, r⟩ := h
    rcases hS with hS | hS
    · exact .inl ⟨p, dx, a, caps, e, hp, hS, r⟩
    · exact .inr ⟨p, dx, a, caps, e, hp, hS, r⟩
end
end Kp

namespace Kp
open PySem PySem.Spec PyProof.Rows L2 KpR
/-! ### lists of ints compared; slices -/
def pdI (l : List Int) : List PyData := l.map PyData.int
section
variable {K : PySem.W.Frag} {H : Hp}
theorem dpI : ∀ l : List Int, DpAll K H (vi l) (pdI l)
  | [] => .nil
  | i :: l => .cons (.int i) (dpI l)
theorem lay_i : ∀ l : List Int, PyData.canLayAll0 (pdI l) = true
  | [] => by simp [pdI, PyData.canLayAll0]
  | i :: l => by
    have := lay_i l
    simp only [pdI, List.map_cons, PyData.canLayAll0, PyData.canLay0, Bool.true_and]
    exact this
theorem dep_i : ∀ l : List Int, PyData.depthAll (pdI l) = 0
  | [] => by simp [pdI, PyData.depthAll]
  | i :: l => by
    have := dep_i l
    simp only [pdI, List.map_cons, PyData.depthAll, PyData.depth]
    rw [show PyData.depthAll (List.map PyData.int l) = 0 from this]
    rfl
theorem shape_i (l : List Int) : SeqAt.shaped (.list (pdI l)) = true := by
  unfold SeqAt.shaped
  simp only [PyData.canLay0, PyData.depth, lay_i, dep_i]
  rfl
theorem eqv_i : ∀ l m : List Int, PyData.eqvAll (pdI l) (pdI m) = decide (l = m)
  | [], [] => by simp [pdI, PyData.eqvAll]
  | [], _ :: _ => by simp [pdI, PyData.eqvAll]
  | _ :: _, [] => by simp [pdI, PyData.eqvAll]
  | i :: l, j :: m => by
    have := eqv_i l m
    simp only [pdI, List.map_cons, PyData.eqvAll, PyData.eqv]
    rw [show PyData.eqvAll (List.map PyData.int l) (List.map PyData.int m) = decide (l = m) from this]
    by_cases h1 : i = j
    · by_cases h2 : l = m <;> simp [h1, h2]
    · simp [h1]
theorem ne_ints {a b : Addr} {l m : List Int} {Q : VK} (h1 : SqL K H a (vi l)) (h2 : SqL K H b (vi m)) (e : l = m) (q : Q (.bl false) H) : rNeD K (.ref a) (.ref b) H Q := by
  refine ⟨_, _, .lst h1 (dpI l), .lst h2 (dpI m), shape_i l, shape_i m, ?_⟩
  have z : PyData.eqv (.list (pdI l)) (.list (pdI m)) = true := by
    simp only [PyData.eqv, eqv_i]
    exact decide_eq_true e
  rw [z]
  exact q
theorem eq_ints {a b : Addr} {l m : List Int} {Q : VK} (h1 : SqL K H a (vi l)) (h2 : SqL K H b (vi m)) (q : Q (.bl (decide (l = m))) H) : rEqD K (.ref a) (.ref b) H Q := by
  refine ⟨_, _, .lst h1 (dpI l), .lst h2 (dpI m), shape_i l, shape_i m, ?_⟩
  have z : PyData.eqv (.list (pdI l)) (.list (pdI m)) = decide (l = m) := by simp only [PyData.eqv, eqv_i]
  rw [z]
  exact q
end
theorem cut_take {xs : List V} {n : Nat} : cutV xs none (some (n : Int)) = xs.take n := by
  unfold cutV
  rw [HT.sIx_nat, HT.sIx_none, List.drop_zero, Nat.sub_zero]
  by_cases h : n ≤ xs.length
  · rw [Nat.min_eq_left h]
  · rw [Nat.min_eq_right (by omega), List.take_length, List.take_of_length_le (by omega)]
theorem cut_drop {xs : List V} {n : Nat} (h : n ≤ xs.length) : cutV xs (some (n : Int)) none = xs.drop n := by
  unfold cutV
  rw [HT.sIx_nat, HT.sIx_none, Nat.min_eq_left h]
  exact List.take_of_length_le (by rw [List.length_drop]; omega)
section
variable {K : PySem.W.Frag} {H : Hp}
/-- a written list of ints, one of which is drawn -/
theorem pickL {l : Addr} {xs : List Int} {n : Nat} {Q : VK} (h : SqL K H l (vi xs)) (hn : n < xs.length) (q : Q (.int (at0 xs n)) H) : rIxL K (.ref l) (.int n) H Q := ⟨l, _, _, _, rfl, rfl, h, vi_at hn, q⟩
end
end Kp
namespace Kp
open PySem PySem.Spec PyProof.Rows L2 KpR
section
variable {P : Program} {w : World} {K : PySem.W.Frag} {mg : Str → Option Value} {base : Heap}
/-! ### isinstance of a deed -/
def D.cls (T : Tx K mg) : D → Addr
  | .pour _ _ => T.cPour
  | .put _ _ => T.cPut
  | .draw _ _ => T.cDraw
  | .change _ _ => T.cChange
def D.fst : D → Nat
  | .pour a _ => a
  | .put a _ => a
  | .draw a _ => a
  | .change a _ => a
def D.fs : D → List (Str × V)
  | .pour a b => f2s "a" (.int a) "b" (.int b)
  | .put a k => f2s "a" (.int a) "k" (.int k)
  | .draw a k => f2s "a" (.int a) "k" (.int k)
  | .change a b => f2s "a" (.int a) "b" (.int b)
theorem deed_at {T : Tx K mg} {H : Hp} {v : V} {d : D} (h : DeedAt T H v d) : ∃ p dx, v = .ref p ∧ H p = some (.ins (d.cls T) dx d.fs) := by
  obtain ⟨p, dx, rfl, h⟩ := h
  cases d <;> exact ⟨p, dx, rfl, h⟩
theorem cls_cls (T : Tx K mg) (d : D) : Cls K (d.cls T) := by
  cases d
  · exact T.lPour
  · exact T.lPut
  · exact T.lDraw
  · exact T.lChange
theorem no_a (T : Tx K mg) (d : D) : NoAttr K (d.cls T) "a" := by
  cases d
  · exact T.nPour_a
  · exact T.nPut_a
  · exact T.nDraw_a
  · exact T.nChange_a
theorem fs_a (d : D) : d.fs.lookup ("a" : Str) = some (.int d.fst) := by
  cases d <;> exact lk1
theorem ty_deed {T : Tx K mg} {H : Hp} {p dx : Addr} {d : D} (h : H p = some (.ins (d.cls T) dx d.fs)) : TyX K H (.ref p) (.ref (d.cls T)) := by
  refine .base ?_
  cases d
  · exact .ins h T.lPour T.yPour.ha T.yPour.hn T.yPour.ht T.yPour.hm
  · exact .ins h T.lPut T.yPut.ha T.yPut.hn T.yPut.ht T.yPut.hm
  · exact .ins h T.lDraw T.yDraw.ha T.yDraw.hn T.yDraw.ht T.yDraw.hm
  · exact .ins h T.lChange T.yChange.ha T.yChange.hn T.yChange.ht T.yChange.hm
def D.isPut : D → Bool
  | .put _ _ => true
  | _ => false
def D.isDraw : D → Bool
  | .draw _ _ => true
  | _ => false
def D.isPour : D → Bool
  | .pour _ _ => true
  | _ => false
def D.isChange : D → Bool
  | .change _ _ => true
  | _ => false
theorem is_put (T : Tx K mg) (d : D) : PySem.W.kitOne K (.ref (d.cls T)) (.ref T.cPut) = some d.isPut := by
  cases d
  · exact T.iPour_Put
  · exact T.iPut_Put
  · exact T.iDraw_Put
  · exact T.iChange_Put
theorem is_draw (T : Tx K mg) (d : D) : PySem.W.kitOne K (.ref (d.cls T)) (.ref T.cDraw) = some d.isDraw := by
  cases d
  · exact T.iPour_Draw
  · exact T.iPut_Draw
  · exact T.iDraw_Draw
  · exact T.iChange_Draw
theorem is_pour (T : Tx K mg) (d : D) : PySem.W.kitOne K (.ref (d.cls T)) (.ref T.cPour) = some d.isPour := by
  cases d
  · exact T.iPour_Pour
  · exact T.iPut_Pour
  · exact T.iDraw_Pour
  · exact T.iChange_Pour
theorem is_change (T : Tx K mg) (d : D) : PySem.W.kitOne K (.ref (d.cls T)) (.ref T.cChange) = some d.isChange := by
  cases d
  · exact T.iPour_Change
  · exact T.iPut_Change
  · exact T.iDraw_Change
  · exact T.iChange_Change
end
end Kp

namespace Kp
open PySem PySem.Spec PyProof.Rows L2 KpR
section
variable {K : PySem.W.Frag} {H : Hp}
theorem eq_tupsB {a b : Addr} {l m : List Int} {Q : VK} (h1 : SqT K H a (vi l)) (h2 : SqT K H b (vi m)) (q : Q (.bl (decide (l = m))) H) : rEqD K (.ref a) (.ref b) H Q := by
  have sh : ∀ l : List Int, SeqAt.shaped (.tuple (pdI l)) = true := fun l => by
    unfold SeqAt.shaped
    simp only [PyData.canLay0, PyData.depth, lay_i, dep_i]
    rfl
  refine ⟨_, _, .tup h1 (dpI l), .tup h2 (dpI m), sh l, sh m, ?_⟩
  have z : PyData.eqv (.tuple (pdI l)) (.tuple (pdI m)) = decide (l = m) := by simp only [PyData.eqv, eqv_i]
  rw [z]
  exact q
theorem alien_ty {C : Addr} {y : V} (h : Alien K C H y) (k1 : PySem.W.kitOne K (.type "NoneType") (.ref C) = some false) (k2 : PySem.W.kitOne K (.type "int") (.ref C) = some false) (k3 : PySem.W.kitOne K (.type "tuple") (.ref C) = some false)
    (k4 : PySem.W.kitOne K (.type "list") (.ref C) = some false) : ∃ t, TyX K H y t ∧ PySem.W.kitOne K t (.ref C) = some false := by
  cases h with
  | non _ => exact ⟨_, .base .non, k1⟩
  | int _ => exact ⟨_, .base (.int _), k2⟩
  | lst _ e => exact ⟨_, .base (.lst e), k4⟩
  | tup _ e => exact ⟨_, .base (.tup e), k3⟩
end
section
variable {P : Program} {w : World} {K : PySem.W.Frag} {mg : Str → Option Value} {base : Heap}
theorem okJarsEq (T : Tx K mg) : FnOk P w K mg base CX0 1 T.aJarsEq T.dJarsEq ["self", "other"] (spJarsEq T) := by
  refine T.fJarsEq.ok scJarsEq (fun vs H Q E h => ?_) (fun cdv A outer s H vs Q E hr h => ?_)
  · obtain ⟨a, y, b, rfl, _⟩ := h
    rfl
  · obtain ⟨a, y, b, rfl, ⟨caps, ⟨dx, t, h1, h2⟩, hc⟩, hq⟩ := h
    refine ⟨_, (pss_one (ps_ret (pe_and (pe_callB call_isi rfl T.nisinstance (by decide +kernel) (pa_cons (pv 1) (pa_cons (pe_glob (v := .ref T.cJars) rfl T.mJars rfl) pa_nil))) (pe_one (pe_cmpR (r := rEqD K) (op_eqD hr.units) (pe_fld (pv 0) rfl) (pe_fld (pv 1) rfl) (nomark _)))))), ?_⟩
    rcases hc with ⟨c, caps2, rfl, ⟨dy, u, g1, g2⟩, rfl⟩ | ⟨al, rfl⟩
    · refine ⟨_, rfl, .ref c, .ref T.cJars, _, _, true, rfl, .own _, .base (.ins g1 T.lJars T.yJars.ha T.yJars.hn T.yJars.ht T.yJars.hm), T.iJars_Jars, _, rfl, ifT rfl ?_⟩
      exact ⟨_, rfl, a, _, dx, _, _, rfl, h1, T.lJars, T.nJars_sizes, lk1, _, rfl, c, _, dy, _, _, rfl, g1, T.lJars, T.nJars_sizes, lk1, eq_tupsB (SqT.of h2) (SqT.of g2) (hq _ Ext.rfl')⟩
    · obtain ⟨ty, tx, kx⟩ := alien_ty al T.ikJars_NoneType T.ikJars_int T.ikJars_tuple T.ikJars_list
      exact ⟨_, rfl, y, .ref T.cJars, _, _, false, rfl, .own _, tx, kx, _, rfl, ifF rfl (hq _ Ext.rfl')⟩
def spPourEq (T : Tx K mg) : Sp := spEqB (RDeed T T.cPour D.isPour)
theorem okPourEq (T : Tx K mg) : FnOk P w K mg base CX0 1 T.aPourEq T.dPourEq ["self", "other"] (spPourEq T) := by
  refine T.fPourEq.ok scPourEq (fun vs H Q E h => ?_) (fun cdv A outer s H vs Q E hr h => ?_)
  · obtain ⟨a, y, b, rfl, _⟩ := h
    rfl
  · obtain ⟨a, y, b, rfl, ⟨d, k, ⟨p, dx, e1, h1⟩, hc⟩, hq⟩ := h
    cases e1
    refine ⟨_, (pss_one (ps_ret (pe_and (pe_callB call_isi rfl T.nisinstance (by decide +kernel) (pa_cons (pv 1) (pa_cons (pe_glob (v := .ref T.cPour) rfl T.mPour rfl) pa_nil))) (pe_and (pe_cmpR op_eq (pe_fld (pv 0) rfl) (pe_fld (pv 1) rfl) (nomark _)) (pe_one (pe_cmpR op_eq (pe_fld (pv 0) rfl) (pe_fld (pv 1) rfl) (nomark _))))))), ?_⟩
    cases d with
    | pour x1 x2 =>
      rcases hc with ⟨d2, hd2, rfl⟩ | ⟨al, rfl⟩
      · obtain ⟨q, dy, rfl, g1⟩ := deed_at hd2
        refine ⟨_, rfl, .ref q, .ref T.cPour, _, _, _, rfl, .own _, ty_deed g1, is_pour T d2, _, rfl, ?_⟩
        cases d2 with
        | pour z1 z2 =>
          refine ifT rfl ⟨_, rfl, a, _, dx, _, _, rfl, h1, T.lPour, T.nPour_a, lk1, _, rfl, q, _, dy, _, _, rfl, g1, T.lPour, T.nPour_a, lk1, rfl, _, rfl, ifD (fun e => ?_) fun e => ?_⟩
          · refine ⟨_, rfl, a, _, dx, _, _, rfl, h1, T.lPour, T.nPour_b, lk2 (by decide +kernel), _, rfl, q, _, dy, _, _, rfl, g1, T.lPour, T.nPour_b, lk2 (by decide +kernel), rfl, ?_⟩
            refine (congrArg (fun c => Q (V.bl c) H) (decide_eq_decide.mpr ?_)).mpr (hq _ Ext.rfl')
            injection e with e
            have e := e
            simp
            omega
          · refine (congrArg (fun c => Q (V.bl c) H) (decide_eq_false fun z => ?_).symm).mpr (hq _ Ext.rfl')
            injection z with z1 z2
            subst z1
            exact e rfl
        | put _ _ => exact ifF rfl (hq _ Ext.rfl')
        | draw _ _ => exact ifF rfl (hq _ Ext.rfl')
        | change _ _ => exact ifF rfl (hq _ Ext.rfl')
      · obtain ⟨ty, tx, kx⟩ := alien_ty al T.ikPour_NoneType T.ikPour_int T.ikPour_tuple T.ikPour_list
        exact ⟨_, rfl, y, .ref T.cPour, _, _, false, rfl, .own _, tx, kx, _, rfl, ifF rfl (hq _ Ext.rfl')⟩
    | put _ _ => cases k
    | draw _ _ => cases k
    | change _ _ => cases k
def spPutEq (T : Tx K mg) : Sp := spEqB (RDeed T T.cPut D.isPut)
theorem okPutEq (T : Tx K mg) : FnOk P w K mg base CX0 1 T.aPutEq T.dPutEq ["self", "other"] (spPutEq T) := by
  refine T.fPutEq.ok scPutEq (fun vs H Q E h => ?_) (fun cdv A outer s H vs Q E hr h => ?_)
  · obtain ⟨a, y, b, rfl, _⟩ := h
    rfl
  · obtain ⟨a, y, b, rfl, ⟨d, k, ⟨p, dx, e1, h1⟩, hc⟩, hq⟩ := h
    cases e1
    refine ⟨_, (pss_one (ps_ret (pe_and (pe_callB call_isi rfl T.nisinstance (by decide +kernel) (pa_cons (pv 1) (pa_cons (pe_glob (v := .ref T.cPut) rfl T.mPut rfl) pa_nil))) (pe_and (pe_cmpR op_eq (pe_fld (pv 0) rfl) (pe_fld (pv 1) rfl) (nomark _)) (pe_one (pe_cmpR op_eq (pe_fld (pv 0) rfl) (pe_fld (pv 1) rfl) (nomark _))))))), ?_⟩
    cases d with
    | put x1 x2 =>
      rcases hc with ⟨d2, hd2, rfl⟩ | ⟨al, rfl⟩
      · obtain ⟨q, dy, rfl, g1⟩ := deed_at hd2
        refine ⟨_, rfl, .ref q, .ref T.cPut, _, _, _, rfl, .own _, ty_deed g1, is_put T d2, _, rfl, ?_⟩
        cases d2 with
        | put z1 z2 =>
          refine ifT rfl ⟨_, rfl, a, _, dx, _, _, rfl, h1, T.lPut, T.nPut_a, lk1, _, rfl, q, _, dy, _, _, rfl, g1, T.lPut, T.nPut_a, lk1, rfl, _, rfl, ifD (fun e => ?_) fun e => ?_⟩
          · refine ⟨_, rfl, a, _, dx, _, _, rfl, h1, T.lPut, T.nPut_k, lk2 (by decide +kernel), _, rfl, q, _, dy, _, _, rfl, g1, T.lPut, T.nPut_k, lk2 (by decide +kernel), rfl, ?_⟩
            refine (congrArg (fun c => Q (V.bl c) H) (decide_eq_decide.mpr ?_)).mpr (hq _ Ext.rfl')
            injection e with e
            have e := e
            simp
            omega
          · refine (congrArg (fun c => Q (V.bl c) H) (decide_eq_false fun z => ?_).symm).mpr (hq _ Ext.rfl')
            injection z with z1 z2
            subst z1
            exact e rfl
        | pour _ _ => exact ifF rfl (hq _ Ext.rfl')
        | draw _ _ => exact ifF rfl (hq _ Ext.rfl')
        | change _ _ => exact ifF rfl (hq _ Ext.rfl')
      · obtain ⟨ty, tx, kx⟩ := alien_ty al T.ikPut_NoneType T.ikPut_int T.ikPut_tuple T.ikPut_list
        exact ⟨_, rfl, y, .ref T.cPut, _, _, false, rfl, .own _, tx, kx, _, rfl, ifF rfl (hq _ Ext.rfl')⟩
    | pour _ _ => cases k
    | draw _ _ => cases k
    | change _ _ => cases k
def spDrawEq (T : Tx K mg) : Sp := spEqB (RDeed T T.cDraw D.isDraw)
theorem okDrawEq (T : Tx K mg) : FnOk P w K mg base CX0 1 T.aDrawEq T.dDrawEq ["self", "other"] (spDrawEq T) := by
  refine T.fDrawEq.ok scDrawEq (fun vs H Q E h => ?_) (fun cdv A outer s H vs Q E hr h => ?_)
  · obtain ⟨a, y, b, rfl, _⟩ := h
    rfl
  · obtain ⟨a, y, b, rfl, ⟨d, k, ⟨p, dx, e1, h1⟩, hc⟩, hq⟩ := h
    cases e1
    refine ⟨_, (pss_one (ps_ret (pe_and (pe_callB call_isi rfl T.nisinstance (by decide +kernel) (pa_cons (pv 1) (pa_cons (pe_glob (v := .ref T.cDraw) rfl T.mDraw rfl) pa_nil))) (pe_and (pe_cmpR op_eq (pe_fld (pv 0) rfl) (pe_fld (pv 1) rfl) (nomark _)) (pe_one (pe_cmpR op_eq (pe_fld (pv 0) rfl) (pe_fld (pv 1) rfl) (nomark _))))))), ?_⟩
    cases d with
    | draw x1 x2 =>
      rcases hc with ⟨d2, hd2, rfl⟩ | ⟨al, rfl⟩
      · obtain ⟨q, dy, rfl, g1⟩ := deed_at hd2
        refine ⟨_, rfl, .ref q, .ref T.cDraw, _, _, _, rfl, .own _, ty_deed g1, is_draw T d2, _, rfl, ?_⟩
        cases d2 with
        | draw z1 z2 =>
          refine ifT rfl ⟨_, rfl, a, _, dx, _, _, rfl, h1, T.lDraw, T.nDraw_a, lk1, _, rfl, q, _, dy, _, _, rfl, g1, T.lDraw, T.nDraw_a, lk1, rfl, _, rfl, ifD (fun e => ?_) fun e => ?_⟩
          · refine ⟨_, rfl, a, _, dx, _, _, rfl, h1, T.lDraw, T.nDraw_k, lk2 (by decide +kernel), _, rfl, q, _, dy, _, _, rfl, g1, T.lDraw, T.nDraw_k, lk2 (by decide +kernel), rfl, ?_⟩
            refine (congrArg (fun c => Q (V.bl c) H) (decide_eq_decide.mpr ?_)).mpr (hq _ Ext.rfl')
            injection e with e
            have e := e
            simp
            omega
          · refine (congrArg (fun c => Q (V.bl c) H) (decide_eq_false fun z => ?_).symm).mpr (hq _ Ext.rfl')
            injection z with z1 z2
            subst z1
            exact e rfl
        | pour _ _ => exact ifF rfl (hq _ Ext.rfl')
        | put _ _ => exact ifF rfl (hq _ Ext.rfl')
        | change _ _ => exact ifF rfl (hq _ Ext.rfl')
      · obtain ⟨ty, tx, kx⟩ := alien_ty al T.ikDraw_NoneType T.ikDraw_int T.ikDraw_tuple T.ikDraw_list
        exact ⟨_, rfl, y, .ref T.cDraw, _, _, false, rfl, .own _, tx, kx, _, rfl, ifF rfl (hq _ Ext.rfl')⟩
    | pour _ _ => cases k
    | put _ _ => cases k
    | change _ _ => cases k
def spChangeEq (T : Tx K mg) : Sp := spEqB (RDeed T T.cChange D.isChange)
theorem okChangeEq (T : Tx K mg) : FnOk P w K mg base CX0 1 T.aChangeEq T.dChangeEq ["self", "other"] (spChangeEq T) := by
  refine T.fChangeEq.ok scChangeEq (fun vs H Q E h => ?_) (fun cdv A outer s H vs Q E hr h => ?_)
  · obtain ⟨a, y, b, rfl, _⟩ := h
    rfl
  · obtain ⟨a, y, b, rfl, ⟨d, k, ⟨p, dx, e1, h1⟩, hc⟩, hq⟩ := h
    cases e1
    refine ⟨_, (pss_one (ps_ret (pe_and (pe_callB call_isi rfl T.nisinstance (by decide +kernel) (pa_cons (pv 1) (pa_cons (pe_glob (v := .ref T.cChange) rfl T.mChange rfl) pa_nil))) (pe_and (pe_cmpR op_eq (pe_fld (pv 0) rfl) (pe_fld (pv 1) rfl) (nomark _)) (pe_one (pe_cmpR op_eq (pe_fld (pv 0) rfl) (pe_fld (pv 1) rfl) (nomark _))))))), ?_⟩
    cases d with
    | change x1 x2 =>
      rcases hc with ⟨d2, hd2, rfl⟩ | ⟨al, rfl⟩
      · obtain ⟨q, dy, rfl, g1⟩ := deed_at hd2
        refine ⟨_, rfl, .ref q, .ref T.cChange, _, _, _, rfl, .own _, ty_deed g1, is_change T d2, _, rfl, ?_⟩
        cases d2 with
        | change z1 z2 =>
          refine ifT rfl ⟨_, rfl, a, _, dx, _, _, rfl, h1, T.lChange, T.nChange_a, lk1, _, rfl, q, _, dy, _, _, rfl, g1, T.lChange, T.nChange_a, lk1, rfl, _, rfl, ifD (fun e => ?_) fun e => ?_⟩
          · refine ⟨_, rfl, a, _, dx, _, _, rfl, h1, T.lChange, T.nChange_b, lk2 (by decide +kernel), _, rfl, q, _, dy, _, _, rfl, g1, T.lChange, T.nChange_b, lk2 (by decide +kernel), rfl, ?_⟩
            refine (congrArg (fun c => Q (V.bl c) H) (decide_eq_decide.mpr ?_)).mpr (hq _ Ext.rfl')
            injection e with e
            have e := e
            simp
            omega
          · refine (congrArg (fun c => Q (V.bl c) H) (decide_eq_false fun z => ?_).symm).mpr (hq _ Ext.rfl')
            injection z with z1 z2
            subst z1
            exact e rfl
        | pour _ _ => exact ifF rfl (hq _ Ext.rfl')
        | put _ _ => exact ifF rfl (hq _ Ext.rfl')
        | draw _ _ => exact ifF rfl (hq _ Ext.rfl')
      · obtain ⟨ty, tx, kx⟩ := alien_ty al T.ikChange_NoneType T.ikChange_int T.ikChange_tuple T.ikChange_list
        exact ⟨_, rfl, y, .ref T.cChange, _, _, false, rfl, .own _, tx, kx, _, rfl, ifF rfl (hq _ Ext.rfl')⟩
    | pour _ _ => cases k
    | put _ _ => cases k
    | draw _ _ => cases k
end
end Kp

namespace Kp
open PySem PySem.Spec PyProof.Rows L2 KpR
/-! ### ==, != and in of instances -/
theorem nf_self {K : PySem.W.Frag} {C : Addr} : PySem.W.notFirst K C (.ref C) = true := by simp [PySem.W.notFirst]
section
variable {X : Cx} {K : PySem.W.Frag} {mg : Str → Option Value}
def Al3 (H : Hp) (z : V) : Prop := z = .non ∨ (∃ i, z = .int i) ∨ ∃ a xs, z = .ref a ∧ H a = some (.tup xs)
theorem Al3.ext {H H' : Hp} {z : V} (e : Ext H H') (h : Al3 H z) : Al3 H' z := h.elim .inl fun h => h.elim (fun h => .inr (.inl h)) fun ⟨a, xs, q, r⟩ => .inr (.inr ⟨a, xs, q, e _ _ r⟩)
theorem Al3.alien {C : Addr} {H : Hp} {z : V} (h : Al3 H z) (h1 : PySem.W.subIn K (.ref C) (.type "NoneType") = some false) (h2 : PySem.W.subIn K (.ref C) (.type "int") = some false) (h3 : PySem.W.subIn K (.ref C) (.type "tuple") = some false) : Alien K C H z := by
  rcases h with rfl | ⟨i, rfl⟩ | ⟨a, xs, rfl, e⟩
  · exact .non h1
  · exact .int h2
  · exact .tup h3 e
theorem beh_refs {C : Addr} {R : Addr → V → Bool → Hp → Prop} {x y : V} {b : Bool} {H : Hp} (h : DBehB K C R x y b H) : (∃ c, x = .ref c ∧ ∃ a, y = .ref a ∧ (c = a → b = true)) ∨ ((x = .non ∨ ∃ i, x = .int i) ∧ ∃ a, y = .ref a) := by
  obtain ⟨a, dx, fs, rfl, ha, al, _⟩ := h
  cases al with
  | non _ => exact .inr ⟨.inl rfl, a, rfl⟩
  | int _ => exact .inr ⟨.inr ⟨_, rfl⟩, a, rfl⟩
  | tup _ e => exact .inl ⟨_, rfl, a, rfl, fun z => by rw [z, ha] at e; cases e⟩
  | lst _ e => exact .inl ⟨_, rfl, a, rfl, fun z => by rw [z, ha] at e; cases e⟩
theorem opEqJars (T : Tx K mg) (hr : Room 1 X.A) (hK : X.K = K := by rfl) (hm : X.mg = mg := by rfl) : OpR X (compareOp .Eq) (rEqB (DInsB K T.cJars (RJars T))) := by
  subst hK
  subst hm
  exact op_eqB (rcB_ins (E := E0) ⟨T.eJarsEq, T.eiJarsEq⟩ (okJarsEq T) T.bJarsEq pass0) hr
theorem opNeJars (T : Tx K mg) (hr : Room 2 X.A) (hK : X.K = K := by rfl) (hm : X.mg = mg := by rfl) : OpR X (compareOp .NotEq) (rNeK T.cJars (RJars T)) := by
  subst hK
  subst hm
  exact op_neK (E := E0) (okJarsEq T) T.neJars T.bJarsEq pass0 hr
theorem opInJars (T : Tx K mg) (hr : Room 2 X.A) (hK : X.K = K := by rfl) (hm : X.mg = mg := by rfl) : OpR X (compareOp .In) (rOutB (DBehB K T.cJars (RJars T))) := by
  subst hK
  subst hm
  exact op_outB (n := 1) ((rcB_beh (E := E0) ⟨T.eJarsEq, T.eiJarsEq⟩ (okJarsEq T) T.bJarsEq pass0).eqB fun _ _ _ _ h => beh_refs h) hr
theorem eqJars {T : Tx K mg} {H : Hp} {a b : Addr} {l m : List Int} {Q : VK} (h1 : JarsAt T H a l) (h2 : JarsAt T H b m) (q : ∀ H', Ext H H' → Q (.bl (decide (l = m))) H') : rEqB (DInsB K T.cJars (RJars T)) (.ref a) (.ref b) H Q := by
  obtain ⟨dx, t, e1, _⟩ := id h1
  obtain ⟨dy, u, g1, _⟩ := id h2
  exact ⟨_, ⟨a, b, T.cJars, dx, dy, _, _, rfl, rfl, e1, g1, nf_self, l, h1, .inl ⟨b, m, rfl, h2, rfl⟩⟩, q⟩
theorem neJars {T : Tx K mg} {H : Hp} {a b : Addr} {l : List Int} {Q : VK} (h1 : JarsAt T H a l) (h2 : JarsAt T H b l) (q : ∀ H', Ext H H' → Q (.bl false) H') : rNeK T.cJars (RJars T) (.ref a) (.ref b) H Q := by
  obtain ⟨dx, t, e1, _⟩ := id h1
  obtain ⟨dy, u, g1, _⟩ := id h2
  exact ⟨a, b, true, dx, dy, _, _, rfl, rfl, e1, g1, ⟨l, h1, .inl ⟨b, l, rfl, h2, (decide_eq_true rfl).symm⟩⟩, q⟩
theorem outJars {T : Tx K mg} {H : Hp} {a l : Addr} {caps : List Int} {ys : List V} {Q : VK} (h1 : JarsAt T H a caps) (hl : H l = some (.lst ys)) (hy : ∀ z ∈ ys, Al3 H z) (q : ∀ H', Ext H H' → Q (.bl false) H') : rOutB (DBehB K T.cJars (RJars T)) (.ref a) (.ref l) H Q := by
  refine ⟨l, ys, rfl, fun H' e => e _ _ hl, fun z hz H' e => ?_, q⟩
  obtain ⟨dx, t, e1, e2⟩ := id h1
  have al : Alien K T.cJars H' z := ((hy z hz).ext e).alien T.alJars_NoneType T.alJars_int T.alJars_tuple
  exact ⟨a, dx, _, rfl, e _ _ e1, al, caps, ⟨dx, t, e _ _ e1, e _ _ e2⟩, .inr ⟨al, rfl⟩⟩
/-! deeds -/
def DDeedB (T : Tx K mg) : EqvB := fun x y b H => DInsB K T.cPour (RDeed T T.cPour D.isPour) x y b H ∨ DInsB K T.cPut (RDeed T T.cPut D.isPut) x y b H ∨ DInsB K T.cDraw (RDeed T T.cDraw D.isDraw) x y b H ∨ DInsB K T.cChange (RDeed T T.cChange D.isChange) x y b H
def DBehD (T : Tx K mg) : EqvB := fun x y b H => DBehB K T.cPour (RDeed T T.cPour D.isPour) x y b H ∨ DBehB K T.cPut (RDeed T T.cPut D.isPut) x y b H ∨ DBehB K T.cDraw (RDeed T T.cDraw D.isDraw) x y b H ∨ DBehB K T.cChange (RDeed T T.cChange D.isChange) x y b H
def rNeD4 (T : Tx K mg) : R2 := fun x y H Q => rNeK T.cPour (RDeed T T.cPour D.isPour) x y H Q ∨ rNeK T.cPut (RDeed T T.cPut D.isPut) x y H Q ∨ rNeK T.cDraw (RDeed T T.cDraw D.isDraw) x y H Q ∨ rNeK T.cChange (RDeed T T.cChange D.isChange) x y H Q
theorem opEqDeeds (T : Tx K mg) (hr : Room 1 X.A) (hK : X.K = K := by rfl) (hm : X.mg = mg := by rfl) : OpR X (compareOp .Eq) (rEqB (DDeedB T)) := by
  subst hK
  subst hm
  exact op_eqB (n := 1) (RcB.or (rcB_ins (E := E0) ⟨T.ePourEq, T.eiPourEq⟩ (okPourEq T) T.bPourEq pass0) (RcB.or  (rcB_ins (E := E0) ⟨T.ePutEq, T.eiPutEq⟩ (okPutEq T) T.bPutEq pass0) (RcB.or  (rcB_ins (E := E0) ⟨T.eDrawEq, T.eiDrawEq⟩ (okDrawEq T) T.bDrawEq pass0) (rcB_ins (E := E0) ⟨T.eChangeEq, T.eiChangeEq⟩ (okChangeEq T) T.bChangeEq pass0)))) hr
theorem opNeDeeds (T : Tx K mg) (hr : Room 2 X.A) (hK : X.K = K := by rfl) (hm : X.mg = mg := by rfl) : OpR X (compareOp .NotEq) (rNeD4 T) := by
  subst hK
  subst hm
  exact OpR.or (op_neK (E := E0) (okPourEq T) T.nePour T.bPourEq pass0 hr) (OpR.or (op_neK (E := E0) (okPutEq T) T.nePut T.bPutEq pass0 hr) (OpR.or (op_neK (E := E0) (okDrawEq T) T.neDraw T.bDrawEq pass0 hr) (op_neK (E := E0) (okChangeEq T) T.neChange T.bChangeEq pass0 hr)))
theorem opInDeeds (T : Tx K mg) (hr : Room 2 X.A) (hK : X.K = K := by rfl) (hm : X.mg = mg := by rfl) : OpR X (compareOp .In) (rOutB (DBehD T)) := by
  subst hK
  subst hm
  refine op_outB (n := 1) (RcB.eqB (RcB.or (rcB_beh (E := E0) ⟨T.ePourEq, T.eiPourEq⟩ (okPourEq T) T.bPourEq pass0) (RcB.or  (rcB_beh (E := E0) ⟨T.ePutEq, T.eiPutEq⟩ (okPutEq T) T.bPutEq pass0) (RcB.or  (rcB_beh (E := E0) ⟨T.eDrawEq, T.eiDrawEq⟩ (okDrawEq T) T.bDrawEq pass0) (rcB_beh (E := E0) ⟨T.eChangeEq, T.eiChangeEq⟩ (okChangeEq T) T.bChangeEq pass0)))) fun _ _ _ _ h => ?_) hr
  rcases h with h | h | h | h <;> exact beh_refs h
theorem eqDeeds {T : Tx K mg} {H : Hp} {u v : V} {d e : D} {Q : VK} (h1 : DeedAt T H u d) (h2 : DeedAt T H v e) (q : ∀ H', Ext H H' → Q (.bl (decide (d = e))) H') : rEqB (DDeedB T) u v H Q := by
  obtain ⟨p, dx, rfl, e1⟩ := deed_at h1
  obtain ⟨r, dy, rfl, g1⟩ := deed_at h2
  refine ⟨_, ?_, q⟩
  cases d with
  | pour _ _ =>
    have nf : PySem.W.notFirst K T.cPour (.ref (e.cls T)) = true := by
      cases e
      · exact nf_self
      · exact T.nfPour_Put
      · exact T.nfPour_Draw
      · exact T.nfPour_Change
    exact .inl (⟨p, r, _, dx, dy, _, _, rfl, rfl, e1, g1, nf, _, rfl, h1, .inl ⟨e, h2, rfl⟩⟩)
  | put _ _ =>
    have nf : PySem.W.notFirst K T.cPut (.ref (e.cls T)) = true := by
      cases e
      · exact T.nfPut_Pour
      · exact nf_self
      · exact T.nfPut_Draw
      · exact T.nfPut_Change
    exact .inr (.inl (⟨p, r, _, dx, dy, _, _, rfl, rfl, e1, g1, nf, _, rfl, h1, .inl ⟨e, h2, rfl⟩⟩))
  | draw _ _ =>
    have nf : PySem.W.notFirst K T.cDraw (.ref (e.cls T)) = true := by
      cases e
      · exact T.nfDraw_Pour
      · exact T.nfDraw_Put
      · exact nf_self
      · exact T.nfDraw_Change
    exact .inr (.inr (.inl (⟨p, r, _, dx, dy, _, _, rfl, rfl, e1, g1, nf, _, rfl, h1, .inl ⟨e, h2, rfl⟩⟩)))
  | change _ _ =>
    have nf : PySem.W.notFirst K T.cChange (.ref (e.cls T)) = true := by
      cases e
      · exact T.nfChange_Pour
      · exact T.nfChange_Put
      · exact T.nfChange_Draw
      · exact nf_self
    exact .inr (.inr (.inr (⟨p, r, _, dx, dy, _, _, rfl, rfl, e1, g1, nf, _, rfl, h1, .inl ⟨e, h2, rfl⟩⟩)))
theorem neDeeds {T : Tx K mg} {H : Hp} {u v : V} {d : D} {Q : VK} (h1 : DeedAt T H u d) (h2 : DeedAt T H v d) (q : ∀ H', Ext H H' → Q (.bl false) H') : rNeD4 T u v H Q := by
  obtain ⟨p, dx, rfl, e1⟩ := deed_at h1
  obtain ⟨r, dy, rfl, g1⟩ := deed_at h2
  cases d with
  | pour _ _ => exact .inl (⟨p, r, true, dx, dy, _, _, rfl, rfl, e1, g1, ⟨_, rfl, h1, .inl ⟨_, h2, (decide_eq_true rfl).symm⟩⟩, q⟩)
  | put _ _ => exact .inr (.inl (⟨p, r, true, dx, dy, _, _, rfl, rfl, e1, g1, ⟨_, rfl, h1, .inl ⟨_, h2, (decide_eq_true rfl).symm⟩⟩, q⟩))
  | draw _ _ => exact .inr (.inr (.inl (⟨p, r, true, dx, dy, _, _, rfl, rfl, e1, g1, ⟨_, rfl, h1, .inl ⟨_, h2, (decide_eq_true rfl).symm⟩⟩, q⟩)))
  | change _ _ => exact .inr (.inr (.inr (⟨p, r, true, dx, dy, _, _, rfl, rfl, e1, g1, ⟨_, rfl, h1, .inl ⟨_, h2, (decide_eq_true rfl).symm⟩⟩, q⟩)))
theorem DeedAt.ext {T : Tx K mg} {H H' : Hp} {v : V} {d : D} (e : Ext H H') (h : DeedAt T H v d) : DeedAt T H' v d := h.same fun b o q => e b o q
theorem outDeeds {T : Tx K mg} {H : Hp} {u : V} {d : D} {l : Addr} {ys : List V} {Q : VK} (h1 : DeedAt T H u d) (hl : H l = some (.lst ys)) (hy : ∀ z ∈ ys, Al3 H z) (q : ∀ H', Ext H H' → Q (.bl false) H') : rOutB (DBehD T) u (.ref l) H Q := by
  refine ⟨l, ys, rfl, fun H' e => e _ _ hl, fun z hz H' e => ?_, q⟩
  have h2 := h1.ext e
  have a3 := (hy z hz).ext e
  obtain ⟨p, dx, rfl, e1⟩ := deed_at h2
  cases d with
  | pour _ _ =>
    have al : Alien K T.cPour H' z := a3.alien T.alPour_NoneType T.alPour_int T.alPour_tuple
    exact .inl (⟨p, dx, _, rfl, e1, al, _, rfl, h2, .inr ⟨al, rfl⟩⟩)
  | put _ _ =>
    have al : Alien K T.cPut H' z := a3.alien T.alPut_NoneType T.alPut_int T.alPut_tuple
    exact .inr (.inl (⟨p, dx, _, rfl, e1, al, _, rfl, h2, .inr ⟨al, rfl⟩⟩))
  | draw _ _ =>
    have al : Alien K T.cDraw H' z := a3.alien T.alDraw_NoneType T.alDraw_int T.alDraw_tuple
    exact .inr (.inr (.inl (⟨p, dx, _, rfl, e1, al, _, rfl, h2, .inr ⟨al, rfl⟩⟩)))
  | change _ _ =>
    have al : Alien K T.cChange H' z := a3.alien T.alChange_NoneType T.alChange_int T.alChange_tuple
    exact .inr (.inr (.inr (⟨p, dx, _, rfl, e1, al, _, rfl, h2, .inr ⟨al, rfl⟩⟩)))
end
end Kp

namespace Kp
open PySem PySem.Spec PyProof.Rows L2 KpR
def D.word : D → Str
  | .pour _ _ => "pour"
  | .put _ _ => "put"
  | .draw _ _ => "draw"
  | .change _ _ => "change"
def D.last : D → Int
  | .pour _ b => b
  | .put _ k => k
  | .draw _ k => k
  | .change _ b => b
def WellAt (H : Hp) (w : Addr) : Prop := ∃ a b c : Int, H w = some (.lst [.int a, .int b, .int c])
theorem WellAt.ex {H : Hp} {w : Addr} (h : WellAt H w) : ∃ u, H w = some u ∧ Blank u := by
  obtain ⟨a, b, c, h⟩ := h
  exact ⟨_, h, bl_l⟩
def FactAt (H : Hp) (v : V) (d : D) : Prop := ∃ t, v = .ref t ∧ H t = some (.tup [.str d.word, .int d.fst, .int d.last])
theorem FactAt.same {H H' : Hp} {v : V} {d : D} (e : Same H H') (h : FactAt H v d) : FactAt H' v d := by
  obtain ⟨t, rfl, h⟩ := h
  exact ⟨t, rfl, e _ _ h⟩
theorem FactAt.fr {w : Addr} {H H' : Hp} {u : HO} {v : V} {d : D} (e : Fr w H H') (hw : H w = some u) (hb : Blank u) (h : FactAt H v d) : FactAt H' v d := by
  obtain ⟨t, rfl, h⟩ := h
  exact ⟨t, rfl, fr_no e hw hb h nbT⟩
theorem made_same {H H' : Hp} {x dx : Addr} {o1 o2 : HO} (hx : H x = none) (hdx : H dx = none) (fr : Fr x (upd (upd H dx o1) x o2) H') : Same H H' := fun b o e => by
  have n1 : b ≠ x := ne_of_none e hx
  refine fr b o n1 ?_
  rw [upd_ne n1, upd_ne (ne_of_none e hdx)]
  exact e
theorem WellAt.new {H : Hp} {w p : Addr} {o : HO} (h : WellAt H w) (n : H p = none) : WellAt (upd H p o) w := by
  obtain ⟨a, b, c, q⟩ := h
  exact ⟨a, b, c, by rw [upd_ne (ne_of_none q n)]; exact q⟩
theorem WellAt.ne {H : Hp} {w p : Addr} (h : WellAt H w) (n : H p = none) : p ≠ w := fun z => by
  obtain ⟨_, _, _, q⟩ := h
  rw [← z, n] at q
  cases q
theorem WellAt.mut {H : Hp} {w p : Addr} {o : HO} (h : WellAt H w) (n : p ≠ w) : WellAt (upd H p o) w := by
  obtain ⟨a, b, c, q⟩ := h
  exact ⟨a, b, c, by rw [upd_ne (Ne.symm n)]; exact q⟩
theorem WellAt.same {H H' : Hp} {w : Addr} (h : WellAt H w) (e : Same H H') : WellAt H' w := by
  obtain ⟨a, b, c, q⟩ := h
  exact ⟨a, b, c, e _ _ q⟩
section
variable {K : PySem.W.Frag} {mg : Str → Option Value}
def spLwell (T : Tx K mg) : Sp := fun vs H Q _ => ∃ n : Int, vs = [.int n] ∧ ∀ (H' : Hp) (p : Addr), H p = none → WellAt H' p → Same H H' → Q (.ref p) H'
def spLdraw (T : Tx K mg) : Sp := fun vs H Q _ => ∃ (w : Addr) (m : Int), vs = [.ref w, .int m] ∧ WellAt H w ∧ 1 ≤ m ∧ m < 2 ^ 100 ∧ ∀ (H' : Hp) (v : Nat), (v : Int) < m → WellAt H' w → Fr w H H' → Q (.int v) H'
def spLdeed (T : Tx K mg) : Sp := fun vs H Q _ => ∃ (v : V) (d : D), vs = [v] ∧ FactAt H v d ∧ ∀ (H' : Hp) (p : Addr), H p = none → DeedAt T H' (.ref p) d → Same H H' → Q (.ref p) H'
end
section
variable {P : Program} {w : World} {K : PySem.W.Frag} {mg : Str → Option Value} {base : Heap}
theorem okLwell (T : Tx K mg) : FnOk P w K mg base CX0 1 T.aLwell T.dLwell ["_law_cell"] (spLwell T) := by
  refine T.fLwell.ok scLwell (fun vs H Q E h => ?_) (fun cdv A outer s H vs Q E hr h => ?_)
  · obtain ⟨n, rfl, _⟩ := h
    rfl
  · obtain ⟨n, rfl, hq⟩ := h
    refine ⟨_, (pss_one (ps_ret (pe_lst (pa_cons (pe_callB call_abs rfl T.nabs (by decide +kernel) (pa_cons (pv 0) pa_nil)) (pa_cons (pe_op op_mod (pv 0) pe_int) (pa_cons pe_int pa_nil)))))), ?_⟩
    refine ⟨_, rfl, n, rfl, _, rfl, _, _, rfl, rfl, (by show (0 : Int) < 2147483629; decide), (by show 3 ≤ sizeLine; decide), fun p hp => ?_⟩
    exact hq _ p hp ⟨_, _, _, upd_same⟩ (same_new hp)
theorem okLdraw (T : Tx K mg) : FnOk P w K mg base CX0 1 T.aLdraw T.dLdraw ["_law_well_here", "_law_many"] (spLdraw T) := by
  refine T.fLdraw.ok scLdraw (fun vs H Q E h => ?_) (fun cdv A outer s H vs Q E hr h => ?_)
  · obtain ⟨u, m, rfl, _⟩ := h
    rfl
  · obtain ⟨u, m, rfl, ⟨a, b, c, hw⟩, m1, m2, hq⟩ := h
    refine ⟨_, (pss_cons (ps_if (pt_cmpR op_ge (pe_ix (r := rIxL K) ix_list (pv 0) pe_int (fun _ _ => rfl)) (pe_op op_pow pe_int pe_int) (nomark _)) (pss_cons (ps_set (i := 2) scLdraw.nd rfl (by first | exact Or.inl rfl | exact Or.inr rfl) (pe_op op_mod (pe_ix (r := rIxL K) ix_list (pv 0) pe_int (fun _ _ => rfl)) (pv 1)))
      (pss_cons (ps_asg (pe_op op_fdivW (pe_ix (r := rIxL K) ix_list (pv 0) pe_int (fun _ _ => rfl)) (pv 1)) (pg_sub (pv 0) pe_int set_list))
      (pss_one (ps_ret (pv 2))))) pss_nil)
      (pss_cons (ps_asg (pe_op op_add (pe_ix (r := rIxL K) ix_list (pv 0) pe_int (fun _ _ => rfl)) pe_int) (pg_sub (pv 0) pe_int set_list))
      (pss_cons (ps_set (i := 3) scLdraw.nd rfl (by first | exact Or.inl rfl | exact Or.inr rfl) (pe_op op_mod (pe_op op_mul (pe_op op_add (pe_op op_add (pe_ix (r := rIxL K) ix_list (pv 0) pe_int (fun _ _ => rfl)) (pe_op op_mul pe_int (pe_ix (r := rIxL K) ix_list (pv 0) pe_int (fun _ _ => rfl)))) pe_int) pe_int) pe_int))
      (pss_cons (ps_set (i := 3) scLdraw.nd rfl (by first | exact Or.inl rfl | exact Or.inr rfl) (pe_op op_mod (pe_op op_mul (pv 3) (pe_op op_add (pe_op op_fdivW (pv 3) pe_int) pe_int)) pe_int))
      (pss_one (ps_ret (pe_op op_mod (pe_op op_mod (pe_op op_add (pe_op op_fdivW (pv 3) pe_int) (pe_op op_mul (pe_op op_mod (pv 3) pe_int) pe_int)) pe_int) (pv 1)))))))), ?_⟩
    have wd : CDivW a m := wide_div (b := 100) (by omega) (by omega) (by decide) (by decide)
    have back : ∀ (x : Int) (H' : Hp), WellAt H' u → Fr u H H' → Q (.int (x % m)) H' := fun x H' h1 h2 => by
      have q0 := Int.emod_nonneg x (show m ≠ 0 by omega)
      have q1 := Int.emod_lt_of_pos x (show 0 < m by omega)
      have e : x % m = ((x % m).toNat : Int) := by omega
      rw [e]
      exact hq H' _ (by omega) h1 h2
    refine ⟨_, rfl, u, _, _, _, rfl, rfl, SqL.of hw, rfl, _, _, rfl, rfl, ⟨by decide, by decide, by decide⟩, _, _, rfl, rfl, _, rfl, ifD (fun _ => ?_) (fun _ => ?_)⟩
    · refine ⟨_, rfl, u, _, _, _, rfl, rfl, SqL.of hw, rfl, _, rfl, _, _, rfl, rfl, (by show 0 < m; omega), ?_⟩
      refine ⟨_, rfl, u, _, _, _, rfl, rfl, SqL.of hw, rfl, _, rfl, _, _, rfl, rfl, wd, _, rfl, u, _, _, 0, rfl, rfl, hw, rfl, _, rfl, ?_⟩
      exact back a _ ⟨_, _, _, upd_same⟩ (fr_mut (Fr.refl _ _))
    · refine ⟨_, rfl, u, _, _, _, rfl, rfl, SqL.of hw, rfl, _, _, rfl, rfl, _, rfl, u, _, _, 2, rfl, rfl, hw, rfl, ?_⟩
      refine ⟨_, rfl, u, _, _, _, rfl, rfl, SqL.of upd_same, rfl, _, rfl, u, _, _, _, rfl, rfl, SqL.of upd_same, rfl, _, _, rfl, rfl, .inl ⟨by decide, by decide⟩, _, _, rfl, rfl, _, _, rfl, rfl, _, _, rfl, rfl, .inr ⟨by decide, by decide⟩, _, _, rfl, rfl, (by show (0 : Int) < 2147483647; decide), ?_⟩
      refine ⟨_, rfl, _, rfl, _, _, rfl, rfl, ⟨by decide, by decide⟩, _, _, rfl, rfl, _, _, rfl, rfl, .inl ⟨by omega, by omega⟩, _, _, rfl, rfl, (by show (0 : Int) < 2147483587; decide), ?_⟩
      refine ⟨_, rfl, _, _, rfl, rfl, ⟨by decide, by decide⟩, _, rfl, _, _, rfl, rfl, (by show (0 : Int) < 7919; decide), _, _, rfl, rfl, .inr ⟨by decide, by decide⟩, _, _, rfl, rfl, _, _, rfl, rfl, (by show (0 : Int) < 2147483399; decide), _, rfl, _, _, rfl, rfl, (by show 0 < m; omega), ?_⟩
      exact back _ _ ⟨_, _, _, upd_same⟩ (fr_mut (Fr.refl _ _))
theorem okLdeed (T : Tx K mg) : FnOk P w K mg base CX0 3 T.aLdeed T.dLdeed ["_law_fact"] (spLdeed T) := by
  refine T.fLdeed.ok scLdeed (fun vs H Q E h => ?_) (fun cdv A outer s H vs Q E hr h => ?_)
  · obtain ⟨v, d, rfl, _⟩ := h
    rfl
  · obtain ⟨v, d, rfl, ⟨t, rfl, ht⟩, hq⟩ := h
    refine ⟨_, (pss_cons (ps_asg (pv 0) (pg_tup rfl (pgs_cons (pg_name (i := 1) scLdeed.nd rfl (by first | exact Or.inl rfl | exact Or.inr rfl)) (pgs_cons (pg_name (i := 2) scLdeed.nd rfl (by first | exact Or.inl rfl | exact Or.inr rfl)) (pgs_cons (pg_name (i := 3) scLdeed.nd rfl (by first | exact Or.inl rfl | exact Or.inr rfl)) pgs_nil)))))
      (pss_cons (ps_if (pt_cmpR op_eq (pv 1) pe_str (nomark _)) (pss_one (ps_ret (pe_make T.kPour (okPourInit T) (hr.mono (by decide)) rfl T.mPour T.bPourInit .nil pass0 (pa_cons (pv 2) (pa_cons (pv 3) pa_nil))))) pss_nil)
      (pss_cons (ps_if (pt_cmpR op_eq (pv 1) pe_str (nomark _)) (pss_one (ps_ret (pe_make T.kPut (okPutInit T) (hr.mono (by decide)) rfl T.mPut T.bPutInit .nil pass0 (pa_cons (pv 2) (pa_cons (pv 3) pa_nil))))) pss_nil)
      (pss_cons (ps_if (pt_cmpR op_eq (pv 1) pe_str (nomark _)) (pss_one (ps_ret (pe_make T.kDraw (okDrawInit T) (hr.mono (by decide)) rfl T.mDraw T.bDrawInit .nil pass0 (pa_cons (pv 2) (pa_cons (pv 3) pa_nil))))) pss_nil)
      (pss_one (ps_ret (pe_make T.kChange (okChangeInit T) (hr.mono (by decide)) rfl T.mChange T.bChangeInit .nil pass0 (pa_cons (pv 2) (pa_cons (pv 3) pa_nil))))))))), ?_⟩
    refine ⟨_, rfl, t, _, rfl, SqT.of ht, rfl, _, _, rfl, _, _, rfl, _, _, rfl, rfl, _, rfl, rfl, _, rfl, ?_⟩
    cases d with
    | pour a b =>
      refine ifT (show decide (V.str "pour" = V.str "pour") = true by decide +kernel) ⟨_, rfl, _, rfl, fun x dx hx hdx ne => ⟨x, dx, _, _, rfl, upd_same, fun H1 h1 fr => ⟨rfl, ?_⟩⟩⟩
      exact hq H1 x hx ⟨x, dx, rfl, h1⟩ (made_same hx hdx fr)
    | put a k =>
      refine ifF (show decide (V.str "put" = V.str "pour") = false by decide +kernel) ⟨_, rfl, rfl, _, rfl, ifT (show decide (V.str "put" = V.str "put") = true by decide +kernel) ⟨_, rfl, _, rfl, fun x dx hx hdx ne => ⟨x, dx, _, _, rfl, upd_same, fun H1 h1 fr => ⟨rfl, ?_⟩⟩⟩⟩
      exact hq H1 x hx ⟨x, dx, rfl, h1⟩ (made_same hx hdx fr)
    | draw a k =>
      refine ifF (show decide (V.str "draw" = V.str "pour") = false by decide +kernel) ⟨_, rfl, rfl, _, rfl, ifF (show decide (V.str "draw" = V.str "put") = false by decide +kernel) ⟨_, rfl, rfl, _, rfl, ifT (show decide (V.str "draw" = V.str "draw") = true by decide +kernel) ⟨_, rfl, _, rfl, fun x dx hx hdx ne => ⟨x, dx, _, _, rfl, upd_same, fun H1 h1 fr => ⟨rfl, ?_⟩⟩⟩⟩⟩
      exact hq H1 x hx ⟨x, dx, rfl, h1⟩ (made_same hx hdx fr)
    | change a b =>
      refine ifF (show decide (V.str "change" = V.str "pour") = false by decide +kernel) ⟨_, rfl, rfl, _, rfl, ifF (show decide (V.str "change" = V.str "put") = false by decide +kernel) ⟨_, rfl, rfl, _, rfl, ifF (show decide (V.str "change" = V.str "draw") = false by decide +kernel) ⟨_, rfl, _, rfl, fun x dx hx hdx ne => ⟨x, dx, _, _, rfl, upd_same, fun H1 h1 fr => ⟨rfl, ?_⟩⟩⟩⟩⟩
      exact hq H1 x hx ⟨x, dx, rfl, h1⟩ (made_same hx hdx fr)
end
section
variable {K : PySem.W.Frag} {mg : Str → Option Value}
def spLnamed (T : Tx K mg) : Sp := spLdeed T
def spLfields (T : Tx K mg) : Sp := fun vs H Q _ => ∃ (v : V) (d : D), vs = [.str d.word, v] ∧ DeedAt T H v d ∧ ∀ (H' : Hp) (p : Addr), H' p = some (.tup [.int d.fst, .int d.last]) → Same H H' → Q (.ref p) H'
def spLdrawn (T : Tx K mg) : Sp := fun vs H Q _ => ∃ (w : Addr), vs = [.ref w] ∧ WellAt H w ∧
  ∀ (H' : Hp) (p : Addr) (caps : List Int), H p = none → H' p = some (.lst (vi caps)) → caps.length ≤ 8 → WellAt H' w → Fr w H H' → Q (.ref p) H'
def sixO (caps : List Int) : Prop := 1 ≤ caps.length ∧ caps.length ≤ 6
def DueAt (H : Hp) (p : Addr) (caps : List Int) : Prop := (¬ sixO caps ∧ H p = some (.tup [.str "jars", .int caps.length])) ∨ (sixO caps ∧ ∃ z r, bads caps = z :: r ∧ H p = some (.tup [.str "size", .int z])) ∨
  (sixO caps ∧ bads caps = [] ∧ ∃ u, H p = some (.tup [.str "told", .ref u]) ∧ H u = some (.tup (vi caps)))
theorem DueAt.same {H H' : Hp} {p : Addr} {caps : List Int} (e : Same H H') (h : DueAt H p caps) : DueAt H' p caps := by
  rcases h with ⟨a, b⟩ | ⟨a, z, r, b, c⟩ | ⟨a, b, u, c, d⟩
  · exact .inl ⟨a, e _ _ b⟩
  · exact .inr (.inl ⟨a, z, r, b, e _ _ c⟩)
  · exact .inr (.inr ⟨a, b, u, e _ _ c, e _ _ d⟩)
def spLdue (T : Tx K mg) : Sp := fun vs H Q _ => ∃ (a : Addr) (caps : List Int), vs = [.ref a] ∧ SqL K H a (vi caps) ∧ caps.length ≤ 8 ∧ ∀ (H' : Hp) (p : Addr), DueAt H' p caps → Same H H' → Q (.ref p) H'
def spLsaid (T : Tx K mg) : Sp := fun vs H Q _ => ∃ (a : Addr) (caps : List Int), vs = [.ref a] ∧ (SqL K H a (vi caps) ∨ H a = some (.tup (vi caps))) ∧ caps.length ≤ 8 ∧ ∀ (H' : Hp) (p : Addr), DueAt H' p caps → Same H H' → Q (.ref p) H'
theorem ne_intsB {H : Hp} {a b : Addr} {l m : List Int} {Q : VK} (h1 : SqL K H a (vi l)) (h2 : SqL K H b (vi m)) (q : Q (.bl (!decide (l = m))) H) : rNeD K (.ref a) (.ref b) H Q := by
  refine ⟨_, _, .lst h1 (dpI l), .lst h2 (dpI m), shape_i l, shape_i m, ?_⟩
  have z : PyData.eqv (.list (pdI l)) (.list (pdI m)) = decide (l = m) := by simp only [PyData.eqv, eqv_i]
  rw [z]
  exact q
end
section
variable {P : Program} {w : World} {K : PySem.W.Frag} {mg : Str → Option Value} {base : Heap}
theorem okLfields (T : Tx K mg) : FnOk P w K mg base CX0 1 T.aLfields T.dLfields ["_law_word", "_law_deed_here"] (spLfields T) := by
  refine T.fLfields.ok scLfields (fun vs H Q E h => ?_) (fun cdv A outer s H vs Q E hr h => ?_)
  · obtain ⟨v, d, rfl, _⟩ := h
    rfl
  · obtain ⟨v, d, rfl, hD, hq⟩ := h
    refine ⟨_, (pss_cons (ps_if (pt_cmpR (r := rIn K false) op_in_seq (pv 0) (pe_tup (pa_cons pe_str (pa_cons pe_str pa_nil))) (by rfl)) (pss_one (ps_ret (pe_tup (pa_cons (pe_fld (pv 1) rfl) (pa_cons (pe_fld (pv 1) rfl) pa_nil))))) pss_nil)
      (pss_one (ps_ret (pe_tup (pa_cons (pe_fld (pv 1) rfl) (pa_cons (pe_fld (pv 1) rfl) pa_nil)))))), ?_⟩
    obtain ⟨p, dx, rfl, h1⟩ := id hD
    refine ⟨_, rfl, (by show 2 ≤ sizeLine; decide), fun s hs => ?_⟩
    have sm : Same H (upd H s (.tup [.str "pour", .str "change"])) := same_new hs
    refine ⟨s, _, rfl, .inr (SqT.of upd_same), rfl, rfl, _, rfl, ?_⟩
    cases d with
    | pour a b =>
      refine ifT (show inV (V.str "pour") [.str "pour", .str "change"] = true by decide +kernel) ⟨_, rfl, p, _, dx, _, _, rfl, sm _ _ h1, T.lPour, T.nPour_a, lk1, _, rfl, p, _, dx, _, _, rfl, sm _ _ h1, T.lPour, T.nPour_b, lk2 (by decide +kernel), (by show 2 ≤ sizeLine; decide), fun t ht => ?_⟩
      exact hq _ t upd_same (sm.trans (same_new ht))
    | put a k =>
      refine ifF (show inV (V.str "put") [.str "pour", .str "change"] = false by decide +kernel) ⟨_, rfl, p, _, dx, _, _, rfl, sm _ _ h1, T.lPut, T.nPut_a, lk1, _, rfl, p, _, dx, _, _, rfl, sm _ _ h1, T.lPut, T.nPut_k, lk2 (by decide +kernel), (by show 2 ≤ sizeLine; decide), fun t ht => ?_⟩
      exact hq _ t upd_same (sm.trans (same_new ht))
    | draw a k =>
      refine ifF (show inV (V.str "draw") [.str "pour", .str "change"] = false by decide +kernel) ⟨_, rfl, p, _, dx, _, _, rfl, sm _ _ h1, T.lDraw, T.nDraw_a, lk1, _, rfl, p, _, dx, _, _, rfl, sm _ _ h1, T.lDraw, T.nDraw_k, lk2 (by decide +kernel), (by show 2 ≤ sizeLine; decide), fun t ht => ?_⟩
      exact hq _ t upd_same (sm.trans (same_new ht))
    | change a b =>
      refine ifT (show inV (V.str "change") [.str "pour", .str "change"] = true by decide +kernel) ⟨_, rfl, p, _, dx, _, _, rfl, sm _ _ h1, T.lChange, T.nChange_a, lk1, _, rfl, p, _, dx, _, _, rfl, sm _ _ h1, T.lChange, T.nChange_b, lk2 (by decide +kernel), (by show 2 ≤ sizeLine; decide), fun t ht => ?_⟩
      exact hq _ t upd_same (sm.trans (same_new ht))
theorem okLdrawn (T : Tx K mg) : FnOk P w K mg base CX0 2 T.aLdrawn T.dLdrawn ["_law_well_here"] (spLdrawn T) := by
  refine T.fLdrawn.ok scLdrawn (fun vs H Q E h => ?_) (fun cdv A outer s H vs Q E hr h => ?_)
  · obtain ⟨u, rfl, _⟩ := h
    rfl
  · obtain ⟨u, rfl, hw, hq⟩ := h
    refine ⟨_, (pss_cons (ps_set (i := 1) scLdrawn.nd rfl (by first | exact Or.inl rfl | exact Or.inr rfl) (pe_lst (pa_cons pe_int (pa_cons pe_int (pa_cons pe_int (pa_cons (pe_op op_pow pe_int pe_int) (pa_cons pe_int (pa_cons (pe_op op_pow pe_int pe_int) (pa_cons pe_int (pa_cons pe_int (pa_cons (pe_op op_sub (pe_op op_pow pe_int pe_int) pe_int) (pa_cons pe_int (pa_cons (pe_un un_neg pe_int) (pa_cons (pe_op op_add (pe_op op_pow pe_int pe_int) pe_int) pa_nil))))))))))))))
      (pss_cons (ps_set (i := 2) scLdrawn.nd rfl (by first | exact Or.inl rfl | exact Or.inr rfl) (pe_ix (r := rIxL K) ix_list (pe_lst (pa_cons pe_int (pa_cons pe_int pa_nil))) (pe_call (okLdraw T) (hr.mono (by decide)) rfl T.gLdraw T.fLdraw.kp T.bLdraw .nil pass0 (pa_cons (pv 0) (pa_cons pe_int pa_nil))) (fun _ _ => rfl)))
      (pss_one (ps_ret (pe_lc (own := [("_law_turn", 3)]) rfl scLdrawn.nd (pi_range1 rfl T.nrange (pa_cons (pe_call (okLdraw T) (hr.mono (by decide)) rfl T.gLdraw T.fLdraw.kp T.bLdraw .nil pass0 (pa_cons (pv 0) (pa_cons pe_int pa_nil))) pa_nil)) (blkOk_by (own := [("_law_turn", 3)]) (N := ["_law_well_here", "_law_some", "_law_top", "_law_turn"]) (sc := defScope sLdrawn) (by decide +kernel)) (fun _ _ _ _ _ => (pg_name (i := 3) scLdrawn.nd rfl (by first | exact Or.inl rfl | exact Or.inr rfl))) (fun _ _ _ _ _ => pts_nil) (fun _ _ _ _ _ => (pe_ix (r := rIxL K) ix_list (pv 1) (pe_call (okLdraw T) (hr.mono (by decide)) rfl T.gLdraw T.fLdraw.kp T.bLdraw .nil pass0 (pa_cons (pv 0) (pa_cons (pv 2) pa_nil))) (fun _ _ => rfl)))))))), ?_⟩
    have pw : ∀ k : Int, 0 ≤ k → True := fun _ _ => trivial
    refine ⟨_, _, rfl, rfl, ⟨by decide, by decide, by decide⟩, _, _, rfl, rfl, ⟨by decide, by decide, by decide⟩, _, _, rfl, rfl, ⟨by decide, by decide, by decide⟩, _, _, rfl, rfl, _, rfl, _, _, rfl, rfl, ⟨by decide, by decide, by decide⟩, _, _, rfl, rfl, (by show 12 ≤ sizeLine; decide), fun l hl => ?_⟩
    obtain ⟨xs, ex, lx⟩ : ∃ xs : List Int, vi xs = [V.int 1, .int 2, .int 3, .int (10 ^ (12 : Int).toNat), .int 7, .int (10 ^ (11 : Int).toNat), .int 5, .int 1, .int (10 ^ (12 : Int).toNat - 1), .int 0, .int (-4), .int (10 ^ (12 : Int).toNat + 1)] ∧ xs.length = 12 :=
      ⟨[1, 2, 3, 10 ^ (12 : Int).toNat, 7, 10 ^ (11 : Int).toNat, 5, 1, 10 ^ (12 : Int).toNat - 1, 0, -4, 10 ^ (12 : Int).toNat + 1], rfl, rfl⟩
    have lu : l ≠ u := hw.ne hl
    have sl : Same H (upd H l (.lst (vi xs))) := same_new hl
    rw [← ex]
    refine ⟨(by show 2 ≤ sizeLine; decide), fun l2 hl2 => ?_⟩
    have l2u : l2 ≠ u := (hw.new hl).ne hl2
    refine ⟨_, rfl, u, 2, rfl, (hw.new hl).new hl2, by decide, by decide, fun H1 k lk w1 f1 => ?_⟩
    have fr1 : Fr u H H1 := (Fr.of (sl.trans (same_new hl2))).trans f1
    refine pickL (xs := [9, 12]) (SqL.of (f1 _ _ l2u upd_same)) (by simp; omega) ?_
    obtain ⟨top, ht, tb⟩ : ∃ top : Int, at0 [9, 12] k = top ∧ 1 ≤ top ∧ top ≤ 12 := by
      refine ⟨_, rfl, ?_⟩
      have : k = 0 ∨ k = 1 := by omega
      rcases this with rfl | rfl <;> decide
    rw [ht]
    refine ⟨_, rfl, u, 9, rfl, w1, by decide, by decide, fun H2 m lm w2 f2 => ?_⟩
    have fr2 : Fr u H H2 := fr1.trans f2
    have hl2' : H2 l = some (.lst (vi xs)) := f2 _ _ lu (f1 _ _ lu ((same_new hl2) _ _ upd_same))
    refine ⟨_, rfl, by omega, by omega, fun D1 hD1 => ?_⟩
    have d1u : D1 ≠ u := w2.ne hD1
    refine lc_range (lo := 0) (n := ((m : Nat) : Int).toNat) (fun i H' => ∃ ws : List Int, H' D1 = some (.lst (vi ws)) ∧ ws.length = i ∧ WellAt H' u ∧ Fr u H2 H') ⟨[], upd_same, rfl, w2.new hD1, Fr.of (same_new hD1)⟩ ?_ ?_
    · rintro i H' hi ⟨ws, g1, rfl, w3, f3⟩
      refine ⟨rfl, ?_⟩
      refine ⟨_, rfl, _, rfl, _, rfl, u, top, rfl, w3, tb.1, by omega, fun H3 n ln w4 f4 => ?_⟩
      refine pickL (xs := xs) (SqL.of (f4 _ _ lu (f3 _ _ lu hl2'))) (by omega) ?_
      refine ⟨_, f4 _ _ d1u g1, Nat.lt_of_lt_of_le (by rw [List.length_map]; omega : _ < 100) (by decide), ws ++ [at0 xs n], ?_, by simp, w4.mut d1u, ?_⟩
      · rw [upd_same]
        simp [vi]
      · exact fr_new (f3.trans f4) hD1
    · rintro H' ⟨ws, g1, e1, w3, f3⟩
      exact hq H' D1 ws (fr_free fr2 d1u hD1) g1 (by omega) w3 (fr2.trans f3)
end
end Kp

namespace Kp
open PySem PySem.Spec PyProof.Rows L2 KpR
section
variable {K : PySem.W.Frag} {H : Hp}
theorem tup2 {p : Addr} {a b : V} {d e : PyData} (h : H p = some (.tup [a, b])) (h1 : Dp K H a d) (h2 : Dp K H b e) : Dp K H (.ref p) (.tuple [d, e]) := .tup (SqT.of h) (.cons h1 (.cons h2 .nil))
theorem shape_t (l : List Int) : SeqAt.shaped (.tuple (pdI l)) = true := by
  unfold SeqAt.shaped
  simp only [PyData.canLay0, PyData.depth, lay_i, dep_i]
  rfl
theorem eqvS (s : Str) : PyData.eqv (.str s) (.str s) = true := by simp [PyData.eqv]
theorem shp2 {s : Str} {n : Int} (h : PyData.strOk s = true) : SeqAt.shaped (.tuple [.str s, .int n]) = true := by
  unfold SeqAt.shaped
  simp only [PyData.canLay0, PyData.canLayAll0, PyData.depth, PyData.depthAll, h]
  rfl
theorem ne_due {p q : Addr} {caps : List Int} {Q : VK} (h1 : DueAt H p caps) (h2 : DueAt H q caps) (k : Q (.bl false) H) : rNeD K (.ref p) (.ref q) H Q := by
  have go : ∀ {d : PyData}, Dp K H (.ref p) d → Dp K H (.ref q) d → SeqAt.shaped d = true → PyData.eqv d d = true → rNeD K (.ref p) (.ref q) H Q := fun {d} a b s e => by
    refine ⟨_, _, a, b, s, s, ?_⟩
    rw [e]
    exact k
  rcases h1 with ⟨a1, b1⟩ | ⟨a1, z1, r1, e1, b1⟩ | ⟨a1, e1, u1, b1, c1⟩ <;> rcases h2 with ⟨a2, b2⟩ | ⟨a2, z2, r2, e2, b2⟩ | ⟨a2, e2, u2, b2, c2⟩
  · exact go (tup2 b1 (.str _) (.int _)) (tup2 b2 (.str _) (.int _)) (shp2 (by decide +kernel)) (by simp [PyData.eqv, PyData.eqvAll])
  · exact absurd a2 a1
  · exact absurd a2 a1
  · exact absurd a1 a2
  · rw [e1] at e2
    injection e2 with e2 _
    subst e2
    exact go (tup2 b1 (.str _) (.int _)) (tup2 b2 (.str _) (.int _)) (shp2 (by decide +kernel)) (by simp [PyData.eqv, PyData.eqvAll])
  · rw [e1] at e2
    cases e2
  · exact absurd a1 a2
  · rw [e1] at e2
    cases e2
  · refine go (tup2 b1 (.str _) (.tup (SqT.of c1) (dpI caps))) (tup2 b2 (.str _) (.tup (SqT.of c2) (dpI caps))) ?_ ?_
    · unfold SeqAt.shaped
      simp only [PyData.canLay0, PyData.canLayAll0, PyData.depth, PyData.depthAll, lay_i, dep_i]
      rw [show PyData.strOk ("told" : Str) = true by decide +kernel]
      rfl
    · have z : PyData.eqvAll (pdI caps) (pdI caps) = true := by rw [eqv_i]; exact decide_eq_true rfl
      simp [PyData.eqv, PyData.eqvAll, z]
end
section
variable {P : Program} {w : World} {K : PySem.W.Frag} {mg : Str → Option Value} {base : Heap}
theorem okLnamed (T : Tx K mg) : FnOk P w K mg base CX0 3 T.aLnamed T.dLnamed ["_law_fact"] (spLnamed T) := by
  refine T.fLnamed.ok scLnamed (fun vs H Q E h => ?_) (fun cdv A outer s H vs Q E hr h => ?_)
  · obtain ⟨v, d, rfl, _⟩ := h
    rfl
  · obtain ⟨v, d, rfl, ⟨t, rfl, ht⟩, hq⟩ := h
    refine ⟨_, (pss_cons (ps_asg (pv 0) (pg_tup rfl (pgs_cons (pg_name (i := 1) scLnamed.nd rfl (by first | exact Or.inl rfl | exact Or.inr rfl)) (pgs_cons (pg_name (i := 2) scLnamed.nd rfl (by first | exact Or.inl rfl | exact Or.inr rfl)) (pgs_cons (pg_name (i := 3) scLnamed.nd rfl (by first | exact Or.inl rfl | exact Or.inr rfl)) pgs_nil)))))
      (pss_cons (ps_if (pt_cmpR op_eq (pv 1) pe_str (nomark _)) (pss_one (ps_ret (pe_makeK0 T.kPour (okPourInit T) (hr.mono (by decide)) rfl T.mPour T.kbPour_b_a pass0 (pk_cons (pv 3) (pk_cons (pv 2) pk_nil))))) pss_nil)
      (pss_cons (ps_if (pt_cmpR op_eq (pv 1) pe_str (nomark _)) (pss_one (ps_ret (pe_makeK0 T.kPut (okPutInit T) (hr.mono (by decide)) rfl T.mPut T.kbPut_k_a pass0 (pk_cons (pv 3) (pk_cons (pv 2) pk_nil))))) pss_nil)
      (pss_cons (ps_if (pt_cmpR op_eq (pv 1) pe_str (nomark _)) (pss_one (ps_ret (pe_makeK0 T.kDraw (okDrawInit T) (hr.mono (by decide)) rfl T.mDraw T.kbDraw_a_k pass0 (pk_cons (pv 2) (pk_cons (pv 3) pk_nil))))) pss_nil)
      (pss_one (ps_ret (pe_makeK0 T.kChange (okChangeInit T) (hr.mono (by decide)) rfl T.mChange T.kbChange_a_b pass0 (pk_cons (pv 2) (pk_cons (pv 3) pk_nil))))))))), ?_⟩
    refine ⟨_, rfl, t, _, rfl, SqT.of ht, rfl, _, _, rfl, _, _, rfl, _, _, rfl, rfl, _, rfl, rfl, _, rfl, ?_⟩
    cases d with
    | pour a b =>
      refine ifT (show decide (V.str "pour" = V.str "pour") = true by decide +kernel) ⟨_, rfl, _, rfl, rfl, rfl, fun x dx hx hdx ne => ⟨x, dx, _, _, rfl, upd_same, fun H1 h1 fr => ⟨rfl, ?_⟩⟩⟩
      exact hq H1 x hx ⟨x, dx, rfl, h1⟩ (made_same hx hdx fr)
    | put a k =>
      refine ifF (show decide (V.str "put" = V.str "pour") = false by decide +kernel) ⟨_, rfl, rfl, _, rfl, ifT (show decide (V.str "put" = V.str "put") = true by decide +kernel) ⟨_, rfl, _, rfl, rfl, rfl, fun x dx hx hdx ne => ⟨x, dx, _, _, rfl, upd_same, fun H1 h1 fr => ⟨rfl, ?_⟩⟩⟩⟩
      exact hq H1 x hx ⟨x, dx, rfl, h1⟩ (made_same hx hdx fr)
    | draw a k =>
      refine ifF (show decide (V.str "draw" = V.str "pour") = false by decide +kernel) ⟨_, rfl, rfl, _, rfl, ifF (show decide (V.str "draw" = V.str "put") = false by decide +kernel) ⟨_, rfl, rfl, _, rfl, ifT (show decide (V.str "draw" = V.str "draw") = true by decide +kernel) ⟨_, rfl, _, rfl, rfl, rfl, fun x dx hx hdx ne => ⟨x, dx, _, _, rfl, upd_same, fun H1 h1 fr => ⟨rfl, ?_⟩⟩⟩⟩⟩
      exact hq H1 x hx ⟨x, dx, rfl, h1⟩ (made_same hx hdx fr)
    | change a b =>
      refine ifF (show decide (V.str "change" = V.str "pour") = false by decide +kernel) ⟨_, rfl, rfl, _, rfl, ifF (show decide (V.str "change" = V.str "put") = false by decide +kernel) ⟨_, rfl, rfl, _, rfl, ifF (show decide (V.str "change" = V.str "draw") = false by decide +kernel) ⟨_, rfl, _, rfl, rfl, rfl, fun x dx hx hdx ne => ⟨x, dx, _, _, rfl, upd_same, fun H1 h1 fr => ⟨rfl, ?_⟩⟩⟩⟩⟩
      exact hq H1 x hx ⟨x, dx, rfl, h1⟩ (made_same hx hdx fr)
theorem okLdue (T : Tx K mg) : FnOk P w K mg base CX0 1 T.aLdue T.dLdue ["_law_caps"] (spLdue T) := by
  refine T.fLdue.ok scLdue (fun vs H Q E h => ?_) (fun cdv A outer s H vs Q E hr h => ?_)
  · obtain ⟨a, caps, rfl, _⟩ := h
    rfl
  · obtain ⟨a, caps, rfl, hS, l8, hq⟩ := h
    refine ⟨_, (pss_cons (ps_if (pt_not (pt_chain op_le op_le pe_int (pe_callB call_len_seq rfl T.nlen PySem.boot_len (pa_cons (pv 0) pa_nil)) pe_int)) (pss_one (ps_ret (pe_tup (pa_cons pe_str (pa_cons (pe_callB call_len_seq rfl T.nlen PySem.boot_len (pa_cons (pv 0) pa_nil)) pa_nil))))) pss_nil)
      (pss_cons (ps_setLc (i := 1) (own := [("_law_cap", 2)]) rfl scLdue.nd rfl rfl (sw_true rfl rfl rfl (by decide +kernel)) (pi_list (pv 0)) (blkOk_by (own := [("_law_cap", 2)]) (N := ["_law_caps", "_law_bad", "_law_cap"]) (sc := defScope sLdue) (by decide +kernel)) (fun _ _ _ _ _ => (pg_name (i := 2) scLdue.nd rfl (by first | exact Or.inl rfl | exact Or.inr rfl))) (fun _ _ _ _ _ => (pts_one (pt_not (pt_chain op_le op_le pe_int (pv 2) (pe_op op_pow pe_int pe_int))))) (fun _ _ _ _ _ => (pv 2)))
      (pss_cons (ps_if (pt_cmpR (r := rNeD K) (op_neD hr.units) (pv 1) (pe_lst pa_nil) (nomark _)) (pss_one (ps_ret (pe_tup (pa_cons pe_str (pa_cons (pe_ix (r := rIxL K) ix_list (pv 1) pe_int (fun _ _ => rfl)) pa_nil))))) pss_nil)
      (pss_one (ps_ret (pe_tup (pa_cons pe_str (pa_cons (pe_callTy call_tuple_of rfl T.ntuple (by decide +kernel) (pa_cons (pv 0) pa_nil)) pa_nil)))))))), ?_⟩
    have el : (vi caps).length = caps.length := List.length_map ..
    have six : ¬ sixO caps → ∀ p, H p = none → Q (.ref p) (upd H p (.tup [.str "jars", .int (vi caps).length])) := fun n p hp => hq _ p (.inl ⟨n, by rw [el]; exact upd_same⟩) (same_new hp)
    refine ⟨_, rfl, a, _, rfl, .inl hS, 1, _, rfl, rfl, _, rfl, ?_⟩
    by_cases g1 : 1 ≤ caps.length
    · refine ifT (decide_eq_true (by rw [el]; omega)) ?_
      refine ⟨_, _, rfl, rfl, _, rfl, ?_⟩
      by_cases g2 : caps.length ≤ 6
      · refine iteNS (by rw [el]; omega) ?_
        refine ⟨_, rfl, a, rfl, ⟨_, hS⟩, fun D1 hD1 => ?_⟩
        refine lc_list (K := K) (a := a) (xs := vi caps) (fun i H' => H' D1 = some (.lst (vi (bads (caps.take i)))) ∧ Same H H') ⟨upd_same, same_new hD1⟩ (fun i H' _ h => h.2.seq hS) ?_ ?_
        · rintro i y H' hi ⟨g, sm⟩
          obtain ⟨z, hz, rfl⟩ := vi_get hi
          have e : bads (caps.take (i + 1)) = bads (caps.take i) ++ (if okN z = true then [] else [z]) := by
            unfold bads
            rw [List.take_add_one, hz, List.filter_append]
            cases k : okN z <;> simp [k]
          have bl : (bads (caps.take i)).length ≤ 8 := by
            have q1 := List.length_filter_le (fun c => !okN c) (caps.take i)
            rw [List.length_take] at q1
            unfold bads
            omega
          have no : okN z = false → ∃ acc, H' D1 = some (.lst acc) ∧ acc.length < sizeLine ∧ ((upd H' D1 (.lst (acc ++ [V.int z]))) D1 = some (.lst (vi (bads (caps.take (i + 1))))) ∧ Same H (upd H' D1 (.lst (acc ++ [V.int z])))) := fun k => by
            refine ⟨_, g, Nat.lt_of_lt_of_le (by rw [List.length_map]; omega : _ < 100) (by decide), ?_, same_mut sm hD1⟩
            rw [upd_same, e, k]
            simp [vi]
          refine ⟨rfl, ?_⟩
          by_cases c1 : (1 : Int) ≤ z
          · refine ⟨_, rfl, _, _, rfl, rfl, _, rfl, ifT (decide_eq_true c1) ?_⟩
            refine ⟨_, _, rfl, rfl, ⟨by decide, by decide, by decide⟩, _, _, rfl, rfl, _, rfl, ?_⟩
            have p12 : (10 : Int) ^ (12 : Int).toNat = 1000000000000 := by decide
            by_cases c2 : z ≤ 1000000000000
            · refine (congrArg (fun c : Bool => if (!c) = true then _ else _) (decide_eq_true (by rw [p12]; exact c2))).mpr ?_
              have k : okN z = true := by unfold okN; rw [decide_eq_true c1, decide_eq_true c2]; rfl
              refine ifF rfl ⟨?_, sm⟩
              rw [g, e, k]
              simp
            · refine (congrArg (fun c : Bool => if (!c) = true then _ else _) (decide_eq_false (by rw [p12]; exact c2))).mpr ?_
              have k : okN z = false := by unfold okN; rw [decide_eq_true c1, decide_eq_false c2]; rfl
              exact ifT rfl ⟨_, rfl, no k⟩
          · refine ⟨_, rfl, _, _, rfl, rfl, _, rfl, ifF (decide_eq_false c1) ?_⟩
            have k : okN z = false := by unfold okN; rw [decide_eq_false c1]; rfl
            exact ⟨_, rfl, ifT rfl ⟨_, rfl, no k⟩⟩
        · rintro H' ⟨g, sm⟩
          rw [el, List.take_length] at g
          refine ⟨_, rfl, (by show 0 ≤ sizeLine; decide), fun e0 he0 => ?_⟩
          have s1 : Same H' (upd H' e0 (.lst [])) := same_new he0
          have d0 : D1 ≠ e0 := fun z => by rw [← z, g] at he0; cases he0
          have g' : upd H' e0 (.lst []) D1 = some (.lst (vi (bads caps))) := s1 _ _ g
          refine ne_intsB (m := []) (SqL.of g') (SqL.of upd_same) ⟨_, rfl, ?_⟩
          cases hb : bads caps with
          | nil =>
            refine ifF rfl ⟨_, rfl, a, _, rfl, .inl ⟨(sm.trans s1).seq hS, fun t ht => ⟨(by show 2 ≤ sizeLine; decide), fun p hp => ?_⟩⟩⟩
            refine hq _ p (.inr (.inr ⟨⟨g1, g2⟩, hb, t, upd_same, ?_⟩)) (((sm.trans s1).trans (same_new ht)).trans (same_new hp))
            exact (same_new hp) _ _ upd_same
          | cons z r =>
            refine ifT rfl ⟨_, rfl, ?_⟩
            refine pickL (xs := z :: r) (n := 0) (SqL.of (by rw [g', hb])) (by simp) ⟨(by show 2 ≤ sizeLine; decide), fun p hp => ?_⟩
            exact hq _ p (.inr (.inl ⟨⟨g1, g2⟩, z, r, hb, upd_same⟩)) ((sm.trans s1).trans (same_new hp))
      · refine (congrArg (fun c : Bool => if (!c) = true then _ else _) (decide_eq_false (by rw [el]; omega))).mpr ?_
        exact ifT rfl ⟨_, rfl, a, _, rfl, .inl hS, (by show 2 ≤ sizeLine; decide), six fun z => g2 z.2⟩
    · refine ifF (decide_eq_false (by rw [el]; omega)) ?_
      exact ⟨_, rfl, ifT rfl ⟨_, rfl, a, _, rfl, .inl hS, (by show 2 ≤ sizeLine; decide), six fun z => g1 z.1⟩⟩
end
end Kp

namespace Kp
open PySem PySem.Spec PyProof.Rows L2 KpR
section
variable {P : Program} {w : World} {K : PySem.W.Frag} {mg : Str → Option Value} {base : Heap}
theorem okLsaid (T : Tx K mg) : FnOk P w K mg base CX0 6 T.aLsaid T.dLsaid ["_law_caps"] (spLsaid T) := by
  refine T.fLsaid.ok scLsaid (fun vs H Q E h => ?_) (fun cdv A outer s H vs Q E hr h => ?_)
  · obtain ⟨a, caps, rfl, _⟩ := h
    rfl
  · obtain ⟨a, caps, rfl, hS, l8, hq⟩ := h
    refine ⟨_, (pss_one (ps_try_fst (i := 1) rfl rfl scLsaid.nd rfl rfl ⟨rfl, by decide, .inl T.mBadCount⟩ (fun W qn xe tk po => (pss_one (ps_ret (pe_tup (pa_cons pe_str (pa_cons (show PE _ _ (tFld K _ "sizes") from (pe_fld (pe_make T.kJars (okJarsInit T) (hr.mono (by decide)) rfl T.mJars T.bJarsInit .nil (passL (n := 2) tk rfl) (pa_cons (pv 0) pa_nil)) rfl)) pa_nil))))))
      (fun xa xo xc xd xq hz hf => (pss_one (ps_ret (pe_tup (pa_cons (pe_xf T.xfBadCount T.nBadCount_what hz hf (pv 1)) (pa_cons (pe_xf T.xfBadCount T.nBadCount_count hz hf (pv 1)) pa_nil)))))))), ?_⟩
    have el : (vi caps).length = caps.length := List.length_map ..
    -- what comes of a refusal
    have bad : ∀ {x : Str} {n : Int} {G : Hp}, Same H G → (∀ (H' : Hp) (p : Addr), H' p = some (.tup [.str x, .int n]) → Same H H' → Q (.ref p) H') →
        bE T G (anyL 2 (wFst K (.ref T.cBadCount) 1 (fun a cls d => tRet (tTup (tCons (tXf a cls d T.cBadCount "what" (tVar 1)) (tCons (tXf a cls d T.cBadCount "count" (tVar 1)) tNil)))) { nx := fun _ H' => Q .non H', rt := Q })) x n := by
      intro x n G sm k H' d hb s1 σ hl
      obtain ⟨fs, e1, e2, e3⟩ := hb
      refine ⟨T.emBadCount_BadCount, fun a ha => ?_⟩
      obtain ⟨v0, v1, rfl⟩ : ∃ v0 v1, σ = [v0, v1] := match σ, hl with
        | [v0, v1], _ => ⟨v0, v1, rfl⟩
      refine ⟨_, rfl, rfl, rfl, d, fs, _, rfl, e1, e2, _, rfl, rfl, rfl, d, fs, _, rfl, e1, e3, (by show 2 ≤ sizeLine; decide), fun p hp => ?_⟩
      exact k _ p upd_same ((sm.trans s1).trans (same_new hp))
    refine ⟨_, rfl, fun x dx hx hdx ne => ?_⟩
    have s1 : Same H (upd (upd H dx (.own x)) x (.ins T.cJars dx [])) := (same_new hdx).trans (same_new (by rw [upd_ne ne.symm]; exact hx))
    refine ⟨x, dx, a, caps, rfl, upd_same, ?_, by omega, fun n => ?_, fun s6 z r e => ?_, fun s6 e H' hJ fr => ⟨rfl, ?_⟩⟩
    · rcases hS with hS | hS
      · exact .inl (s1.seq hS)
      · exact .inr (s1 _ _ hS)
    · exact bad s1 fun H' p h1 h2 => hq H' p (.inl ⟨n, h1⟩) h2
    · exact bad s1 fun H' p h1 h2 => hq H' p (.inr (.inl ⟨s6, z, r, e, h1⟩)) h2
    · obtain ⟨ex, t, j1, j2⟩ := hJ
      have s2 : Same H H' := made_same hx hdx fr
      refine ⟨x, _, ex, _, _, rfl, j1, T.lJars, T.nJars_sizes, lk1, (by show 2 ≤ sizeLine; decide), fun p hp => ?_⟩
      exact hq _ p (.inr (.inr ⟨s6, e, t, upd_same, (same_new hp) _ _ j2⟩)) (s2.trans (same_new hp))
end
end Kp

namespace Kp
open PySem PySem.Spec PyProof.Rows L2 KpR
section
variable {K : PySem.W.Frag} {mg : Str → Option Value} {H : Hp}
theorem ixN_nat {n i : Nat} (h : i < n) : ixN n (i : Int) = some i := by
  have e : atI (List.range n) (i : Int) = some i := atI_nat (by simp [h])
  unfold atI at e
  cases z : ixN (List.range n).length (i : Int) with
  | none => rw [z] at e; cases e
  | some j =>
    rw [z] at e
    have e2 : (List.range n)[j]? = some i := e
    have hj := (List.getElem?_eq_some_iff.mp e2).2
    rw [List.getElem_range] at hj
    subst hj
    simpa using z
theorem ixN_last {n : Nat} : ixN (n + 1) (-1) = some n := by
  have e : atI (List.range n ++ [n]) (-1) = some n := atI_last _ _
  unfold atI at e
  have hl : (List.range n ++ [n]).length = n + 1 := by simp
  rw [hl] at e
  cases z : ixN (n + 1) (-1) with
  | none => rw [z] at e; cases e
  | some j =>
    rw [z, ← List.range_succ] at e
    have e2 : (List.range (n + 1))[j]? = some n := e
    have hj := (List.getElem?_eq_some_iff.mp e2).2
    rw [List.getElem_range] at hj
    exact congrArg some hj
theorem cut_m1 {xs : List V} {v : V} : cutV (xs ++ [v]) none (some (-1)) = xs := by
  unfold cutV
  have e : HT.sIx (xs ++ [v]).length (xs ++ [v]).length (some (-1)) = xs.length := by
    show (if (-1 : Int) < 0 then ((-1 : Int) + ((xs ++ [v]).length : Int)).toNat else min (-1 : Int).toNat (xs ++ [v]).length) = xs.length
    rw [if_pos (by decide), List.length_append, List.length_cons, List.length_nil]
    omega
  rw [e, HT.sIx_none, List.drop_zero, Nat.sub_zero, List.take_append_of_le_length (Nat.le_refl _), List.take_length]
theorem bads_all {l : List Int} : bads l = [] ↔ ∀ c ∈ l, okN c = true := by
  unfold bads
  rw [List.filter_eq_nil_iff]
  simp
theorem ixN_z {n : Nat} (h : 0 < n) : ixN n 0 = some 0 := ixN_nat (i := 0) h
theorem ne_tups {a b : Addr} {l : List Int} {Q : VK} (h1 : SqT K H a (vi l)) (h2 : SqT K H b (vi l)) (q : Q (.bl false) H) : rNeD K (.ref a) (.ref b) H Q := by
  refine ⟨_, _, .tup h1 (dpI l), .tup h2 (dpI l), shape_t l, shape_t l, ?_⟩
  have z : PyData.eqv (.tuple (pdI l)) (.tuple (pdI l)) = true := by
    simp [PyData.eqv, eqv_i]
  rw [z]
  exact q
def spLjarsright (T : Tx K mg) : Sp := fun vs H Q _ => ∃ (a : Addr) (caps : List Int), vs = [.ref a] ∧ SqL K H a (vi caps) ∧ sixO caps ∧ bads caps = [] ∧ ∀ H', Same H H' → Q (.bl true) H'
end
section
variable {P : Program} {w : World} {K : PySem.W.Frag} {mg : Str → Option Value} {base : Heap}
theorem okLjarsright (T : Tx K mg) : FnOk P w K mg base CX0 6 T.aLjarsright T.dLjarsright ["_law_caps"] (spLjarsright T) := by
  refine T.fLjarsright.ok scLjarsright (fun vs H Q E h => ?_) (fun cdv A outer s H vs Q E hr h => ?_)
  · obtain ⟨a, caps, rfl, _⟩ := h
    rfl
  · obtain ⟨a, caps, rfl, hS, six, hb, hq⟩ := h
    refine ⟨_, (pss_cons (ps_set (i := 1) scLjarsright.nd rfl (by first | exact Or.inl rfl | exact Or.inr rfl) (pe_callTy call_list_of rfl T.nlist (by decide +kernel) (pa_cons (pv 0) pa_nil)))
      (pss_cons (ps_set (i := 2) scLjarsright.nd rfl (by first | exact Or.inl rfl | exact Or.inr rfl) (pe_makeK0 T.kJars (okJarsInit T) (hr.mono (by decide)) rfl T.mJars T.kbJars_sizes passF (pk_cons (pv 1) pk_nil)))
      (pss_cons (ps_expr (pe_bm PySem.F.plainAttrs_list PySem.F.slot_list_append PySem.F.type_list_append mt_append (pv 1) (pa_cons pe_int pa_nil)))
      (pss_cons (ps_asg pe_int (pg_sub (pv 1) pe_int set_list))
      (pss_cons (ps_if (PW.pt (pw_or (pt_cmpR (r := rNeD K) (op_neD hr.units) (pe_fld (pv 2) rfl) (pe_callTy call_tuple_of rfl T.ntuple (by decide +kernel) (pa_cons (pv 0) pa_nil)) (nomark _)) (pw_or (pt_cmpR (opNeJars T (hr.mono (by decide))) (pv 2) (pe_make T.kJars (okJarsInit T) (hr.mono (by decide)) rfl T.mJars T.bJarsInit .nil passF (pa_cons (pe_callTy call_tuple_of rfl T.ntuple (by decide +kernel) (pa_cons (pv 0) pa_nil)) pa_nil)) (nomark _)) (pw_or1 (pt_cmpR (opInJars T (hr.mono (by decide))) (pv 2) (pe_lst (pa_cons (pe_callTy call_tuple_of rfl T.ntuple (by decide +kernel) (pa_cons (pv 0) pa_nil)) (pa_cons pe_non (pa_cons (pe_callB call_len_seq rfl T.nlen PySem.boot_len (pa_cons (pv 0) pa_nil)) pa_nil)))) (by rfl)))))) (pss_one (ps_ret pe_bl)) pss_nil)
      (pss_cons (ps_set (i := 3) scLjarsright.nd rfl (by first | exact Or.inl rfl | exact Or.inr rfl) (pe_lst (pa_cons (pe_op op_catR (pe_slice sl_list (pv 0) po_none (po_some (pe_un un_neg pe_int))) (pe_lst (pa_cons (pe_op op_add pe_int (pe_op op_mod (pe_ix (r := rIxL K) ix_list (pv 0) (pe_un un_neg pe_int) (fun _ _ => rfl)) (pe_op op_pow pe_int pe_int))) pa_nil))) (pa_cons (pe_revL (pv 0)) pa_nil))))
      (C8.pss_cut (ps_if (pt_cmpR op_lt (pe_callB call_len_seq rfl T.nlen PySem.boot_len (pa_cons (pv 0) pa_nil)) pe_int (nomark _)) (pss_one (ps_expr (pe_bm PySem.F.plainAttrs_list PySem.F.slot_list_append PySem.F.type_list_append mt_append (pv 3) (pa_cons (pe_op op_catR (pv 0) (pe_lst (pa_cons pe_int pa_nil))) pa_nil)))) pss_nil)
      (pss_one (ps_ret (pe_cmpR (r := rEqD K) (op_eqD hr.units) (pe_lc (own := [("_law_other", 4)]) rfl scLjarsright.nd (pi_list (pv 3)) (blkOk_by (own := [("_law_other", 4)]) (N := ["_law_caps", "_law_handed", "_law_first", "_law_others", "_law_other"]) (sc := defScope sLjarsright) (by decide +kernel)) (fun _ _ _ _ _ => (pg_name (i := 4) scLjarsright.nd rfl (by first | exact Or.inl rfl | exact Or.inr rfl))) (fun _ _ _ _ _ => (pts_one (pt_cmpR op_ne (pe_cmpR (opEqJars T (hr.mono (by decide))) (pv 2) (pe_make T.kJars (okJarsInit T) (hr.mono (by decide)) rfl T.mJars T.bJarsInit .nil passF (pa_cons (pv 4) pa_nil)) (nomark _)) (pe_cmpR (r := rEqD K) (op_eqD hr.units) (pv 4) (pv 0) (nomark _)) (nomark _)))) (fun _ _ _ _ _ => (pv 4))) (pe_lst pa_nil) (nomark _))))))))))), ?_⟩
    have el : (vi caps).length = caps.length := List.length_map ..
    have c1 := six.1
    have c6 := six.2
    obtain ⟨ini, z, ec⟩ : ∃ ini z, caps = ini ++ [z] := ⟨caps.dropLast, caps.getLast (fun e => by rw [e] at c1; exact absurd c1 (by decide)), (List.dropLast_concat_getLast _).symm⟩
    have ev : vi caps = vi ini ++ [V.int z] := by rw [ec]; simp [vi]
    have okA := bads_all.mp hb
    -- handed
    refine ⟨_, rfl, a, _, rfl, .inl hS, fun l hl => ?_⟩
    have s1 : Same H (upd H l (.lst (vi caps))) := same_new hl
    refine ⟨_, rfl, rfl, rfl, fun x dx hx hdx ne => ?_⟩
    have s2 : Same (upd H l (.lst (vi caps))) (upd (upd (upd H l (.lst (vi caps))) dx (.own x)) x (.ins T.cJars dx [])) := (same_new hdx).trans (same_new (o := .ins T.cJars dx []) (by rw [upd_ne ne.symm]; exact hx))
    refine ⟨x, dx, l, caps, rfl, upd_same, .inl (SqL.of (s2 _ _ upd_same)), by omega, fun n => absurd six n, fun _ z r e => (by rw [hb] at e; cases e), fun _ _ H1 hJ fr => ⟨rfl, ?_⟩⟩
    have s3 : Same (upd H l (.lst (vi caps))) H1 := made_same hx hdx fr
    have hl1 : H1 l = some (.lst (vi caps)) := s3 _ _ upd_same
    -- append, [0] = 0
    refine ⟨_, rfl, .inl ⟨rfl, _, SqL.of hl1⟩, l, _, _, rfl, rfl, hl1, Nat.lt_of_lt_of_le (by rw [el]; omega : _ < 100) (by decide), ?_⟩
    refine ⟨_, rfl, l, _, _, 0, rfl, rfl, upd_same, ?_, ?_⟩
    · rw [List.length_append]
      exact ixN_z (by omega)
    have fl : Fr l H1 (upd (upd H1 l (.lst (vi caps ++ [V.int 3]))) l (.lst ((vi caps ++ [V.int 3]).set 0 (V.int 0)))) := fr_mut (fr_mut (Fr.refl _ _))
    obtain ⟨ex, tx, jx1, jx2⟩ := id hJ
    have xl : x ≠ l := fun z => by rw [z, hl1] at jx1; cases jx1
    have txl : tx ≠ l := fun z => by rw [z, hl1] at jx2; cases jx2
    generalize hG : (upd (upd H1 l (.lst (vi caps ++ [V.int 3]))) l (.lst ((vi caps ++ [V.int 3]).set 0 (V.int 0)))) = G at fl ⊢
    have sG : Same H G := fun b o e => by
      have n1 : b ≠ l := ne_of_none e hl
      exact fl b o n1 (s3 _ _ (s1 _ _ e))
    have hJ2 : JarsAt T G x caps := ⟨ex, tx, fl _ _ xl jx1, fl _ _ txl jx2⟩
    obtain ⟨ey, ty, jy1, jy2⟩ := id hJ2
    -- sizes
    refine ⟨_, rfl, x, _, ey, _, _, rfl, jy1, T.lJars, T.nJars_sizes, lk1, _, rfl, a, _, rfl, .inl ⟨sG.seq hS, fun t1 ht1 => ?_⟩⟩
    have g1 : Same G (upd G t1 (.tup (vi caps))) := same_new ht1
    refine ne_tups (SqT.of (g1 _ _ jy2)) (SqT.of upd_same) ⟨_, rfl, ifF rfl ?_⟩
    have G1 : Same G (upd G t1 (.tup (vi caps))) := g1
    -- != Jars(tuple)
    have no2 : ∀ {B : Prop} {z : Int} {r : List Int}, bads caps = z :: r → B := fun e => by rw [hb] at e; cases e
    have sG1 := sG.trans G1
    refine ⟨_, rfl, _, rfl, a, _, rfl, .inl ⟨sG1.seq hS, fun t2 ht2 => fun y dy hy hdy ne2 => ?_⟩⟩
    have g2 := same_new (o := HO.tup (vi caps)) ht2
    have g3 := (same_new (o := HO.own y) hdy).trans (same_new (o := .ins T.cJars dy []) (by rw [upd_ne ne2.symm]; exact hy))
    refine ⟨y, dy, t2, caps, rfl, upd_same, .inr (g3 _ _ upd_same), by omega, fun n => absurd six n, fun _ z r e => no2 e, fun _ _ H2 hJy fr2 => ⟨rfl, ?_⟩⟩
    have sGH2 : Same G H2 := (G1.trans g2).trans (made_same hy hdy fr2)
    refine neJars (hJ2.same sGH2) hJy fun H3 e3 => ⟨_, rfl, ifF rfl ?_⟩
    have sG3 : Same G H3 := sGH2.trans fun b o q => e3 b o q
    have s03 := sG.trans sG3
    -- in
    refine ⟨_, rfl, _, rfl, a, _, rfl, .inl ⟨s03.seq hS, fun t3 ht3 => ?_⟩⟩
    have g4 := same_new (o := HO.tup (vi caps)) ht3
    refine ⟨_, rfl, a, _, rfl, .inl ((s03.trans g4).seq hS), (by show 3 ≤ sizeLine; decide), fun l3 hl3 => ?_⟩
    have g5 := same_new (o := HO.lst [V.ref t3, V.non, V.int (vi caps).length]) hl3
    refine outJars (hJ2.same ((sG3.trans g4).trans g5)) upd_same ?_ fun H4 e4 => ⟨_, rfl, ifF rfl ?_⟩
    · intro v hv
      rcases List.mem_cons.mp hv with rfl | hv
      · exact .inr (.inr ⟨t3, _, rfl, g5 _ _ upd_same⟩)
      · rcases List.mem_cons.mp hv with rfl | hv
        · exact .inl rfl
        · rcases List.mem_cons.mp hv with rfl | hv
          · exact .inr (.inl ⟨_, rfl⟩)
          · cases hv
    have sG4 : Same G H4 := ((sG3.trans g4).trans g5).trans fun b o q => e4 b o q
    have s04 := sG.trans sG4
    have hJ4 := hJ2.same sG4
    clear hJ hJ2 hJy e4 e3
    -- others
    refine ⟨_, rfl, _, rfl, _, rfl, a, _, rfl, s04.seq hS, fun p1 hp1 => ?_⟩
    rw [ev, cut_m1]
    have q1 := same_new (o := HO.lst (vi ini)) hp1
    have hS1 := (s04.trans q1).seq hS
    rw [ev] at hS1
    refine ⟨_, rfl, _, rfl, a, _, _, _, rfl, rfl, hS1, atI_last _ _, _, _, rfl, rfl, ⟨by decide, by decide, by decide⟩, _, _, rfl, rfl, (by show (0 : Int) < 10 ^ (12 : Int).toNat; decide), _, _, rfl, rfl, (by show 1 ≤ sizeLine; decide), fun p2 hp2 => ?_⟩
    have q2 := same_new (o := HO.lst [V.int (1 + z % 10 ^ (12 : Int).toNat)]) hp2
    refine ⟨p1, p2, _, _, rfl, rfl, SqL.of (q2 _ _ upd_same), SqL.of upd_same, Nat.le_trans (by rw [List.length_map]; have := congrArg List.length ec; simp at this ⊢; omega : _ ≤ 100) (by decide), fun p3 hp3 => ?_⟩
    have q3 := same_new (o := HO.lst (vi ini ++ [V.int (1 + z % 10 ^ (12 : Int).toNat)])) hp3
    have s43 := ((s04.trans q1).trans q2).trans q3
    refine ⟨_, rfl, a, _, rfl, s43.seq hS, fun p4 hp4 => ?_⟩
    have q4 := same_new (o := HO.lst (vi caps).reverse) hp4
    refine ⟨(by show 2 ≤ sizeLine; decide), fun ot hot => ?_⟩
    have q5 := same_new (o := HO.lst [V.ref p3, V.ref p4]) hot
    have s45 := (s43.trans q4).trans q5
    have sJ : Same H4 _ := (((q1.trans q2).trans q3).trans q4).trans q5
    let LV : Hp → V → List Int → Prop := fun G v m => ∃ p, v = .ref p ∧ G p = some (.lst (vi m))
    have lvS : ∀ {G G' : Hp} {v : V} {m : List Int}, Same G G' → LV G v m → LV G' v m := fun e ⟨p, h1, h2⟩ => ⟨p, h1, e _ _ h2⟩
    have good1 : sixO (ini ++ [1 + z % 10 ^ (12 : Int).toNat]) ∧ bads (ini ++ [1 + z % 10 ^ (12 : Int).toNat]) = [] := by
      have ln := congrArg List.length ec
      simp only [List.length_append, List.length_cons, List.length_nil] at ln
      refine ⟨⟨?_, ?_⟩, bads_all.mpr fun c hc => ?_⟩
      · rw [List.length_append, List.length_cons, List.length_nil]; omega
      · rw [List.length_append, List.length_cons, List.length_nil]; omega
      · rcases List.mem_append.mp hc with h | h
        · exact okA c (by rw [ec]; exact List.mem_append_left _ h)
        · have e := List.mem_singleton.mp h
          have p12 : (10 : Int) ^ (12 : Int).toNat = 1000000000000 := by decide
          rw [p12] at e
          have m0 := Int.emod_nonneg z (show (1000000000000 : Int) ≠ 0 by decide)
          have m1 := Int.emod_lt_of_pos z (show (0 : Int) < 1000000000000 by decide)
          unfold okN
          rw [decide_eq_true (by omega), decide_eq_true (by omega)]
          rfl
    have good2 : sixO caps.reverse ∧ bads caps.reverse = [] :=
      ⟨⟨by rw [List.length_reverse]; exact c1, by rw [List.length_reverse]; exact c6⟩, bads_all.mpr fun c hc => okA c (List.mem_reverse.mp hc)⟩
    have e3 : vi (ini ++ [1 + z % 10 ^ (12 : Int).toNat]) = vi ini ++ [V.int (1 + z % 10 ^ (12 : Int).toNat)] := by simp [vi]
    have e4 : vi caps.reverse = (vi caps).reverse := by simp [vi]
    have lv1 : ∀ {G : Hp}, G p3 = some (.lst (vi ini ++ [V.int (1 + z % 10 ^ (12 : Int).toNat)])) → LV G (V.ref p3) (ini ++ [1 + z % 10 ^ (12 : Int).toNat]) := fun h => ⟨p3, rfl, by rw [e3]; exact h⟩
    have lv2 : ∀ {G : Hp}, G p4 = some (.lst (vi caps).reverse) → LV G (V.ref p4) caps.reverse := fun h => ⟨p4, rfl, by rw [e4]; exact h⟩
    have lv1 := lv1 ((q4.trans q5) _ _ upd_same)
    have lv2 := lv2 (q5 _ _ upd_same)
    have hJ5 := hJ4.same sJ
    have hot5 := q5
    refine ⟨fun σ G' => ∃ (os : List V) (ms : List (List Int)), σ = [some (.ref a), some (.ref l), some (.ref x), some (.ref ot), none] ∧ G' ot = some (.lst os) ∧ A2 (LV G') os ms ∧ ms.length ≤ 3 ∧ (∀ m ∈ ms, sixO m ∧ bads m = []) ∧ Same H G' ∧ JarsAt T G' x caps, ?_, ?_⟩
    · refine ⟨_, rfl, a, _, rfl, .inl (s45.seq hS), _, _, rfl, rfl, _, rfl, ifD (fun g => ?_) fun _ => ?_⟩
      · rw [el] at g
        refine ⟨_, rfl, .inl ⟨rfl, _, SqL.of upd_same⟩, _, rfl, (by show 1 ≤ sizeLine; decide), fun p5 hp5 => ?_⟩
        have q6 := same_new (o := HO.lst [V.int 1]) hp5
        refine ⟨a, p5, _, _, rfl, rfl, (s45.trans q6).seq hS, SqL.of upd_same, Nat.le_trans (by rw [el]; simp; omega : _ ≤ 100) (by decide), fun p6 hp6 => ?_⟩
        have q7 := same_new (o := HO.lst (vi caps ++ [V.int 1])) hp6
        have q67 := q6.trans q7
        refine ⟨ot, _, _, rfl, rfl, q67 _ _ upd_same, (by show 2 < sizeLine; decide), ?_⟩
        have n0 : ∀ {b : Addr} {o : HO}, H b = some o → b ≠ ot := fun h => ne_of_none ((s43.trans q4) _ _ h) hot
        have n4 : ∀ {b : Addr} {o : HO}, H4 b = some o → b ≠ ot := fun h => ne_of_none (((((q1.trans q2).trans q3).trans q4)) _ _ h) hot
        have n3 : p3 ≠ ot := ne_of_none (q4 _ _ upd_same) hot
        have n4p : p4 ≠ ot := ne_of_none upd_same hot
        have n6 : ot ≠ p6 := ne_of_none (q6 _ _ upd_same) hp6
        have e6 : vi (caps ++ [1]) = vi caps ++ [V.int 1] := by simp [vi]
        obtain ⟨ez, tz, jz1, jz2⟩ := id hJ4
        refine ⟨_, [ini ++ [1 + z % 10 ^ (12 : Int).toNat], caps.reverse, caps ++ [1]], rfl, upd_same, ⟨⟨p3, rfl, ?_⟩, ⟨p4, rfl, ?_⟩, ⟨p6, rfl, ?_⟩, trivial⟩, Nat.le_refl 3, fun m hm => ?_, fun b o h => ?_, ⟨ez, tz, ?_, ?_⟩⟩
        · rw [upd_ne n3, e3]
          exact q67 _ _ ((q4.trans q5) _ _ upd_same)
        · rw [upd_ne n4p, e4]
          exact q67 _ _ (q5 _ _ upd_same)
        · rw [upd_ne n6.symm, e6]
          exact upd_same
        · rcases List.mem_cons.mp hm with rfl | hm
          · exact good1
          · rcases List.mem_cons.mp hm with rfl | hm
            · exact good2
            · rcases List.mem_cons.mp hm with rfl | hm
              · refine ⟨⟨by rw [List.length_append]; exact Nat.le_add_left _ _, by rw [List.length_append, List.length_cons, List.length_nil]; omega⟩, bads_all.mpr fun c hc => ?_⟩
                rcases List.mem_append.mp hc with h | h
                · exact okA c h
                · rw [List.mem_singleton.mp h]
                  rfl
              · cases hm
        · rw [upd_ne (n0 h)]
          exact (s45.trans q67) _ _ h
        · rw [upd_ne (n4 jz1)]
          exact (sJ.trans q67) _ _ jz1
        · rw [upd_ne (n4 jz2)]
          exact (sJ.trans q67) _ _ jz2
      · refine ⟨_, [ini ++ [1 + z % 10 ^ (12 : Int).toNat], caps.reverse], rfl, upd_same, ⟨lv1, lv2, trivial⟩, Nat.le_succ 2, fun m hm => ?_, s45, hJ5⟩
        rcases List.mem_cons.mp hm with rfl | hm
        · exact good1
        · rcases List.mem_cons.mp hm with rfl | hm
          · exact good2
          · cases hm
    · rintro σ G' ⟨os, ms, rfl, ho, hA, l3, good, sm, hj⟩
      refine ⟨_, rfl, ot, rfl, ⟨_, SqL.of ho⟩, fun D1 hD1 => ?_⟩
      refine lc_list (K := K) (a := ot) (xs := os) (fun i H' => H' D1 = some (.lst (vi [])) ∧ Same G' H') ⟨upd_same, same_new hD1⟩ (fun i H' _ h => h.2.seq (SqL.of ho)) ?_ ?_
      · rintro i y B hi ⟨gD, sB⟩
        obtain ⟨m, hm, p, rfl, hp⟩ := hA.get hi
        obtain ⟨sm6, bm⟩ := good m (List.mem_of_getElem? hm)
        refine ⟨rfl, ?_⟩
        refine ⟨_, rfl, _, rfl, fun y dy hy hdy ne => ?_⟩
        have k1 := (same_new (o := HO.own y) hdy).trans (same_new (o := .ins T.cJars dy []) (by rw [upd_ne ne.symm]; exact hy))
        refine ⟨y, dy, p, m, rfl, upd_same, .inl (SqL.of (k1 _ _ (sB _ _ hp))), Nat.le_trans sm6.2 (by decide), fun n => absurd sm6 n, fun _ z r e => (by rw [bm] at e; cases e), fun _ _ H2 hJy fr2 => ⟨rfl, ?_⟩⟩
        have k2 : Same B H2 := made_same hy hdy fr2
        refine eqJars (hj.same (sB.trans k2)) hJy fun H3 e3 => ?_
        have k3 : Same B H3 := k2.trans fun b o q => e3 b o q
        refine ⟨_, rfl, _, rfl, eq_ints (SqL.of (k3 _ _ (sB _ _ hp))) (((sm.trans sB).trans k3).seq hS) ⟨rfl, _, rfl, ?_⟩⟩
        exact iteNS (congrArg V.bl (decide_eq_decide.mpr eq_comm)) ⟨k3 _ _ gD, sB.trans k3⟩
      · rintro B ⟨gD, sB⟩
        refine ⟨(by show 0 ≤ sizeLine; decide), fun e0 he0 => ?_⟩
        have k1 := same_new (o := HO.lst []) he0
        refine eq_ints (l := []) (m := []) (SqL.of (k1 _ _ gD)) (SqL.of upd_same) ?_
        exact (congrArg (fun c => Q (V.bl c) _) (decide_eq_true rfl)).mpr (hq _ ((sm.trans sB).trans k1))
end
end Kp

namespace Kp
open PySem PySem.Spec PyProof.Rows L2 KpR
def wn4 (i : Nat) : Str := [("pour" : Str), "put", "draw", "change"].getD i "pour"
def mkE (i a b : Nat) : D := match i with
  | 0 => .pour a b
  | 1 => .put a b
  | 2 => .draw a b
  | _ => .change a b
theorem mkE_is {i a b : Nat} (h : i < 4) : (mkE i a b).word = wn4 i ∧ (mkE i a b).fst = a ∧ (mkE i a b).last = b := by
  have : i = 0 ∨ i = 1 ∨ i = 2 ∨ i = 3 := by omega
  rcases this with rfl | rfl | rfl | rfl <;> exact ⟨rfl, rfl, rfl⟩
theorem wn4_at {i : Nat} (h : i < 4) : atI [V.str "pour", V.str "put", V.str "draw", V.str "change"] (i : Int) = some (V.str (wn4 i)) := by
  have : i = 0 ∨ i = 1 ∨ i = 2 ∨ i = 3 := by omega
  rcases this with rfl | rfl | rfl | rfl <;> rfl
theorem D_ext {d e : D} : d = e ↔ (d.word = e.word ∧ (d.fst : Int) = e.fst ∧ d.last = e.last) := by
  refine ⟨fun h => by rw [h]; exact ⟨rfl, rfl, rfl⟩, fun ⟨h1, h2, h3⟩ => ?_⟩
  cases d <;> cases e <;> simp only [D.word, D.fst, D.last] at h1 h2 h3 <;> first
    | exact absurd h1 (by decide +kernel)
    | (have k2 := Int.ofNat.inj h2
       have k3 := Int.ofNat.inj h3
       subst k2
       subst k3
       rfl)
    | (have k2 := Int.ofNat.inj h2
       subst k2
       subst h3
       rfl)
theorem word_ok (d : D) : PyData.strOk d.word = true := by
  cases d
  · exact (show PyData.strOk ("pour" : Str) = true by decide +kernel)
  · exact (show PyData.strOk ("put" : Str) = true by decide +kernel)
  · exact (show PyData.strOk ("draw" : Str) = true by decide +kernel)
  · exact (show PyData.strOk ("change" : Str) = true by decide +kernel)
theorem eqv3 {a b : Str} {i j k l : Int} : PyData.eqv (.tuple [.str a, .int i, .int j]) (.tuple [.str b, .int k, .int l]) = decide (a = b ∧ i = k ∧ j = l) := by
  simp only [PyData.eqv, PyData.eqvAll, Bool.and_true]
  by_cases h1 : a = b <;> by_cases h2 : i = k <;> by_cases h3 : j = l <;> simp [h1, h2, h3]
section
variable {K : PySem.W.Frag} {mg : Str → Option Value} {H : Hp}
theorem eq_facts {x y : V} {d e : D} {Q : VK} (h1 : FactAt H x d) (h2 : FactAt H y e) (q : Q (.bl (decide (d = e))) H) : rEqD K x y H Q := by
  obtain ⟨s, rfl, hs⟩ := h1
  obtain ⟨t, rfl, ht⟩ := h2
  have sh : ∀ d : D, SeqAt.shaped (.tuple [.str d.word, .int d.fst, .int d.last]) = true := fun d => by
    unfold SeqAt.shaped
    simp only [PyData.canLay0, PyData.canLayAll0, PyData.depth, PyData.depthAll, word_ok]
    rfl
  refine ⟨_, _, .tup (SqT.of hs) (.cons (.str _) (.cons (.int _) (.cons (.int _) .nil))), .tup (SqT.of ht) (.cons (.str _) (.cons (.int _) (.cons (.int _) .nil))), sh d, sh e, ?_⟩
  rw [eqv3, decide_eq_decide.mpr D_ext.symm]
  exact q
def pdB (l : List Bool) : List PyData := l.map PyData.bool
theorem ne_bools {a b : Addr} {l : List Bool} {Q : VK} (hl : l.length ≤ 4) (h1 : SqL K H a (l.map V.bl)) (h2 : SqL K H b (l.map V.bl)) (q : Q (.bl false) H) : rNeD K (.ref a) (.ref b) H Q := by
  have dp : ∀ l : List Bool, DpAll K H (l.map V.bl) (pdB l) := fun l => by
    induction l with
    | nil => exact .nil
    | cons x l ih => exact .cons (.bl x) ih
  have z : ∀ l : List Bool, PyData.eqvAll (pdB l) (pdB l) = true := fun l => by
    induction l with
    | nil => rfl
    | cons x l ih => simp [pdB, PyData.eqvAll, PyData.eqv]; exact ih
  have cl : ∀ l : List Bool, PyData.canLayAll0 (pdB l) = true := fun l => by
    induction l with
    | nil => rfl
    | cons x l ih => simp [pdB, PyData.canLayAll0, PyData.canLay0]; exact ih
  have de : ∀ l : List Bool, PyData.depthAll (pdB l) = 0 := fun l => by
    induction l with
    | nil => rfl
    | cons x l ih => simp [pdB, PyData.depthAll, PyData.depth]; exact ih
  have sh : SeqAt.shaped (.list (pdB l)) = true := by
    unfold SeqAt.shaped
    simp only [PyData.canLay0, PyData.depth, cl, de]
    rfl
  refine ⟨_, _, .lst h1 (dp l), .lst h2 (dp l), sh, sh, ?_⟩
  have e : PyData.eqv (.list (pdB l)) (.list (pdB l)) = true := by simp only [PyData.eqv, z]
  rw [e]
  exact q
theorem is_deed (T : Tx K mg) (d : D) : PySem.W.kitOne K (.ref (d.cls T)) (.ref T.cDeed) = some true := by
  cases d
  · exact T.iPour_Deed
  · exact T.iPut_Deed
  · exact T.iDraw_Deed
  · exact T.iChange_Deed
theorem words_are (d : D) : [decide (V.str "pour" = V.str d.word), decide (V.str "put" = V.str d.word), decide (V.str "draw" = V.str d.word), decide (V.str "change" = V.str d.word)] = [d.isPour, d.isPut, d.isDraw, d.isChange] := by
  cases d
  · exact (show [decide (V.str "pour" = V.str "pour"), decide (V.str "put" = V.str "pour"), decide (V.str "draw" = V.str "pour"), decide (V.str "change" = V.str "pour")] = [true, false, false, false] by decide +kernel)
  · exact (show [decide (V.str "pour" = V.str "put"), decide (V.str "put" = V.str "put"), decide (V.str "draw" = V.str "put"), decide (V.str "change" = V.str "put")] = [false, true, false, false] by decide +kernel)
  · exact (show [decide (V.str "pour" = V.str "draw"), decide (V.str "put" = V.str "draw"), decide (V.str "draw" = V.str "draw"), decide (V.str "change" = V.str "draw")] = [false, false, true, false] by decide +kernel)
  · exact (show [decide (V.str "pour" = V.str "change"), decide (V.str "put" = V.str "change"), decide (V.str "draw" = V.str "change"), decide (V.str "change" = V.str "change")] = [false, false, false, true] by decide +kernel)
end
end Kp

namespace Kp
open PySem PySem.Spec PyProof.Rows L2 KpR
section
variable {K : PySem.W.Frag} {mg : Str → Option Value}
def spLdeedsright (T : Tx K mg) : Sp := fun vs H Q _ => ∃ (w : Addr), vs = [.ref w] ∧ WellAt H w ∧ ∀ H', WellAt H' w → Fr w H H' → Q (.bl true) H'
theorem num_at {k m : Nat} (hm : m ≤ 5) (h : k < m) : ∃ n : Nat, at0 [0, 1, 2, 5, 10 ^ (12 : Int).toNat] k = (n : Int) := by
  have : k = 0 ∨ k = 1 ∨ k = 2 ∨ k = 3 ∨ k = 4 := by omega
  rcases this with rfl | rfl | rfl | rfl | rfl
  · exact ⟨0, rfl⟩
  · exact ⟨1, rfl⟩
  · exact ⟨2, rfl⟩
  · exact ⟨5, rfl⟩
  · exact ⟨1000000000000, by decide⟩
end
section
variable {P : Program} {w : World} {K : PySem.W.Frag} {mg : Str → Option Value} {base : Heap}
theorem okLdeedsright (T : Tx K mg) : FnOk P w K mg base CX0 4 T.aLdeedsright T.dLdeedsright ["_law_well_here"] (spLdeedsright T) := by
  refine T.fLdeedsright.ok scLdeedsright (fun vs H Q E h => ?_) (fun cdv A outer s H vs Q E hr h => ?_)
  · obtain ⟨u, rfl, _⟩ := h
    rfl
  · obtain ⟨u, rfl, hw, hq⟩ := h
    refine ⟨_, (pss_cons (ps_set (i := 1) scLdeedsright.nd rfl (by first | exact Or.inl rfl | exact Or.inr rfl) (pe_lst (pa_cons pe_int (pa_cons pe_int (pa_cons pe_int (pa_cons pe_int (pa_cons (pe_op op_pow pe_int pe_int) pa_nil)))))))
      (pss_cons (ps_set (i := 2) scLdeedsright.nd rfl (by first | exact Or.inl rfl | exact Or.inr rfl) (pe_lst pa_nil))
      (pss_cons (ps_for PassesOwn.never rfl (pi_range1 rfl T.nrange (pa_cons pe_int pa_nil)) (pg_name (i := 3) scLdeedsright.nd rfl (by first | exact Or.inl rfl | exact Or.inr rfl)) (pss_cons (ps_set (i := 4) scLdeedsright.nd rfl (by first | exact Or.inl rfl | exact Or.inr rfl) (pe_ix (r := rIxL K) ix_list (pe_lst (pa_cons pe_str (pa_cons pe_str (pa_cons pe_str (pa_cons pe_str pa_nil))))) (pe_call (okLdraw T) (hr.mono (by decide)) rfl T.gLdraw T.fLdraw.kp T.bLdraw .nil pass0 (pa_cons (pv 0) (pa_cons pe_int pa_nil))) (fun _ _ => rfl)))
      (pss_one (ps_expr (pe_bm PySem.F.plainAttrs_list PySem.F.slot_list_append PySem.F.type_list_append mt_append (pv 2) (pa_cons (pe_tup (pa_cons (pv 4) (pa_cons (pe_ix (r := rIxL K) ix_list (pv 1) (pe_call (okLdraw T) (hr.mono (by decide)) rfl T.gLdraw T.fLdraw.kp T.bLdraw .nil pass0 (pa_cons (pv 0) (pa_cons pe_int pa_nil))) (fun _ _ => rfl)) (pa_cons (pe_ix (r := rIxL K) ix_list (pv 1) (pe_call (okLdraw T) (hr.mono (by decide)) rfl T.gLdraw T.fLdraw.kp T.bLdraw .nil pass0 (pa_cons (pv 0) (pa_cons pe_int pa_nil))) (fun _ _ => rfl)) pa_nil)))) pa_nil))))))
      (pss_cons (ps_for PassesOwn.never rfl (pi_list (pv 2)) (pg_name (i := 5) scLdeedsright.nd rfl (by first | exact Or.inl rfl | exact Or.inr rfl)) (pss_cons (ps_set (i := 6) scLdeedsright.nd rfl (by first | exact Or.inl rfl | exact Or.inr rfl) (pe_call (okLdeed T) (hr.mono (by decide)) rfl T.gLdeed T.fLdeed.kp T.bLdeed .nil pass0 (pa_cons (pv 5) pa_nil)))
      (pss_cons (ps_set (i := 7) scLdeedsright.nd rfl (by first | exact Or.inl rfl | exact Or.inr rfl) (pe_lst (pa_cons (pe_callB call_isi rfl T.nisinstance (by decide +kernel) (pa_cons (pv 6) (pa_cons (pe_glob (v := .ref T.cPour) rfl T.mPour rfl) pa_nil))) (pa_cons (pe_callB call_isi rfl T.nisinstance (by decide +kernel) (pa_cons (pv 6) (pa_cons (pe_glob (v := .ref T.cPut) rfl T.mPut rfl) pa_nil))) (pa_cons (pe_callB call_isi rfl T.nisinstance (by decide +kernel) (pa_cons (pv 6) (pa_cons (pe_glob (v := .ref T.cDraw) rfl T.mDraw rfl) pa_nil))) (pa_cons (pe_callB call_isi rfl T.nisinstance (by decide +kernel) (pa_cons (pv 6) (pa_cons (pe_glob (v := .ref T.cChange) rfl T.mChange rfl) pa_nil))) pa_nil))))))
      (pss_cons (ps_if (PW.pt (pw_or (pt_cmpR (r := rNeD K) (op_neD hr.units) (pv 7) (pe_lc (own := [("_law_word", 4)]) rfl scLdeedsright.nd (pi_list (pe_lst (pa_cons pe_str (pa_cons pe_str (pa_cons pe_str (pa_cons pe_str pa_nil)))))) (blkOk_by (own := [("_law_word", 4)]) (N := ["_law_well_here", "_law_numbers", "_law_facts", "_law_turn", "_law_word", "_law_fact", "_law_deed_here", "_law_kinds", "_law_other"]) (sc := defScope sLdeedsright) (by decide +kernel)) (fun _ _ _ _ _ => (pg_name (i := 4) scLdeedsright.nd rfl (by first | exact Or.inl rfl | exact Or.inr rfl))) (fun _ _ _ _ _ => pts_nil) (fun _ _ _ _ _ => (pe_cmpR op_eq (pv 4) (pe_ix (r := rIxT K) ix_tup (pv 5) pe_int (fun _ _ => rfl)) (nomark _)))) (nomark _)) (pw_or1 (pt_not (pt_val (pe_callB call_isi rfl T.nisinstance (by decide +kernel) (pa_cons (pv 6) (pa_cons (pe_glob (v := .ref T.cDeed) rfl T.mDeed rfl) pa_nil)))))))) (pss_one (ps_ret pe_bl)) pss_nil)
      (pss_cons (ps_if (PW.pt (pw_or (pt_cmpR (r := rNeD K) (op_neD hr.units) (pe_call (okLfields T) (hr.mono (by decide)) rfl T.gLfields T.fLfields.kp T.bLfields .nil pass0 (pa_cons (pe_ix (r := rIxT K) ix_tup (pv 5) pe_int (fun _ _ => rfl)) (pa_cons (pv 6) pa_nil))) (pe_slice sl_tup (pv 5) (po_some pe_int) po_none) (nomark _)) (pw_or (pt_cmpR (opNeDeeds T (hr.mono (by decide))) (pv 6) (pe_call (okLnamed T) (hr.mono (by decide)) rfl T.gLnamed T.fLnamed.kp T.bLnamed .nil pass0 (pa_cons (pv 5) pa_nil)) (nomark _)) (pw_or1 (pt_cmpR (opInDeeds T (hr.mono (by decide))) (pv 6) (pe_lst (pa_cons (pv 5) (pa_cons (pe_slice sl_tup (pv 5) (po_some pe_int) po_none) (pa_cons pe_non pa_nil)))) (by rfl)))))) (pss_one (ps_ret pe_bl)) pss_nil)
      (pss_one (ps_if (pt_cmpR (r := rNeD K) (op_neD hr.units) (pe_lc (own := [("_law_other", 8)]) rfl scLdeedsright.nd (pi_list (pv 2)) (blkOk_by (own := [("_law_other", 8)]) (N := ["_law_well_here", "_law_numbers", "_law_facts", "_law_turn", "_law_word", "_law_fact", "_law_deed_here", "_law_kinds", "_law_other"]) (sc := defScope sLdeedsright) (by decide +kernel)) (fun _ _ _ _ _ => (pg_name (i := 8) scLdeedsright.nd rfl (by first | exact Or.inl rfl | exact Or.inr rfl))) (fun _ _ _ _ _ => (pts_one (pt_cmpR op_ne (pe_cmpR (opEqDeeds T (hr.mono (by decide))) (pv 6) (pe_call (okLdeed T) (hr.mono (by decide)) rfl T.gLdeed T.fLdeed.kp T.bLdeed .nil pass0 (pa_cons (pv 8) pa_nil)) (nomark _)) (pe_cmpR (r := rEqD K) (op_eqD hr.units) (pv 5) (pv 8) (nomark _)) (nomark _)))) (fun _ _ _ _ _ => (pv 8))) (pe_lst pa_nil) (nomark _)) (pss_one (ps_ret pe_bl)) pss_nil)))))))
      (pss_one (ps_ret pe_bl)))))), ?_⟩
    refine ⟨_, _, rfl, rfl, ⟨by decide, by decide, by decide⟩, (by show 5 ≤ sizeLine; decide), fun nm hnm => ?_⟩
    have nmu : nm ≠ u := hw.ne hnm
    have w1 := hw.new (o := .lst (vi [0, 1, 2, 5, 10 ^ (12 : Int).toNat])) hnm
    refine ⟨(by show 0 ≤ sizeLine; decide), fun fl hfl => ?_⟩
    have flu : fl ≠ u := w1.ne hfl
    have w2 := w1.new (o := .lst []) hfl
    have fr0 : Fr u H _ := Fr.of ((same_new (o := HO.lst (vi [0, 1, 2, 5, 10 ^ (12 : Int).toNat])) hnm).trans (same_new (o := HO.lst []) hfl))
    have nmf : nm ≠ fl := ne_of_none upd_same hfl
    have hfl0 : H fl = none := by rw [upd_ne nmf.symm] at hfl; exact hfl
    refine ⟨_, rfl, by decide, by decide, ?_⟩
    refine for_range (lo := 0) (n := ((9 : Int)).toNat) (fun i σ H' => ∃ (v3 v4 : Option V) (ts : List V) (ds : List D), σ = [some (.ref u), some (.ref nm), some (.ref fl), v3, v4, none, none, none, none] ∧ H' fl = some (.lst ts) ∧ A2 (FactAt H') ts ds ∧ ds.length = i ∧
      WellAt H' u ∧ H' nm = some (.lst (vi [0, 1, 2, 5, 10 ^ (12 : Int).toNat])) ∧ Fr u H H') ⟨none, none, [], [], rfl, upd_same, trivial, rfl, w2, by rw [upd_ne nmf]; exact upd_same, fr0⟩ ?_ ?_
    · rintro i σ H' hi ⟨v3, v4, ts, ds, rfl, hf, hA, rfl, w3, hn, fr⟩
      have hi9 : ds.length < 9 := hi
      refine ⟨(by show 4 ≤ sizeLine; decide), fun wl hwl => ?_⟩
      have wlu : wl ≠ u := w3.ne hwl
      refine ⟨_, rfl, u, 4, rfl, w3.new hwl, by decide, by decide, fun H1 k lk w4 f1 => ?_⟩
      have k4 : k < 4 := by omega
      refine ⟨wl, _, _, _, rfl, rfl, SqL.of (f1 _ _ wlu upd_same), wn4_at k4, ?_⟩
      have frw : Fr u H' H1 := (Fr.of (same_new hwl)).trans f1
      refine ⟨_, rfl, .inl ⟨rfl, _, SqL.of (frw _ _ flu hf)⟩, _, rfl, _, rfl, _, rfl, u, 3, rfl, w4, by decide, by decide, fun H2 k2 lk2 w5 f2 => ?_⟩
      have hn2 := (frw.trans f2) _ _ nmu hn
      refine pickL (xs := [0, 1, 2, 5, 10 ^ (12 : Int).toNat]) (SqL.of hn2) (by simp; omega) ?_
      obtain ⟨n1, e1⟩ := num_at (m := 3) (by decide) (by omega : k2 < 3)
      rw [e1]
      refine ⟨_, rfl, _, rfl, u, 5, rfl, w5, by decide, by decide, fun H3 k3 lk3 w6 f3 => ?_⟩
      refine pickL (xs := [0, 1, 2, 5, 10 ^ (12 : Int).toNat]) (SqL.of (f3 _ _ nmu hn2)) (by simp; omega) ?_
      obtain ⟨n2, e2⟩ := num_at (m := 5) (by decide) (by omega : k3 < 5)
      rw [e2]
      refine ⟨(by show 3 ≤ sizeLine; decide), fun t ht => ?_⟩
      have fr3 : Fr u H' H3 := (frw.trans f2).trans f3
      have hf3 := fr3 _ _ flu hf
      have q1 := same_new (o := HO.tup [V.str (wn4 k), V.int n1, V.int n2]) ht
      have tu : t ≠ u := w6.ne ht
      have tf : t ≠ fl := fun z => by rw [z, hf3] at ht; cases ht
      have ln := hA.len
      refine ⟨fl, _, _, rfl, rfl, q1 _ _ hf3, Nat.lt_of_lt_of_le (by omega : ts.length < 100) (by decide), ?_⟩
      obtain ⟨m1, m2, m3⟩ := mkE_is (a := n1) (b := n2) k4
      have mo : ∀ v d, FactAt H' v d → FactAt (upd (upd H3 t (.tup [V.str (wn4 k), V.int n1, V.int n2])) fl (.lst (ts ++ [V.ref t]))) v d := by
        rintro _ d ⟨s9, rfl, hs⟩
        have sf : s9 ≠ fl := fun z => by rw [z, hf] at hs; cases hs
        have su : s9 ≠ u := fun z => by
          obtain ⟨_, _, _, q⟩ := w3
          rw [z, q] at hs
          cases hs
        exact ⟨s9, rfl, by rw [upd_ne sf]; exact q1 _ _ (fr3 _ _ su hs)⟩
      refine ⟨_, _, ts ++ [.ref t], ds ++ [mkE k n1 n2], rfl, upd_same, ?_, by simp, (w6.new ht).mut flu, ?_, ?_⟩
      · refine A2.app (A2.mono mo hA) ⟨⟨t, rfl, ?_⟩, trivial⟩
        rw [upd_ne tf, upd_same, m1, m2, m3]
      · rw [upd_ne nmf]
        exact q1 _ _ (f3 _ _ nmu hn2)
      · exact fr_new ((fr.trans fr3).trans (Fr.of q1)) hfl0
    · rintro σ HA ⟨v3, v4, ts, ds, rfl, hf, hA, l9, w3, hn, fr⟩
      refine ⟨_, rfl, fl, rfl, ⟨_, SqL.of hf⟩, ?_⟩
      refine for_list (K := K) (a := fl) (xs := ts) (fun i σ H' => ∃ v5 v6 v7 : Option V, σ = [some (.ref u), some (.ref nm), some (.ref fl), v3, v4, v5, v6, v7, none] ∧ Same HA H') ⟨none, none, none, rfl, Same.refl _⟩ (fun i σ H' _ ⟨_, _, _, _, e⟩ => e.seq (SqL.of hf)) ?_ ?_
      · rintro i y σ B hi ⟨v5, v6, v7, rfl, sB⟩
        obtain ⟨d, hd, hF⟩ := hA.get hi
        -- the deed
        refine ⟨_, rfl, y, d, rfl, hF.same sB, fun B1 p hp hD s1 => ?_⟩
        obtain ⟨p9, dx, ep, h1⟩ := deed_at hD
        cases ep
        have ty := ty_deed h1
        refine ⟨_, rfl, .ref p, .ref T.cPour, _, _, _, rfl, .own _, ty, is_pour T d, _, rfl, .ref p, .ref T.cPut, _, _, _, rfl, .own _, ty, is_put T d, _, rfl, .ref p, .ref T.cDraw, _, _, _, rfl, .own _, ty, is_draw T d, _, rfl, .ref p, .ref T.cChange, _, _, _, rfl, .own _, ty, is_change T d, (by show 4 ≤ sizeLine; decide), fun kl hkl => ?_⟩
        have s2 := same_new (o := HO.lst [V.bl d.isPour, V.bl d.isPut, V.bl d.isDraw, V.bl d.isChange]) hkl
        have sB2 := (sB.trans s1).trans s2
        -- the kinds
        refine ⟨_, rfl, (by show 4 ≤ sizeLine; decide), fun wl hwl => ?_⟩
        have s3 := same_new (o := HO.lst [V.str "pour", V.str "put", V.str "draw", V.str "change"]) hwl
        refine ⟨wl, rfl, ⟨_, SqL.of upd_same⟩, fun D1 hD1 => ?_⟩
        have sB3 := sB2.trans s3
        obtain ⟨t, ey, ht⟩ := hF
        subst ey
        refine lc_list (K := K) (a := wl) (xs := [V.str "pour", V.str "put", V.str "draw", V.str "change"]) (fun i H' => H' D1 = some (.lst (([V.str "pour", V.str "put", V.str "draw", V.str "change"].take i).map fun v => V.bl (decide (v = V.str d.word)))) ∧ Same (upd (upd B1 kl (.lst [V.bl d.isPour, V.bl d.isPut, V.bl d.isDraw, V.bl d.isChange])) wl (.lst [V.str "pour", V.str "put", V.str "draw", V.str "change"])) H') ⟨upd_same, same_new hD1⟩ (fun i H' _ h => h.2.seq (SqL.of upd_same)) ?_ ?_
        · rintro i9 x9 H' hi9 ⟨g, sm⟩
          have i4 : i9 < 4 := (List.getElem?_eq_some_iff.mp hi9).1
          have x9s : ∃ z, x9 = V.str z := by
            have : i9 = 0 ∨ i9 = 1 ∨ i9 = 2 ∨ i9 = 3 := by omega
            rcases this with rfl | rfl | rfl | rfl <;> exact ⟨_, (Option.some.inj hi9).symm⟩
          obtain ⟨z9, rfl⟩ := x9s
          refine ⟨rfl, ?_⟩
          refine ⟨_, rfl, _, rfl, t, _, _, _, rfl, rfl, SqT.of ((sB3.trans sm) _ _ ht), rfl, rfl, _, g, Nat.lt_of_le_of_lt (by rw [List.length_map, List.length_take]; exact Nat.min_le_left _ _ : _ ≤ i9) (Nat.lt_trans i4 (by decide)), ?_, same_mut sm hD1⟩
          rw [upd_same, List.take_add_one, hi9, List.map_append]
          rfl
        · rintro H' ⟨g, sm⟩
          have sD : Same B1 H' := (s2.trans s3).trans sm
          have sH : Same HA H' := (sB.trans s1).trans sD
          have eW : (([V.str "pour", V.str "put", V.str "draw", V.str "change"].take [V.str "pour", V.str "put", V.str "draw", V.str "change"].length).map fun v => V.bl (decide (v = V.str d.word))) = [d.isPour, d.isPut, d.isDraw, d.isChange].map V.bl := by
            rw [← words_are d]
            rfl
          rw [eW] at g
          refine ne_bools (l := [d.isPour, d.isPut, d.isDraw, d.isChange]) (Nat.le_refl 4) (SqL.of ((s3.trans sm) _ _ upd_same)) (SqL.of g) ⟨_, rfl, ifF rfl ?_⟩
          refine ⟨_, rfl, .ref p, .ref T.cDeed, _, _, true, rfl, .own _, ty_deed (sD _ _ h1), is_deed T d, _, rfl, ifF rfl ?_⟩
          have htH : H' t = _ := sH _ _ ht
          have nw : ¬ (HT.sIx 3 0 (some 1) = 0 ∧ HT.sIx 3 3 none = 3) := fun z => absurd z.1 (by decide)
          -- the fields
          refine ⟨_, rfl, t, _, _, _, rfl, rfl, SqT.of htH, rfl, _, rfl, .ref p, d, rfl, hD.same sD, fun B4 q4 hq4 s4 => ?_⟩
          have s4H := sH.trans s4
          refine ⟨_, rfl, _, rfl, t, _, rfl, SqT.of (s4H _ _ ht), nw, fun p5 hp5 => ?_⟩
          have s5 := same_new (o := HO.tup [V.int d.fst, V.int d.last]) hp5
          refine ne_tups (l := [(d.fst : Int), d.last]) (SqT.of (s5 _ _ hq4)) (SqT.of upd_same) ⟨_, rfl, ifF rfl ?_⟩
          have s5H := s4H.trans s5
          have sD5 := (sD.trans s4).trans s5
          -- by names
          refine ⟨_, rfl, _, rfl, .ref t, d, rfl, ⟨t, rfl, s5H _ _ ht⟩, fun B6 q6 hq6 hD6 s6 => ?_⟩
          refine neDeeds (hD.same (sD5.trans s6)) hD6 fun B7 e7 => ⟨_, rfl, ifF rfl ?_⟩
          have s7 : Same B6 B7 := fun b o q => e7 b o q
          have s7H := (s5H.trans s6).trans s7
          have sD7 := (sD5.trans s6).trans s7
          -- in
          refine ⟨_, rfl, _, rfl, _, rfl, _, rfl, t, _, rfl, SqT.of (s7H _ _ ht), nw, fun p8 hp8 => ⟨(by show 3 ≤ sizeLine; decide), fun l8 hl8 => ?_⟩⟩
          have s8 := same_new (o := HO.tup [V.int d.fst, V.int d.last]) hp8
          have s9 := same_new (o := HO.lst [V.ref t, V.ref p8, V.non]) hl8
          refine outDeeds (hD.same ((sD7.trans s8).trans s9)) upd_same ?_ fun B9 e9 => ⟨_, rfl, ifF rfl ?_⟩
          · intro v hv
            rcases List.mem_cons.mp hv with rfl | hv
            · exact .inr (.inr ⟨t, _, rfl, ((s7H.trans s8).trans s9) _ _ ht⟩)
            · rcases List.mem_cons.mp hv with rfl | hv
              · exact .inr (.inr ⟨p8, _, rfl, s9 _ _ upd_same⟩)
              · rcases List.mem_cons.mp hv with rfl | hv
                · exact .inl rfl
                · cases hv
          have s10 : Same HA B9 := ((s7H.trans s8).trans s9).trans fun b o q => e9 b o q
          have sD10 : Same B1 B9 := ((sD7.trans s8).trans s9).trans fun b o q => e9 b o q
          -- the others
          refine ⟨_, rfl, fl, rfl, ⟨_, s10.seq (SqL.of hf)⟩, fun D2 hD2 => ?_⟩
          refine lc_list (K := K) (a := fl) (xs := ts) (fun i H' => H' D2 = some (.lst (vi [])) ∧ Same B9 H') ⟨upd_same, same_new hD2⟩ (fun i H' _ h => (s10.trans h.2).seq (SqL.of hf)) ?_ ?_
          · rintro i2 y2 H2 hi2 ⟨g2, sm2⟩
            obtain ⟨d2, hd2, hF2⟩ := hA.get hi2
            have sm2H := s10.trans sm2
            refine ⟨rfl, ?_⟩
            refine ⟨_, rfl, _, rfl, y2, d2, rfl, hF2.same sm2H, fun H3 q3 hq3 hD3 s3' => ?_⟩
            refine eqDeeds (hD.same ((sD10.trans sm2).trans s3')) hD3 fun H4 e4 => ?_
            have s4' : Same H2 H4 := s3'.trans fun b o q => e4 b o q
            refine ⟨_, rfl, _, rfl, eq_facts ⟨t, rfl, (sm2H.trans s4') _ _ ht⟩ (hF2.same (sm2H.trans s4')) ⟨rfl, _, rfl, ?_⟩⟩
            exact iteNS rfl ⟨s4' _ _ g2, sm2.trans s4'⟩
          · rintro H5 ⟨g5, sm5⟩
            refine ⟨(by show 0 ≤ sizeLine; decide), fun e0 he0 => ?_⟩
            have k1 := same_new (o := HO.lst []) he0
            refine ne_ints (l := []) (m := []) (SqL.of (k1 _ _ g5)) (SqL.of upd_same) rfl ⟨_, rfl, ifF rfl ?_⟩
            exact ⟨_, _, _, rfl, (s10.trans sm5).trans k1⟩
      · rintro σ B ⟨v5, v6, v7, rfl, sB⟩
        exact hq B (w3.same sB) (fr.trans (Fr.of sB))
end
end Kp

namespace Kp
open PySem PySem.Spec PyProof.Rows L2 KpR
section
variable {K : PySem.W.Frag} {mg : Str → Option Value}
def spLaw (K : PySem.W.Frag) : Sp := fun vs H Q _ => ∃ (a : Addr) (ns : List Int), vs = [.ref a] ∧ SqL K H a (ns.map V.int) ∧ ns.length ≤ 63 ∧ ∀ H', Q (.bl true) H'
def splaw (T : Tx K mg) : Sp := spLaw K
end
section
variable {P : Program} {w : World} {K : PySem.W.Frag} {mg : Str → Option Value} {base : Heap}
theorem oklaw (T : Tx K mg) : FnOk P w K mg base CX0 7 T.alaw T.dlaw ["_law_script"] (splaw T) := by
  refine T.flaw.ok sclaw (fun vs H Q E h => ?_) (fun cdv A outer s H vs Q E hr h => ?_)
  · obtain ⟨a, ns, rfl, _⟩ := h
    rfl
  · obtain ⟨a, ns, rfl, hS, hlen, hq⟩ := h
    refine ⟨_, (pss_cons (ps_for PassesOwn.never rfl (pi_list (pe_slice sl_list (pe_op op_catR (pv 0) (pe_lst (pa_cons pe_int pa_nil))) po_none (po_some pe_int))) (pg_name (i := 1) sclaw.nd rfl (by first | exact Or.inl rfl | exact Or.inr rfl)) (pss_cons (ps_set (i := 2) sclaw.nd rfl (by first | exact Or.inl rfl | exact Or.inr rfl) (pe_call (okLwell T) (hr.mono (by decide)) rfl T.gLwell T.fLwell.kp T.bLwell .nil pass0 (pa_cons (pv 1) pa_nil)))
      (pss_cons (ps_set (i := 3) sclaw.nd rfl (by first | exact Or.inl rfl | exact Or.inr rfl) (pe_call (okLdrawn T) (hr.mono (by decide)) rfl T.gLdrawn T.fLdrawn.kp T.bLdrawn .nil pass0 (pa_cons (pv 2) pa_nil)))
      (pss_cons (ps_set (i := 4) sclaw.nd rfl (by first | exact Or.inl rfl | exact Or.inr rfl) (pe_call (okLdue T) (hr.mono (by decide)) rfl T.gLdue T.fLdue.kp T.bLdue .nil pass0 (pa_cons (pv 3) pa_nil)))
      (pss_cons (ps_if (PW.pt (pw_or (pt_cmpR (r := rNeD K) (op_neD hr.units) (pe_call (okLsaid T) (hr.mono (by decide)) rfl T.gLsaid T.fLsaid.kp T.bLsaid .nil pass0 (pa_cons (pe_callTy call_list_of rfl T.nlist (by decide +kernel) (pa_cons (pv 3) pa_nil)) pa_nil)) (pv 4) (nomark _)) (pw_or1 (pt_cmpR (r := rNeD K) (op_neD hr.units) (pe_call (okLsaid T) (hr.mono (by decide)) rfl T.gLsaid T.fLsaid.kp T.bLsaid .nil pass0 (pa_cons (pe_callTy call_tuple_of rfl T.ntuple (by decide +kernel) (pa_cons (pv 3) pa_nil)) pa_nil)) (pv 4) (nomark _))))) (pss_one (ps_ret pe_bl)) pss_nil)
      (pss_cons (ps_if (PW.pt (pw_and (pt_cmpR op_eq (pe_ix (r := rIxT K) ix_tup (pv 4) pe_int (fun _ _ => rfl)) pe_str (nomark _)) (pw_and1 (pt_not (pt_val (pe_call (okLjarsright T) (hr.mono (by decide)) rfl T.gLjarsright T.fLjarsright.kp T.bLjarsright .nil pass0 (pa_cons (pv 3) pa_nil))))))) (pss_one (ps_ret pe_bl)) pss_nil)
      (pss_one (ps_if (pt_not (pt_val (pe_call (okLdeedsright T) (hr.mono (by decide)) rfl T.gLdeedsright T.fLdeedsright.kp T.bLdeedsright .nil pass0 (pa_cons (pv 2) pa_nil)))) (pss_one (ps_ret pe_bl)) pss_nil))))))))
      (pss_one (ps_ret pe_bl))), ?_⟩
    refine ⟨_, rfl, (by show 1 ≤ sizeLine; decide), fun z hz => ?_⟩
    have s1 : Same H (upd H z (.lst [V.int 0])) := same_new hz
    refine ⟨a, z, _, _, rfl, rfl, s1.seq hS, SqL.of upd_same, ?_, fun q hq0 => ?_⟩
    · rw [List.length_map]
      exact Nat.le_trans (by simp; omega : ns.length + [V.int 0].length ≤ 100) (by decide)
    have s2 := s1.trans (same_new (o := .lst (ns.map V.int ++ [V.int 0])) hq0)
    refine ⟨_, rfl, q, _, rfl, SqL.of upd_same, fun l hl => ?_⟩
    rw [show (8 : Int) = ((8 : Nat) : Int) from rfl, cut_take]
    have s3 := s2.trans (same_new (o := .lst ((ns.map V.int ++ [V.int 0]).take 8)) hl)
    refine ⟨l, rfl, ⟨_, SqL.of upd_same⟩, ?_⟩
    have allI : ∀ y ∈ (ns.map V.int ++ [V.int 0]).take 8, ∃ n, y = V.int n := fun y hy => by
      rcases List.mem_append.mp (List.mem_of_mem_take hy) with k | k
      · obtain ⟨n, _, e⟩ := List.mem_map.mp k
        exact ⟨n, e.symm⟩
      · exact ⟨0, by simpa using k⟩
    generalize hxs : (ns.map V.int ++ [V.int 0]).take 8 = xs at *
    generalize hHl : upd (upd (upd H z (.lst [V.int 0])) q (.lst (ns.map V.int ++ [V.int 0]))) l (.lst xs) = Hl at *
    have gl : Hl l = some (.lst xs) := by rw [← hHl]; exact upd_same
    refine for_list (K := K) (a := l) (xs := xs) (fun i σ H' => ∃ v1 v2 v3 v4 : Option V, σ = [some (.ref a), v1, v2, v3, v4] ∧ Same Hl H') ⟨none, none, none, none, rfl, Same.refl _⟩ (fun i σ H' _ ⟨_, _, _, _, _, e⟩ => e.seq (SqL.of gl)) ?_ ?_
    · rintro i y σ H0 hi ⟨v1, v2, v3, v4, rfl, sm0⟩
      obtain ⟨n, rfl⟩ := allI y (List.mem_of_getElem? hi)
      refine ⟨_, rfl, n, rfl, fun H2 u u0 w2 s2 => ?_⟩
      refine ⟨_, rfl, u, rfl, w2, fun H3 c caps c0 hc l8 w3 f3 => ?_⟩
      have sme : ∀ {G G' : Hp}, Fr u H0 G → Fr u G G' → Same H0 G' := fun e f b o q => (e.trans f) b o (ne_of_none q u0) q
      have f03 : Fr u H0 H3 := (Fr.of s2).trans f3
      refine ⟨_, rfl, c, caps, rfl, SqL.of hc, l8, fun H4 p hp s4 => ?_⟩
      refine ⟨_, rfl, c, _, rfl, .inl (s4.seq (SqL.of hc)), fun l1 hl1 => ?_⟩
      have s5 := same_new (o := HO.lst (vi caps)) hl1
      refine ⟨l1, caps, rfl, .inl (SqL.of upd_same), l8, fun H6 q6 hq6 s6 => ?_⟩
      have s46 := s5.trans s6
      refine ⟨_, rfl, ne_due hq6 (hp.same s46) ⟨_, rfl, ifF rfl ?_⟩⟩
      have s36 := s4.trans s46
      refine ⟨_, rfl, c, _, rfl, .inl ⟨s36.seq (SqL.of hc), fun t7 ht7 => ?_⟩⟩
      have s7 := same_new (o := HO.tup (vi caps)) ht7
      refine ⟨t7, caps, rfl, .inr upd_same, l8, fun H8 q8 hq8 s8 => ?_⟩
      have s48 := (s46.trans s7).trans s8
      have hp8 := hp.same s48
      refine ⟨_, rfl, ne_due hq8 hp8 ⟨_, rfl, ifF rfl ?_⟩⟩
      have s38 := s4.trans s48
      have w8 := w3.same s38
      have f08 : Fr u H0 H8 := f03.trans (Fr.of s38)
      rcases hp8 with ⟨n6, e8⟩ | ⟨s6', z, r, eb, e8⟩ | ⟨s6', eb, t, e8, et⟩
      · refine ⟨_, rfl, p, _, _, _, rfl, rfl, SqT.of e8, rfl, rfl, _, rfl, ifF (show decide (V.str "jars" = V.str "told") = false by decide +kernel) (ifF rfl ?_)⟩
        refine ⟨_, rfl, u, rfl, w8, fun H9 w9 f9 => ⟨_, rfl, ifF rfl ?_⟩⟩
        exact ⟨_, _, _, _, rfl, sm0.trans (sme f08 f9)⟩
      · refine ⟨_, rfl, p, _, _, _, rfl, rfl, SqT.of e8, rfl, rfl, _, rfl, ifF (show decide (V.str "size" = V.str "told") = false by decide +kernel) (ifF rfl ?_)⟩
        refine ⟨_, rfl, u, rfl, w8, fun H9 w9 f9 => ⟨_, rfl, ifF rfl ?_⟩⟩
        exact ⟨_, _, _, _, rfl, sm0.trans (sme f08 f9)⟩
      · refine ⟨_, rfl, p, _, _, _, rfl, rfl, SqT.of e8, rfl, rfl, _, rfl, ifT (show decide (V.str "told" = V.str "told") = true by decide +kernel) ?_⟩
        refine ⟨_, rfl, c, caps, rfl, s38.seq (SqL.of hc), s6', eb, fun H10 s10 => ⟨_, rfl, ifF rfl ?_⟩⟩
        refine ⟨_, rfl, u, rfl, w8.same s10, fun H9 w9 f9 => ⟨_, rfl, ifF rfl ?_⟩⟩
        exact ⟨_, _, _, _, rfl, sm0.trans (sme (f08.trans (Fr.of s10)) f9)⟩
    · rintro σ H' ⟨v1, v2, v3, v4, rfl, sm0⟩
      exact hq H'
end
end Kp

namespace Kp
open PySem PySem.Spec PyProof.Rows L2 KpR
theorem all_mk {l : PySem.W.OpenLaw} {w : World} {K : PySem.W.Frag} {h : Heap} {mg : Str → Option Value} {fa CJars CPour CPut CDraw CChange CDeed CBadCount fcheckmuch fBadCountInit fJarsInit fPourInit fPutInit fDrawInit fChangeInit fJarsEq fPourEq fPutEq fDrawEq fChangeEq fLwell fLdraw fLdrawn fLdue fLsaid fLjarsright fLdeed fLnamed fLfields fLdeedsright flaw : Addr} (X : K.In h) (G : h.Ns mainGlobals mg) (hfa : mg "law" = some (.ref fa))
    {odcheckmuch ancheckmuch odBadCountInit anBadCountInit odJarsInit anJarsInit odPourInit anPourInit odPutInit anPutInit odDrawInit anDrawInit odChangeInit anChangeInit odJarsEq anJarsEq odPourEq anPourEq odPutEq anPutEq odDrawEq anDrawEq odChangeEq anChangeEq odLwell anLwell odLdraw anLdraw odLdrawn anLdrawn odLdue anLdue odLsaid anLsaid odLjarsright anLjarsright odLdeed anLdeed odLnamed anLnamed odLfields anLfields odLdeedsright anLdeedsright odlaw anlaw : Option Addr} {slcheckmuch slBadCountInit slJarsInit slPourInit slPutInit slDrawInit slChangeInit slJarsEq slPourEq slPutEq slDrawEq slChangeEq slLwell slLdraw slLdrawn slLdue slLsaid slLjarsright slLdeed slLnamed slLfields slLdeedsright sllaw : Array (Option Value)} {occheckmuch dccheckmuch pmcheckmuch cdcheckmuch ctcheckmuch kVcheckmuch ocBadCountInit dcBadCountInit pmBadCountInit cdBadCountInit ctBadCountInit kVBadCountInit ocJarsInit dcJarsInit pmJarsInit cdJarsInit ctJarsInit kVJarsInit ocPourInit dcPourInit pmPourInit cdPourInit ctPourInit kVPourInit ocPutInit dcPutInit pmPutInit cdPutInit ctPutInit kVPutInit ocDrawInit dcDrawInit pmDrawInit cdDrawInit ctDrawInit kVDrawInit ocChangeInit dcChangeInit pmChangeInit cdChangeInit ctChangeInit kVChangeInit ocJarsEq dcJarsEq pmJarsEq cdJarsEq ctJarsEq kVJarsEq ocPourEq dcPourEq pmPourEq cdPourEq ctPourEq kVPourEq ocPutEq dcPutEq pmPutEq cdPutEq ctPutEq kVPutEq ocDrawEq dcDrawEq pmDrawEq cdDrawEq ctDrawEq kVDrawEq ocChangeEq dcChangeEq pmChangeEq cdChangeEq ctChangeEq kVChangeEq ocLwell dcLwell pmLwell cdLwell ctLwell kVLwell ocLdraw dcLdraw pmLdraw cdLdraw ctLdraw kVLdraw ocLdrawn dcLdrawn pmLdrawn cdLdrawn ctLdrawn kVLdrawn ocLdue dcLdue pmLdue cdLdue ctLdue kVLdue ocLsaid dcLsaid pmLsaid cdLsaid ctLsaid kVLsaid ocLjarsright dcLjarsright pmLjarsright cdLjarsright ctLjarsright kVLjarsright ocLdeed dcLdeed pmLdeed cdLdeed ctLdeed kVLdeed ocLnamed dcLnamed pmLnamed cdLnamed ctLnamed kVLnamed ocLfields dcLfields pmLfields cdLfields ctLfields kVLfields ocLdeedsright dcLdeedsright pmLdeedsright cdLdeedsright ctLdeedsright kVLdeedsright oclaw dclaw pmlaw cdlaw ctlaw kVlaw : Value} {tkMOSTJARS tkMOSTMUCH : Tok}
    {nmXBadCount qXBadCount : Str} {NXBadCount : Addr} {bsXBadCount bmXBadCount : List Value} {abXBadCount : Bool} {snXBadCount : List Str} {subXBadCount : List Value} {colXBadCount : Option Bool} {ddXBadCount : Option Addr} {r0XBadCount r1XBadCount r2XBadCount r3XBadCount r5XBadCount : Option Value}
    (xJars : PySem.W.nsIn K mainGlobals "Jars" = some (some (.ref CJars)))
    (xPour : PySem.W.nsIn K mainGlobals "Pour" = some (some (.ref CPour)))
    (xPut : PySem.W.nsIn K mainGlobals "Put" = some (some (.ref CPut)))
    (xDraw : PySem.W.nsIn K mainGlobals "Draw" = some (some (.ref CDraw)))
    (xChange : PySem.W.nsIn K mainGlobals "Change" = some (some (.ref CChange)))
    (xDeed : PySem.W.nsIn K mainGlobals "Deed" = some (some (.ref CDeed)))
    (xBadCount : PySem.W.nsIn K mainGlobals "BadCount" = some (some (.ref CBadCount)))
    (acheckmuch : PySem.W.nsIn K mainGlobals "check_much" = some (some (.ref fcheckmuch)))
    (lcheckmuch : K.lookup fcheckmuch = some ⟨occheckmuch, odcheckmuch, .func (PySem.W.fnOf "check_much" "check_much" (defArgs scheckmuch) (defBody scheckmuch) (defScope scheckmuch) .none kVcheckmuch dccheckmuch pmcheckmuch ancheckmuch cdcheckmuch ctcheckmuch), slcheckmuch⟩)
    (qcheckmuch : PySem.W.codeIn K cdcheckmuch "check_much" = true)
    (kcheckmuch : PySem.W.keepIn K (.ref fcheckmuch) = true)
    (aBadCountInit : PySem.W.findIn K (.ref CBadCount) "__init__" = some (some (.ref fBadCountInit)))
    (iBadCountInit : PySem.W.isFn K (.ref fBadCountInit) = true)
    (lBadCountInit : K.lookup fBadCountInit = some ⟨ocBadCountInit, odBadCountInit, .func (PySem.W.fnOf "__init__" "BadCount.__init__" (defArgs sBadCountInit) (defBody sBadCountInit) (defScope sBadCountInit) .none kVBadCountInit dcBadCountInit pmBadCountInit anBadCountInit cdBadCountInit ctBadCountInit), slBadCountInit⟩)
    (qBadCountInit : PySem.W.codeIn K cdBadCountInit "BadCount.__init__" = true)
    (kBadCountInit : PySem.W.keepIn K (.ref fBadCountInit) = true)
    (aJarsInit : PySem.W.findIn K (.ref CJars) "__init__" = some (some (.ref fJarsInit)))
    (iJarsInit : PySem.W.isFn K (.ref fJarsInit) = true)
    (lJarsInit : K.lookup fJarsInit = some ⟨ocJarsInit, odJarsInit, .func (PySem.W.fnOf "__init__" "Jars.__init__" (defArgs sJarsInit) (defBody sJarsInit) (defScope sJarsInit) .none kVJarsInit dcJarsInit pmJarsInit anJarsInit cdJarsInit ctJarsInit), slJarsInit⟩)
    (qJarsInit : PySem.W.codeIn K cdJarsInit "Jars.__init__" = true)
    (kJarsInit : PySem.W.keepIn K (.ref fJarsInit) = true)
    (aPourInit : PySem.W.findIn K (.ref CPour) "__init__" = some (some (.ref fPourInit)))
    (iPourInit : PySem.W.isFn K (.ref fPourInit) = true)
    (lPourInit : K.lookup fPourInit = some ⟨ocPourInit, odPourInit, .func (PySem.W.fnOf "__init__" "Pour.__init__" (defArgs sPourInit) (defBody sPourInit) (defScope sPourInit) .none kVPourInit dcPourInit pmPourInit anPourInit cdPourInit ctPourInit), slPourInit⟩)
    (qPourInit : PySem.W.codeIn K cdPourInit "Pour.__init__" = true)
    (kPourInit : PySem.W.keepIn K (.ref fPourInit) = true)
    (aPutInit : PySem.W.findIn K (.ref CPut) "__init__" = some (some (.ref fPutInit)))
    (iPutInit : PySem.W.isFn K (.ref fPutInit) = true)
    (lPutInit : K.lookup fPutInit = some ⟨ocPutInit, odPutInit, .func (PySem.W.fnOf "__init__" "Put.__init__" (defArgs sPutInit) (defBody sPutInit) (defScope sPutInit) .none kVPutInit dcPutInit pmPutInit anPutInit cdPutInit ctPutInit), slPutInit⟩)
    (qPutInit : PySem.W.codeIn K cdPutInit "Put.__init__" = true)
    (kPutInit : PySem.W.keepIn K (.ref fPutInit) = true)
    (aDrawInit : PySem.W.findIn K (.ref CDraw) "__init__" = some (some (.ref fDrawInit)))
    (iDrawInit : PySem.W.isFn K (.ref fDrawInit) = true)
    (lDrawInit : K.lookup fDrawInit = some ⟨ocDrawInit, odDrawInit, .func (PySem.W.fnOf "__init__" "Draw.__init__" (defArgs sDrawInit) (defBody sDrawInit) (defScope sDrawInit) .none kVDrawInit dcDrawInit pmDrawInit anDrawInit cdDrawInit ctDrawInit), slDrawInit⟩)
    (qDrawInit : PySem.W.codeIn K cdDrawInit "Draw.__init__" = true)
    (kDrawInit : PySem.W.keepIn K (.ref fDrawInit) = true)
    (aChangeInit : PySem.W.findIn K (.ref CChange) "__init__" = some (some (.ref fChangeInit)))
    (iChangeInit : PySem.W.isFn K (.ref fChangeInit) = true)
    (lChangeInit : K.lookup fChangeInit = some ⟨ocChangeInit, odChangeInit, .func (PySem.W.fnOf "__init__" "Change.__init__" (defArgs sChangeInit) (defBody sChangeInit) (defScope sChangeInit) .none kVChangeInit dcChangeInit pmChangeInit anChangeInit cdChangeInit ctChangeInit), slChangeInit⟩)
    (qChangeInit : PySem.W.codeIn K cdChangeInit "Change.__init__" = true)
    (kChangeInit : PySem.W.keepIn K (.ref fChangeInit) = true)
    (aJarsEq : PySem.W.findIn K (.ref CJars) "__eq__" = some (some (.ref fJarsEq)))
    (iJarsEq : PySem.W.isFn K (.ref fJarsEq) = true)
    (lJarsEq : K.lookup fJarsEq = some ⟨ocJarsEq, odJarsEq, .func (PySem.W.fnOf "__eq__" "Jars.__eq__" (defArgs sJarsEq) (defBody sJarsEq) (defScope sJarsEq) .none kVJarsEq dcJarsEq pmJarsEq anJarsEq cdJarsEq ctJarsEq), slJarsEq⟩)
    (qJarsEq : PySem.W.codeIn K cdJarsEq "Jars.__eq__" = true)
    (kJarsEq : PySem.W.keepIn K (.ref fJarsEq) = true)
    (aPourEq : PySem.W.findIn K (.ref CPour) "__eq__" = some (some (.ref fPourEq)))
    (iPourEq : PySem.W.isFn K (.ref fPourEq) = true)
    (lPourEq : K.lookup fPourEq = some ⟨ocPourEq, odPourEq, .func (PySem.W.fnOf "__eq__" "Pour.__eq__" (defArgs sPourEq) (defBody sPourEq) (defScope sPourEq) .none kVPourEq dcPourEq pmPourEq anPourEq cdPourEq ctPourEq), slPourEq⟩)
    (qPourEq : PySem.W.codeIn K cdPourEq "Pour.__eq__" = true)
    (kPourEq : PySem.W.keepIn K (.ref fPourEq) = true)
    (aPutEq : PySem.W.findIn K (.ref CPut) "__eq__" = some (some (.ref fPutEq)))
    (iPutEq : PySem.W.isFn K (.ref fPutEq) = true)
    (lPutEq : K.lookup fPutEq = some ⟨ocPutEq, odPutEq, .func (PySem.W.fnOf "__eq__" "Put.__eq__" (defArgs sPutEq) (defBody sPutEq) (defScope sPutEq) .none kVPutEq dcPutEq pmPutEq anPutEq cdPutEq ctPutEq), slPutEq⟩)
    (qPutEq : PySem.W.codeIn K cdPutEq "Put.__eq__" = true)
    (kPutEq : PySem.W.keepIn K (.ref fPutEq) = true)
    (aDrawEq : PySem.W.findIn K (.ref CDraw) "__eq__" = some (some (.ref fDrawEq)))
    (iDrawEq : PySem.W.isFn K (.ref fDrawEq) = true)
    (lDrawEq : K.lookup fDrawEq = some ⟨ocDrawEq, odDrawEq, .func (PySem.W.fnOf "__eq__" "Draw.__eq__" (defArgs sDrawEq) (defBody sDrawEq) (defScope sDrawEq) .none kVDrawEq dcDrawEq pmDrawEq anDrawEq cdDrawEq ctDrawEq), slDrawEq⟩)
    (qDrawEq : PySem.W.codeIn K cdDrawEq "Draw.__eq__" = true)
    (kDrawEq : PySem.W.keepIn K (.ref fDrawEq) = true)
    (aChangeEq : PySem.W.findIn K (.ref CChange) "__eq__" = some (some (.ref fChangeEq)))
    (iChangeEq : PySem.W.isFn K (.ref fChangeEq) = true)
    (lChangeEq : K.lookup fChangeEq = some ⟨ocChangeEq, odChangeEq, .func (PySem.W.fnOf "__eq__" "Change.__eq__" (defArgs sChangeEq) (defBody sChangeEq) (defScope sChangeEq) .none kVChangeEq dcChangeEq pmChangeEq anChangeEq cdChangeEq ctChangeEq), slChangeEq⟩)
    (qChangeEq : PySem.W.codeIn K cdChangeEq "Change.__eq__" = true)
    (kChangeEq : PySem.W.keepIn K (.ref fChangeEq) = true)
    (aLwell : PySem.W.nsIn K mainGlobals "_law_well" = some (some (.ref fLwell)))
    (lLwell : K.lookup fLwell = some ⟨ocLwell, odLwell, .func (PySem.W.fnOf "_law_well" "_law_well" (defArgs sLwell) (defBody sLwell) (defScope sLwell) .none kVLwell dcLwell pmLwell anLwell cdLwell ctLwell), slLwell⟩)
    (qLwell : PySem.W.codeIn K cdLwell "_law_well" = true)
    (kLwell : PySem.W.keepIn K (.ref fLwell) = true)
    (aLdraw : PySem.W.nsIn K mainGlobals "_law_draw" = some (some (.ref fLdraw)))
    (lLdraw : K.lookup fLdraw = some ⟨ocLdraw, odLdraw, .func (PySem.W.fnOf "_law_draw" "_law_draw" (defArgs sLdraw) (defBody sLdraw) (defScope sLdraw) .none kVLdraw dcLdraw pmLdraw anLdraw cdLdraw ctLdraw), slLdraw⟩)
    (qLdraw : PySem.W.codeIn K cdLdraw "_law_draw" = true)
    (kLdraw : PySem.W.keepIn K (.ref fLdraw) = true)
    (aLdrawn : PySem.W.nsIn K mainGlobals "_law_drawn" = some (some (.ref fLdrawn)))
    (lLdrawn : K.lookup fLdrawn = some ⟨ocLdrawn, odLdrawn, .func (PySem.W.fnOf "_law_drawn" "_law_drawn" (defArgs sLdrawn) (defBody sLdrawn) (defScope sLdrawn) .none kVLdrawn dcLdrawn pmLdrawn anLdrawn cdLdrawn ctLdrawn), slLdrawn⟩)
    (qLdrawn : PySem.W.codeIn K cdLdrawn "_law_drawn" = true)
    (kLdrawn : PySem.W.keepIn K (.ref fLdrawn) = true)
    (aLdue : PySem.W.nsIn K mainGlobals "_law_due" = some (some (.ref fLdue)))
    (lLdue : K.lookup fLdue = some ⟨ocLdue, odLdue, .func (PySem.W.fnOf "_law_due" "_law_due" (defArgs sLdue) (defBody sLdue) (defScope sLdue) .none kVLdue dcLdue pmLdue anLdue cdLdue ctLdue), slLdue⟩)
    (qLdue : PySem.W.codeIn K cdLdue "_law_due" = true)
    (kLdue : PySem.W.keepIn K (.ref fLdue) = true)
    (aLsaid : PySem.W.nsIn K mainGlobals "_law_said" = some (some (.ref fLsaid)))
    (lLsaid : K.lookup fLsaid = some ⟨ocLsaid, odLsaid, .func (PySem.W.fnOf "_law_said" "_law_said" (defArgs sLsaid) (defBody sLsaid) (defScope sLsaid) .none kVLsaid dcLsaid pmLsaid anLsaid cdLsaid ctLsaid), slLsaid⟩)
    (qLsaid : PySem.W.codeIn K cdLsaid "_law_said" = true)
    (kLsaid : PySem.W.keepIn K (.ref fLsaid) = true)
    (aLjarsright : PySem.W.nsIn K mainGlobals "_law_jars_right" = some (some (.ref fLjarsright)))
    (lLjarsright : K.lookup fLjarsright = some ⟨ocLjarsright, odLjarsright, .func (PySem.W.fnOf "_law_jars_right" "_law_jars_right" (defArgs sLjarsright) (defBody sLjarsright) (defScope sLjarsright) .none kVLjarsright dcLjarsright pmLjarsright anLjarsright cdLjarsright ctLjarsright), slLjarsright⟩)
    (qLjarsright : PySem.W.codeIn K cdLjarsright "_law_jars_right" = true)
    (kLjarsright : PySem.W.keepIn K (.ref fLjarsright) = true)
    (aLdeed : PySem.W.nsIn K mainGlobals "_law_deed" = some (some (.ref fLdeed)))
    (lLdeed : K.lookup fLdeed = some ⟨ocLdeed, odLdeed, .func (PySem.W.fnOf "_law_deed" "_law_deed" (defArgs sLdeed) (defBody sLdeed) (defScope sLdeed) .none kVLdeed dcLdeed pmLdeed anLdeed cdLdeed ctLdeed), slLdeed⟩)
    (qLdeed : PySem.W.codeIn K cdLdeed "_law_deed" = true)
    (kLdeed : PySem.W.keepIn K (.ref fLdeed) = true)
    (aLnamed : PySem.W.nsIn K mainGlobals "_law_named" = some (some (.ref fLnamed)))
    (lLnamed : K.lookup fLnamed = some ⟨ocLnamed, odLnamed, .func (PySem.W.fnOf "_law_named" "_law_named" (defArgs sLnamed) (defBody sLnamed) (defScope sLnamed) .none kVLnamed dcLnamed pmLnamed anLnamed cdLnamed ctLnamed), slLnamed⟩)
    (qLnamed : PySem.W.codeIn K cdLnamed "_law_named" = true)
    (kLnamed : PySem.W.keepIn K (.ref fLnamed) = true)
    (aLfields : PySem.W.nsIn K mainGlobals "_law_fields" = some (some (.ref fLfields)))
    (lLfields : K.lookup fLfields = some ⟨ocLfields, odLfields, .func (PySem.W.fnOf "_law_fields" "_law_fields" (defArgs sLfields) (defBody sLfields) (defScope sLfields) .none kVLfields dcLfields pmLfields anLfields cdLfields ctLfields), slLfields⟩)
    (qLfields : PySem.W.codeIn K cdLfields "_law_fields" = true)
    (kLfields : PySem.W.keepIn K (.ref fLfields) = true)
    (aLdeedsright : PySem.W.nsIn K mainGlobals "_law_deeds_right" = some (some (.ref fLdeedsright)))
    (lLdeedsright : K.lookup fLdeedsright = some ⟨ocLdeedsright, odLdeedsright, .func (PySem.W.fnOf "_law_deeds_right" "_law_deeds_right" (defArgs sLdeedsright) (defBody sLdeedsright) (defScope sLdeedsright) .none kVLdeedsright dcLdeedsright pmLdeedsright anLdeedsright cdLdeedsright ctLdeedsright), slLdeedsright⟩)
    (qLdeedsright : PySem.W.codeIn K cdLdeedsright "_law_deeds_right" = true)
    (kLdeedsright : PySem.W.keepIn K (.ref fLdeedsright) = true)
    (alaw : PySem.W.nsIn K mainGlobals "law" = some (some (.ref flaw)))
    (llaw : K.lookup flaw = some ⟨oclaw, odlaw, .func (PySem.W.fnOf "law" "law" (defArgs slaw) (defBody slaw) (defScope slaw) .none kVlaw dclaw pmlaw anlaw cdlaw ctlaw), sllaw⟩)
    (qlaw : PySem.W.codeIn K cdlaw "law" = true)
    (klaw : PySem.W.keepIn K (.ref flaw) = true)
    (pgJars : PySem.W.plainGet K CJars Str.empty = true)
    (hdJars : PySem.W.hasDictIn K CJars = true)
    (poJars : PySem.W.plainOver K CJars = true)
    (saJars : PySem.W.findIn K (.ref CJars) "__setattr__" = some (some (.builtin "object.__setattr__")))
    (mkJars : PySem.W.makesIn K CJars = true)
    (kcJars : PySem.W.keepIn K (.ref CJars) = true)
    (nJars_sizes : PySem.W.findIn K (.ref CJars) "sizes" = some none)
    (pgPour : PySem.W.plainGet K CPour Str.empty = true)
    (hdPour : PySem.W.hasDictIn K CPour = true)
    (poPour : PySem.W.plainOver K CPour = true)
    (saPour : PySem.W.findIn K (.ref CPour) "__setattr__" = some (some (.builtin "object.__setattr__")))
    (mkPour : PySem.W.makesIn K CPour = true)
    (kcPour : PySem.W.keepIn K (.ref CPour) = true)
    (nPour_a : PySem.W.findIn K (.ref CPour) "a" = some none)
    (nPour_b : PySem.W.findIn K (.ref CPour) "b" = some none)
    (pgPut : PySem.W.plainGet K CPut Str.empty = true)
    (hdPut : PySem.W.hasDictIn K CPut = true)
    (poPut : PySem.W.plainOver K CPut = true)
    (saPut : PySem.W.findIn K (.ref CPut) "__setattr__" = some (some (.builtin "object.__setattr__")))
    (mkPut : PySem.W.makesIn K CPut = true)
    (kcPut : PySem.W.keepIn K (.ref CPut) = true)
    (nPut_a : PySem.W.findIn K (.ref CPut) "a" = some none)
    (nPut_k : PySem.W.findIn K (.ref CPut) "k" = some none)
    (pgDraw : PySem.W.plainGet K CDraw Str.empty = true)
    (hdDraw : PySem.W.hasDictIn K CDraw = true)
    (poDraw : PySem.W.plainOver K CDraw = true)
    (saDraw : PySem.W.findIn K (.ref CDraw) "__setattr__" = some (some (.builtin "object.__setattr__")))
    (mkDraw : PySem.W.makesIn K CDraw = true)
    (kcDraw : PySem.W.keepIn K (.ref CDraw) = true)
    (nDraw_a : PySem.W.findIn K (.ref CDraw) "a" = some none)
    (nDraw_k : PySem.W.findIn K (.ref CDraw) "k" = some none)
    (pgChange : PySem.W.plainGet K CChange Str.empty = true)
    (hdChange : PySem.W.hasDictIn K CChange = true)
    (poChange : PySem.W.plainOver K CChange = true)
    (saChange : PySem.W.findIn K (.ref CChange) "__setattr__" = some (some (.builtin "object.__setattr__")))
    (mkChange : PySem.W.makesIn K CChange = true)
    (kcChange : PySem.W.keepIn K (.ref CChange) = true)
    (nChange_a : PySem.W.findIn K (.ref CChange) "a" = some none)
    (nChange_b : PySem.W.findIn K (.ref CChange) "b" = some none)
    (pgDeed : PySem.W.plainGet K CDeed Str.empty = true)
    (hdDeed : PySem.W.hasDictIn K CDeed = true)
    (poDeed : PySem.W.plainOver K CDeed = true)
    (saDeed : PySem.W.findIn K (.ref CDeed) "__setattr__" = some (some (.builtin "object.__setattr__")))
    (yaChange : PySem.W.findIn K (.ref CChange) "__class__" = some (some (.builtin "object.__class__")))
    (ymChange : PySem.W.mroIn K CChange (.type "object") = some true)
    (yaDraw : PySem.W.findIn K (.ref CDraw) "__class__" = some (some (.builtin "object.__class__")))
    (ymDraw : PySem.W.mroIn K CDraw (.type "object") = some true)
    (yaJars : PySem.W.findIn K (.ref CJars) "__class__" = some (some (.builtin "object.__class__")))
    (ymJars : PySem.W.mroIn K CJars (.type "object") = some true)
    (yaPour : PySem.W.findIn K (.ref CPour) "__class__" = some (some (.builtin "object.__class__")))
    (ymPour : PySem.W.mroIn K CPour (.type "object") = some true)
    (yaPut : PySem.W.findIn K (.ref CPut) "__class__" = some (some (.builtin "object.__class__")))
    (ymPut : PySem.W.mroIn K CPut (.type "object") = some true)
    (yn : PySem.W.specialIn K (.builtin "object.__class__") "__get__" = some (some (.builtin "getset_descriptor.__get__")))
    (yt : PySem.W.takesIn K (.builtin "object.__class__") = some true)
    (isPour_Put : PySem.W.kitOne K (.ref CPour) (.ref CPut) = some false)
    (isPour_Draw : PySem.W.kitOne K (.ref CPour) (.ref CDraw) = some false)
    (isPour_Pour : PySem.W.kitOne K (.ref CPour) (.ref CPour) = some true)
    (isPour_Change : PySem.W.kitOne K (.ref CPour) (.ref CChange) = some false)
    (isPut_Put : PySem.W.kitOne K (.ref CPut) (.ref CPut) = some true)
    (isPut_Draw : PySem.W.kitOne K (.ref CPut) (.ref CDraw) = some false)
    (isPut_Pour : PySem.W.kitOne K (.ref CPut) (.ref CPour) = some false)
    (isPut_Change : PySem.W.kitOne K (.ref CPut) (.ref CChange) = some false)
    (isDraw_Put : PySem.W.kitOne K (.ref CDraw) (.ref CPut) = some false)
    (isDraw_Draw : PySem.W.kitOne K (.ref CDraw) (.ref CDraw) = some true)
    (isDraw_Pour : PySem.W.kitOne K (.ref CDraw) (.ref CPour) = some false)
    (isDraw_Change : PySem.W.kitOne K (.ref CDraw) (.ref CChange) = some false)
    (isChange_Put : PySem.W.kitOne K (.ref CChange) (.ref CPut) = some false)
    (isChange_Draw : PySem.W.kitOne K (.ref CChange) (.ref CDraw) = some false)
    (isChange_Pour : PySem.W.kitOne K (.ref CChange) (.ref CPour) = some false)
    (isChange_Change : PySem.W.kitOne K (.ref CChange) (.ref CChange) = some true)
    (isPour_Deed : PySem.W.kitOne K (.ref CPour) (.ref CDeed) = some true)
    (isPut_Deed : PySem.W.kitOne K (.ref CPut) (.ref CDeed) = some true)
    (isDraw_Deed : PySem.W.kitOne K (.ref CDraw) (.ref CDeed) = some true)
    (isChange_Deed : PySem.W.kitOne K (.ref CChange) (.ref CDeed) = some true)
    (isJars_Jars : PySem.W.kitOne K (.ref CJars) (.ref CJars) = some true)
    (nfPour_Put : PySem.W.notFirst K CPour (.ref CPut) = true)
    (nfPour_Draw : PySem.W.notFirst K CPour (.ref CDraw) = true)
    (nfPour_Change : PySem.W.notFirst K CPour (.ref CChange) = true)
    (nfPut_Pour : PySem.W.notFirst K CPut (.ref CPour) = true)
    (nfPut_Draw : PySem.W.notFirst K CPut (.ref CDraw) = true)
    (nfPut_Change : PySem.W.notFirst K CPut (.ref CChange) = true)
    (nfDraw_Pour : PySem.W.notFirst K CDraw (.ref CPour) = true)
    (nfDraw_Put : PySem.W.notFirst K CDraw (.ref CPut) = true)
    (nfDraw_Change : PySem.W.notFirst K CDraw (.ref CChange) = true)
    (nfChange_Pour : PySem.W.notFirst K CChange (.ref CPour) = true)
    (nfChange_Put : PySem.W.notFirst K CChange (.ref CPut) = true)
    (nfChange_Draw : PySem.W.notFirst K CChange (.ref CDraw) = true)
    (neMPour : PySem.W.findIn K (.ref CPour) "__ne__" = some (some (.builtin "object.__ne__")))
    (alPour_NoneType : PySem.W.subIn K (.ref CPour) (.type "NoneType") = some false)
    (ikPour_NoneType : PySem.W.kitOne K (.type "NoneType") (.ref CPour) = some false)
    (alPour_int : PySem.W.subIn K (.ref CPour) (.type "int") = some false)
    (ikPour_int : PySem.W.kitOne K (.type "int") (.ref CPour) = some false)
    (alPour_tuple : PySem.W.subIn K (.ref CPour) (.type "tuple") = some false)
    (ikPour_tuple : PySem.W.kitOne K (.type "tuple") (.ref CPour) = some false)
    (alPour_list : PySem.W.subIn K (.ref CPour) (.type "list") = some false)
    (ikPour_list : PySem.W.kitOne K (.type "list") (.ref CPour) = some false)
    (neMPut : PySem.W.findIn K (.ref CPut) "__ne__" = some (some (.builtin "object.__ne__")))
    (alPut_NoneType : PySem.W.subIn K (.ref CPut) (.type "NoneType") = some false)
    (ikPut_NoneType : PySem.W.kitOne K (.type "NoneType") (.ref CPut) = some false)
    (alPut_int : PySem.W.subIn K (.ref CPut) (.type "int") = some false)
    (ikPut_int : PySem.W.kitOne K (.type "int") (.ref CPut) = some false)
    (alPut_tuple : PySem.W.subIn K (.ref CPut) (.type "tuple") = some false)
    (ikPut_tuple : PySem.W.kitOne K (.type "tuple") (.ref CPut) = some false)
    (alPut_list : PySem.W.subIn K (.ref CPut) (.type "list") = some false)
    (ikPut_list : PySem.W.kitOne K (.type "list") (.ref CPut) = some false)
    (neMDraw : PySem.W.findIn K (.ref CDraw) "__ne__" = some (some (.builtin "object.__ne__")))
    (alDraw_NoneType : PySem.W.subIn K (.ref CDraw) (.type "NoneType") = some false)
    (ikDraw_NoneType : PySem.W.kitOne K (.type "NoneType") (.ref CDraw) = some false)
    (alDraw_int : PySem.W.subIn K (.ref CDraw) (.type "int") = some false)
    (ikDraw_int : PySem.W.kitOne K (.type "int") (.ref CDraw) = some false)
    (alDraw_tuple : PySem.W.subIn K (.ref CDraw) (.type "tuple") = some false)
    (ikDraw_tuple : PySem.W.kitOne K (.type "tuple") (.ref CDraw) = some false)
    (alDraw_list : PySem.W.subIn K (.ref CDraw) (.type "list") = some false)
    (ikDraw_list : PySem.W.kitOne K (.type "list") (.ref CDraw) = some false)
    (neMChange : PySem.W.findIn K (.ref CChange) "__ne__" = some (some (.builtin "object.__ne__")))
    (alChange_NoneType : PySem.W.subIn K (.ref CChange) (.type "NoneType") = some false)
    (ikChange_NoneType : PySem.W.kitOne K (.type "NoneType") (.ref CChange) = some false)
    (alChange_int : PySem.W.subIn K (.ref CChange) (.type "int") = some false)
    (ikChange_int : PySem.W.kitOne K (.type "int") (.ref CChange) = some false)
    (alChange_tuple : PySem.W.subIn K (.ref CChange) (.type "tuple") = some false)
    (ikChange_tuple : PySem.W.kitOne K (.type "tuple") (.ref CChange) = some false)
    (alChange_list : PySem.W.subIn K (.ref CChange) (.type "list") = some false)
    (ikChange_list : PySem.W.kitOne K (.type "list") (.ref CChange) = some false)
    (neMJars : PySem.W.findIn K (.ref CJars) "__ne__" = some (some (.builtin "object.__ne__")))
    (alJars_NoneType : PySem.W.subIn K (.ref CJars) (.type "NoneType") = some false)
    (ikJars_NoneType : PySem.W.kitOne K (.type "NoneType") (.ref CJars) = some false)
    (alJars_int : PySem.W.subIn K (.ref CJars) (.type "int") = some false)
    (ikJars_int : PySem.W.kitOne K (.type "int") (.ref CJars) = some false)
    (alJars_tuple : PySem.W.subIn K (.ref CJars) (.type "tuple") = some false)
    (ikJars_tuple : PySem.W.kitOne K (.type "tuple") (.ref CJars) = some false)
    (alJars_list : PySem.W.subIn K (.ref CJars) (.type "list") = some false)
    (ikJars_list : PySem.W.kitOne K (.type "list") (.ref CJars) = some false)
    (tyBadCount : PySem.W.typeIn K (.ref fBadCountInit) = some (.type "function"))
    (oxBadCount : K.lookup CBadCount = some (PySem.excClassObj nmXBadCount qXBadCount CBadCount NXBadCount bsXBadCount bmXBadCount true snXBadCount subXBadCount abXBadCount colXBadCount ddXBadCount r0XBadCount r1XBadCount r2XBadCount r3XBadCount r5XBadCount "ValueError.__new__"))
    (orBadCount : PySem.HandSPX.refsVE bmXBadCount = true)
    (osBadCount : PySem.W.findIn K (.ref CBadCount) "__setattr__" = some (some (.builtin "object.__setattr__")))
    (obBadCount : PySem.W.subIn K (.ref CBadCount) (.type "BaseException") = some true)
    (otBadCount : PySem.W.typeIn K (.ref CBadCount) = some (.type "type"))
    (okBadCount : PySem.W.keepIn K (.ref CBadCount) = true)
    (xgBadCount : PySem.W.findIn K (.ref CBadCount) "__getattribute__" = some (some (.builtin "BaseException.__getattribute__")))
    (xnBadCount : PySem.W.findIn K (.ref CBadCount) "__getattr__" = some none)
    (xdBadCount : PySem.W.hasDictIn K CBadCount = true)
    (nBadCount_what : PySem.W.findIn K (.ref CBadCount) "what" = some none)
    (nBadCount_count : PySem.W.findIn K (.ref CBadCount) "count" = some none)
    (euBadCount_BadCount : PySem.W.subIn K (.ref CBadCount) (.ref CBadCount) = some true)
    (gMOSTJARS : PySem.W.nsIn K mainGlobals "MOST_JARS" = some (some (.int 6 tkMOSTJARS)))
    (gMOSTMUCH : PySem.W.nsIn K mainGlobals "MOST_MUCH" = some (some (.int 1000000000000 tkMOSTMUCH)))
    (zabs : PySem.W.nsIn K mainGlobals "abs" = some none)
    (zisinstance : PySem.W.nsIn K mainGlobals "isinstance" = some none)
    (zlen : PySem.W.nsIn K mainGlobals "len" = some none)
    (zlist : PySem.W.nsIn K mainGlobals "list" = some none)
    (zrange : PySem.W.nsIn K mainGlobals "range" = some none)
    (ztuple : PySem.W.nsIn K mainGlobals "tuple" = some none) :
    ∃ fd : FuncData, (∀ (s : Shared) (v : Value), BindsTo s fd ⟨[v], []⟩ [("_law_script", v)]) ∧ ∀ base : Heap, K.In base → base.Ns mainGlobals mg → FnOk l.prog w K mg base CX0 7 fa fd ["_law_script"] (spLaw K) := by
  have e := hfa.symm.trans (PySem.W.mg_of X G alaw)
  cases e
  exact ⟨PySem.W.fnOf "law" "law" (defArgs slaw) (defBody slaw) (defScope slaw) .none kVlaw dclaw pmlaw anlaw cdlaw ctlaw, fun s v => .of_eq rfl, fun base _ _ => oklaw {
    cJars := CJars
    mJars := PySem.W.mg_of X G xJars
    cPour := CPour
    mPour := PySem.W.mg_of X G xPour
    cPut := CPut
    mPut := PySem.W.mg_of X G xPut
    cDraw := CDraw
    mDraw := PySem.W.mg_of X G xDraw
    cChange := CChange
    mChange := PySem.W.mg_of X G xChange
    cDeed := CDeed
    mDeed := PySem.W.mg_of X G xDeed
    cBadCount := CBadCount
    mBadCount := PySem.W.mg_of X G xBadCount
    gcheckmuch := PySem.W.mg_of X G acheckmuch
    acheckmuch := fcheckmuch
    dcheckmuch := PySem.W.fnOf "check_much" "check_much" (defArgs scheckmuch) (defBody scheckmuch) (defScope scheckmuch) .none kVcheckmuch dccheckmuch pmcheckmuch ancheckmuch cdcheckmuch ctcheckmuch
    fcheckmuch := fun_mk (st := scheckmuch) lcheckmuch qcheckmuch kcheckmuch
    bcheckmuch := (fun_mk (st := scheckmuch) lcheckmuch qcheckmuch kcheckmuch).binds (ps := ["what", "much"]) fun _ _ _ _ _ _ us hl => match us, hl with | [_, _], _ => rfl
    aBadCountInit := fBadCountInit
    dBadCountInit := PySem.W.fnOf "__init__" "BadCount.__init__" (defArgs sBadCountInit) (defBody sBadCountInit) (defScope sBadCountInit) .none kVBadCountInit dcBadCountInit pmBadCountInit anBadCountInit cdBadCountInit ctBadCountInit
    fBadCountInit := fun_mk (st := sBadCountInit) lBadCountInit qBadCountInit kBadCountInit
    bBadCountInit := (fun_mk (st := sBadCountInit) lBadCountInit qBadCountInit kBadCountInit).binds (ps := ["self", "what", "count"]) fun _ _ _ _ _ _ us hl => match us, hl with | [_, _, _], _ => rfl
    aJarsInit := fJarsInit
    dJarsInit := PySem.W.fnOf "__init__" "Jars.__init__" (defArgs sJarsInit) (defBody sJarsInit) (defScope sJarsInit) .none kVJarsInit dcJarsInit pmJarsInit anJarsInit cdJarsInit ctJarsInit
    fJarsInit := fun_mk (st := sJarsInit) lJarsInit qJarsInit kJarsInit
    bJarsInit := (fun_mk (st := sJarsInit) lJarsInit qJarsInit kJarsInit).binds (ps := ["self", "sizes"]) fun _ _ _ _ _ _ us hl => match us, hl with | [_, _], _ => rfl
    aPourInit := fPourInit
    dPourInit := PySem.W.fnOf "__init__" "Pour.__init__" (defArgs sPourInit) (defBody sPourInit) (defScope sPourInit) .none kVPourInit dcPourInit pmPourInit anPourInit cdPourInit ctPourInit
    fPourInit := fun_mk (st := sPourInit) lPourInit qPourInit kPourInit
    bPourInit := (fun_mk (st := sPourInit) lPourInit qPourInit kPourInit).binds (ps := ["self", "a", "b"]) fun _ _ _ _ _ _ us hl => match us, hl with | [_, _, _], _ => rfl
    aPutInit := fPutInit
    dPutInit := PySem.W.fnOf "__init__" "Put.__init__" (defArgs sPutInit) (defBody sPutInit) (defScope sPutInit) .none kVPutInit dcPutInit pmPutInit anPutInit cdPutInit ctPutInit
    fPutInit := fun_mk (st := sPutInit) lPutInit qPutInit kPutInit
    bPutInit := (fun_mk (st := sPutInit) lPutInit qPutInit kPutInit).binds (ps := ["self", "a", "k"]) fun _ _ _ _ _ _ us hl => match us, hl with | [_, _, _], _ => rfl
    aDrawInit := fDrawInit
    dDrawInit := PySem.W.fnOf "__init__" "Draw.__init__" (defArgs sDrawInit) (defBody sDrawInit) (defScope sDrawInit) .none kVDrawInit dcDrawInit pmDrawInit anDrawInit cdDrawInit ctDrawInit
    fDrawInit := fun_mk (st := sDrawInit) lDrawInit qDrawInit kDrawInit
    bDrawInit := (fun_mk (st := sDrawInit) lDrawInit qDrawInit kDrawInit).binds (ps := ["self", "a", "k"]) fun _ _ _ _ _ _ us hl => match us, hl with | [_, _, _], _ => rfl
    aChangeInit := fChangeInit
    dChangeInit := PySem.W.fnOf "__init__" "Change.__init__" (defArgs sChangeInit) (defBody sChangeInit) (defScope sChangeInit) .none kVChangeInit dcChangeInit pmChangeInit anChangeInit cdChangeInit ctChangeInit
    fChangeInit := fun_mk (st := sChangeInit) lChangeInit qChangeInit kChangeInit
    bChangeInit := (fun_mk (st := sChangeInit) lChangeInit qChangeInit kChangeInit).binds (ps := ["self", "a", "b"]) fun _ _ _ _ _ _ us hl => match us, hl with | [_, _, _], _ => rfl
    eJarsEq := aJarsEq
    eiJarsEq := iJarsEq
    aJarsEq := fJarsEq
    dJarsEq := PySem.W.fnOf "__eq__" "Jars.__eq__" (defArgs sJarsEq) (defBody sJarsEq) (defScope sJarsEq) .none kVJarsEq dcJarsEq pmJarsEq anJarsEq cdJarsEq ctJarsEq
    fJarsEq := fun_mk (st := sJarsEq) lJarsEq qJarsEq kJarsEq
    bJarsEq := (fun_mk (st := sJarsEq) lJarsEq qJarsEq kJarsEq).binds (ps := ["self", "other"]) fun _ _ _ _ _ _ us hl => match us, hl with | [_, _], _ => rfl
    ePourEq := aPourEq
    eiPourEq := iPourEq
    aPourEq := fPourEq
    dPourEq := PySem.W.fnOf "__eq__" "Pour.__eq__" (defArgs sPourEq) (defBody sPourEq) (defScope sPourEq) .none kVPourEq dcPourEq pmPourEq anPourEq cdPourEq ctPourEq
    fPourEq := fun_mk (st := sPourEq) lPourEq qPourEq kPourEq
    bPourEq := (fun_mk (st := sPourEq) lPourEq qPourEq kPourEq).binds (ps := ["self", "other"]) fun _ _ _ _ _ _ us hl => match us, hl with | [_, _], _ => rfl
    ePutEq := aPutEq
    eiPutEq := iPutEq
    aPutEq := fPutEq
    dPutEq := PySem.W.fnOf "__eq__" "Put.__eq__" (defArgs sPutEq) (defBody sPutEq) (defScope sPutEq) .none kVPutEq dcPutEq pmPutEq anPutEq cdPutEq ctPutEq
    fPutEq := fun_mk (st := sPutEq) lPutEq qPutEq kPutEq
    bPutEq := (fun_mk (st := sPutEq) lPutEq qPutEq kPutEq).binds (ps := ["self", "other"]) fun _ _ _ _ _ _ us hl => match us, hl with | [_, _], _ => rfl
    eDrawEq := aDrawEq
    eiDrawEq := iDrawEq
    aDrawEq := fDrawEq
    dDrawEq := PySem.W.fnOf "__eq__" "Draw.__eq__" (defArgs sDrawEq) (defBody sDrawEq) (defScope sDrawEq) .none kVDrawEq dcDrawEq pmDrawEq anDrawEq cdDrawEq ctDrawEq
    fDrawEq := fun_mk (st := sDrawEq) lDrawEq qDrawEq kDrawEq
    bDrawEq := (fun_mk (st := sDrawEq) lDrawEq qDrawEq kDrawEq).binds (ps := ["self", "other"]) fun _ _ _ _ _ _ us hl => match us, hl with | [_, _], _ => rfl
    eChangeEq := aChangeEq
    eiChangeEq := iChangeEq
    aChangeEq := fChangeEq
    dChangeEq := PySem.W.fnOf "__eq__" "Change.__eq__" (defArgs sChangeEq) (defBody sChangeEq) (defScope sChangeEq) .none kVChangeEq dcChangeEq pmChangeEq anChangeEq cdChangeEq ctChangeEq
    fChangeEq := fun_mk (st := sChangeEq) lChangeEq qChangeEq kChangeEq
    bChangeEq := (fun_mk (st := sChangeEq) lChangeEq qChangeEq kChangeEq).binds (ps := ["self", "other"]) fun _ _ _ _ _ _ us hl => match us, hl with | [_, _], _ => rfl
    gLwell := PySem.W.mg_of X G aLwell
    aLwell := fLwell
    dLwell := PySem.W.fnOf "_law_well" "_law_well" (defArgs sLwell) (defBody sLwell) (defScope sLwell) .none kVLwell dcLwell pmLwell anLwell cdLwell ctLwell
    fLwell := fun_mk (st := sLwell) lLwell qLwell kLwell
    bLwell := (fun_mk (st := sLwell) lLwell qLwell kLwell).binds (ps := ["_law_cell"]) fun _ _ _ _ _ _ us hl => match us, hl with | [_], _ => rfl
    gLdraw := PySem.W.mg_of X G aLdraw
    aLdraw := fLdraw
    dLdraw := PySem.W.fnOf "_law_draw" "_law_draw" (defArgs sLdraw) (defBody sLdraw) (defScope sLdraw) .none kVLdraw dcLdraw pmLdraw anLdraw cdLdraw ctLdraw
    fLdraw := fun_mk (st := sLdraw) lLdraw qLdraw kLdraw
    bLdraw := (fun_mk (st := sLdraw) lLdraw qLdraw kLdraw).binds (ps := ["_law_well_here", "_law_many"]) fun _ _ _ _ _ _ us hl => match us, hl with | [_, _], _ => rfl
    gLdrawn := PySem.W.mg_of X G aLdrawn
    aLdrawn := fLdrawn
    dLdrawn := PySem.W.fnOf "_law_drawn" "_law_drawn" (defArgs sLdrawn) (defBody sLdrawn) (defScope sLdrawn) .none kVLdrawn dcLdrawn pmLdrawn anLdrawn cdLdrawn ctLdrawn
    fLdrawn := fun_mk (st := sLdrawn) lLdrawn qLdrawn kLdrawn
    bLdrawn := (fun_mk (st := sLdrawn) lLdrawn qLdrawn kLdrawn).binds (ps := ["_law_well_here"]) fun _ _ _ _ _ _ us hl => match us, hl with | [_], _ => rfl
    gLdue := PySem.W.mg_of X G aLdue
    aLdue := fLdue
    dLdue := PySem.W.fnOf "_law_due" "_law_due" (defArgs sLdue) (defBody sLdue) (defScope sLdue) .none kVLdue dcLdue pmLdue anLdue cdLdue ctLdue
    fLdue := fun_mk (st := sLdue) lLdue qLdue kLdue
    bLdue := (fun_mk (st := sLdue) lLdue qLdue kLdue).binds (ps := ["_law_caps"]) fun _ _ _ _ _ _ us hl => match us, hl with | [_], _ => rfl
    gLsaid := PySem.W.mg_of X G aLsaid
    aLsaid := fLsaid
    dLsaid := PySem.W.fnOf "_law_said" "_law_said" (defArgs sLsaid) (defBody sLsaid) (defScope sLsaid) .none kVLsaid dcLsaid pmLsaid anLsaid cdLsaid ctLsaid
    fLsaid := fun_mk (st := sLsaid) lLsaid qLsaid kLsaid
    bLsaid := (fun_mk (st := sLsaid) lLsaid qLsaid kLsaid).binds (ps := ["_law_caps"]) fun _ _ _ _ _ _ us hl => match us, hl with | [_], _ => rfl
    gLjarsright := PySem.W.mg_of X G aLjarsright
    aLjarsright := fLjarsright
    dLjarsright := PySem.W.fnOf "_law_jars_right" "_law_jars_right" (defArgs sLjarsright) (defBody sLjarsright) (defScope sLjarsright) .none kVLjarsright dcLjarsright pmLjarsright anLjarsright cdLjarsright ctLjarsright
    fLjarsright := fun_mk (st := sLjarsright) lLjarsright qLjarsright kLjarsright
    bLjarsright := (fun_mk (st := sLjarsright) lLjarsright qLjarsright kLjarsright).binds (ps := ["_law_caps"]) fun _ _ _ _ _ _ us hl => match us, hl with | [_], _ => rfl
    gLdeed := PySem.W.mg_of X G aLdeed
    aLdeed := fLdeed
    dLdeed := PySem.W.fnOf "_law_deed" "_law_deed" (defArgs sLdeed) (defBody sLdeed) (defScope sLdeed) .none kVLdeed dcLdeed pmLdeed anLdeed cdLdeed ctLdeed
    fLdeed := fun_mk (st := sLdeed) lLdeed qLdeed kLdeed
    bLdeed := (fun_mk (st := sLdeed) lLdeed qLdeed kLdeed).binds (ps := ["_law_fact"]) fun _ _ _ _ _ _ us hl => match us, hl with | [_], _ => rfl
    gLnamed := PySem.W.mg_of X G aLnamed
    aLnamed := fLnamed
    dLnamed := PySem.W.fnOf "_law_named" "_law_named" (defArgs sLnamed) (defBody sLnamed) (defScope sLnamed) .none kVLnamed dcLnamed pmLnamed anLnamed cdLnamed ctLnamed
    fLnamed := fun_mk (st := sLnamed) lLnamed qLnamed kLnamed
    bLnamed := (fun_mk (st := sLnamed) lLnamed qLnamed kLnamed).binds (ps := ["_law_fact"]) fun _ _ _ _ _ _ us hl => match us, hl with | [_], _ => rfl
    gLfields := PySem.W.mg_of X G aLfields
    aLfields := fLfields
    dLfields := PySem.W.fnOf "_law_fields" "_law_fields" (defArgs sLfields) (defBody sLfields) (defScope sLfields) .none kVLfields dcLfields pmLfields anLfields cdLfields ctLfields
    fLfields := fun_mk (st := sLfields) lLfields qLfields kLfields
    bLfields := (fun_mk (st := sLfields) lLfields qLfields kLfields).binds (ps := ["_law_word", "_law_deed_here"]) fun _ _ _ _ _ _ us hl => match us, hl with | [_, _], _ => rfl
    gLdeedsright := PySem.W.mg_of X G aLdeedsright
    aLdeedsright := fLdeedsright
    dLdeedsright := PySem.W.fnOf "_law_deeds_right" "_law_deeds_right" (defArgs sLdeedsright) (defBody sLdeedsright) (defScope sLdeedsright) .none kVLdeedsright dcLdeedsright pmLdeedsright anLdeedsright cdLdeedsright ctLdeedsright
    fLdeedsright := fun_mk (st := sLdeedsright) lLdeedsright qLdeedsright kLdeedsright
    bLdeedsright := (fun_mk (st := sLdeedsright) lLdeedsright qLdeedsright kLdeedsright).binds (ps := ["_law_well_here"]) fun _ _ _ _ _ _ us hl => match us, hl with | [_], _ => rfl
    glaw := PySem.W.mg_of X G alaw
    alaw := fa
    dlaw := PySem.W.fnOf "law" "law" (defArgs slaw) (defBody slaw) (defScope slaw) .none kVlaw dclaw pmlaw anlaw cdlaw ctlaw
    flaw := fun_mk (st := slaw) llaw qlaw klaw
    blaw := (fun_mk (st := slaw) llaw qlaw klaw).binds (ps := ["_law_script"]) fun _ _ _ _ _ _ us hl => match us, hl with | [_], _ => rfl
    lJars := ⟨pgJars, hdJars, poJars, saJars⟩
    kJars := ⟨mkJars, aJarsInit, iJarsInit, kcJars⟩
    nJars_sizes := nJars_sizes
    lPour := ⟨pgPour, hdPour, poPour, saPour⟩
    kPour := ⟨mkPour, aPourInit, iPourInit, kcPour⟩
    nPour_a := nPour_a
    nPour_b := nPour_b
    lPut := ⟨pgPut, hdPut, poPut, saPut⟩
    kPut := ⟨mkPut, aPutInit, iPutInit, kcPut⟩
    nPut_a := nPut_a
    nPut_k := nPut_k
    lDraw := ⟨pgDraw, hdDraw, poDraw, saDraw⟩
    kDraw := ⟨mkDraw, aDrawInit, iDrawInit, kcDraw⟩
    nDraw_a := nDraw_a
    nDraw_k := nDraw_k
    lChange := ⟨pgChange, hdChange, poChange, saChange⟩
    kChange := ⟨mkChange, aChangeInit, iChangeInit, kcChange⟩
    nChange_a := nChange_a
    nChange_b := nChange_b
    lDeed := ⟨pgDeed, hdDeed, poDeed, saDeed⟩
    yChange := ⟨yaChange, yn, yt, ymChange⟩
    yDraw := ⟨yaDraw, yn, yt, ymDraw⟩
    yJars := ⟨yaJars, yn, yt, ymJars⟩
    yPour := ⟨yaPour, yn, yt, ymPour⟩
    yPut := ⟨yaPut, yn, yt, ymPut⟩
    iPour_Put := isPour_Put
    iPour_Draw := isPour_Draw
    iPour_Pour := isPour_Pour
    iPour_Change := isPour_Change
    iPut_Put := isPut_Put
    iPut_Draw := isPut_Draw
    iPut_Pour := isPut_Pour
    iPut_Change := isPut_Change
    iDraw_Put := isDraw_Put
    iDraw_Draw := isDraw_Draw
    iDraw_Pour := isDraw_Pour
    iDraw_Change := isDraw_Change
    iChange_Put := isChange_Put
    iChange_Draw := isChange_Draw
    iChange_Pour := isChange_Pour
    iChange_Change := isChange_Change
    iPour_Deed := isPour_Deed
    iPut_Deed := isPut_Deed
    iDraw_Deed := isDraw_Deed
    iChange_Deed := isChange_Deed
    iJars_Jars := isJars_Jars
    nfPour_Put := nfPour_Put
    nfPour_Draw := nfPour_Draw
    nfPour_Change := nfPour_Change
    nfPut_Pour := nfPut_Pour
    nfPut_Draw := nfPut_Draw
    nfPut_Change := nfPut_Change
    nfDraw_Pour := nfDraw_Pour
    nfDraw_Put := nfDraw_Put
    nfDraw_Change := nfDraw_Change
    nfChange_Pour := nfChange_Pour
    nfChange_Put := nfChange_Put
    nfChange_Draw := nfChange_Draw
    nePour := ⟨neMPour, ymPour, aPourEq, iPourEq⟩
    alPour_NoneType := alPour_NoneType
    ikPour_NoneType := ikPour_NoneType
    alPour_int := alPour_int
    ikPour_int := ikPour_int
    alPour_tuple := alPour_tuple
    ikPour_tuple := ikPour_tuple
    alPour_list := alPour_list
    ikPour_list := ikPour_list
    nePut := ⟨neMPut, ymPut, aPutEq, iPutEq⟩
    alPut_NoneType := alPut_NoneType
    ikPut_NoneType := ikPut_NoneType
    alPut_int := alPut_int
    ikPut_int := ikPut_int
    alPut_tuple := alPut_tuple
    ikPut_tuple := ikPut_tuple
    alPut_list := alPut_list
    ikPut_list := ikPut_list
    neDraw := ⟨neMDraw, ymDraw, aDrawEq, iDrawEq⟩
    alDraw_NoneType := alDraw_NoneType
    ikDraw_NoneType := ikDraw_NoneType
    alDraw_int := alDraw_int
    ikDraw_int := ikDraw_int
    alDraw_tuple := alDraw_tuple
    ikDraw_tuple := ikDraw_tuple
    alDraw_list := alDraw_list
    ikDraw_list := ikDraw_list
    neChange := ⟨neMChange, ymChange, aChangeEq, iChangeEq⟩
    alChange_NoneType := alChange_NoneType
    ikChange_NoneType := ikChange_NoneType
    alChange_int := alChange_int
    ikChange_int := ikChange_int
    alChange_tuple := alChange_tuple
    ikChange_tuple := ikChange_tuple
    alChange_list := alChange_list
    ikChange_list := ikChange_list
    neJars := ⟨neMJars, ymJars, aJarsEq, iJarsEq⟩
    alJars_NoneType := alJars_NoneType
    ikJars_NoneType := ikJars_NoneType
    alJars_int := alJars_int
    ikJars_int := ikJars_int
    alJars_tuple := alJars_tuple
    ikJars_tuple := ikJars_tuple
    alJars_list := alJars_list
    ikJars_list := ikJars_list
    kbJars_sizes := kbOf (fun us ws h1 h2 => match us, ws, h1, h2 with | [_], [_], _, _ => rfl) (fun r1 r2 => r1.append r2)
    kbChange_a_b := kbOf (fun us ws h1 h2 => match us, ws, h1, h2 with | [_], [_, _], _, _ => rfl) (fun r1 r2 => r1.append r2)
    kbPour_b_a := kbOf (fun us ws h1 h2 => match us, ws, h1, h2 with | [_], [_, _], _, _ => rfl) (fun r1 r2 => r1.append (Vals.reverse r2))
    kbPut_k_a := kbOf (fun us ws h1 h2 => match us, ws, h1, h2 with | [_], [_, _], _, _ => rfl) (fun r1 r2 => r1.append (Vals.reverse r2))
    kbDraw_a_k := kbOf (fun us ws h1 h2 => match us, ws, h1, h2 with | [_], [_, _], _, _ => rfl) (fun r1 r2 => r1.append r2)
    iBadCount := aBadCountInit
    tBadCount := tyBadCount
    oBadCount := ⟨⟨nmXBadCount, qXBadCount, NXBadCount, bsXBadCount, bmXBadCount, snXBadCount, subXBadCount, abXBadCount, colXBadCount, ddXBadCount, r0XBadCount, r1XBadCount, r2XBadCount, r3XBadCount, r5XBadCount, oxBadCount, orBadCount⟩, osBadCount, obBadCount, otBadCount, okBadCount⟩
    xfBadCount := ⟨xgBadCount, xnBadCount, obBadCount, xdBadCount⟩
    nBadCount_what := nBadCount_what
    nBadCount_count := nBadCount_count
    emBadCount_BadCount := PySem.W.exm_ref obBadCount xdBadCount otBadCount euBadCount_BadCount
    tMOSTJARS := tkMOSTJARS
    cMOSTJARS := PySem.W.mg_of X G gMOSTJARS
    tMOSTMUCH := tkMOSTMUCH
    cMOSTMUCH := PySem.W.mg_of X G gMOSTMUCH
    nabs := PySem.W.mg_none_of X G zabs
    nisinstance := PySem.W.mg_none_of X G zisinstance
    nlen := PySem.W.mg_none_of X G zlen
    nlist := PySem.W.mg_none_of X G zlist
    nrange := PySem.W.mg_none_of X G zrange
    ntuple := PySem.W.mg_none_of X G ztuple }⟩
theorem walk {l : PySem.W.OpenLaw} {q : Program} {loose : List Str} {XP : (Str → Option Value) → Heap → Prop} {YP : World → Heap → Prop} {d : DefRec} {K : Params → PySem.W.Frag} (hn : l.most = some 63) (hdf : d.params.defaults = [])
    (hY : ∀ (w : World) (h : Heap), YP w h → (K w.params).In h)
    (F : ∀ (w : World) (mg : Str → Option Value) (fa : Addr) (h : Heap), (K w.params).In h → h.Ns mainGlobals mg → mg d.name = some (.ref fa) →
      ∃ fd : FuncData, (∀ (s : Shared) (u : Value), BindsTo s fd ⟨[u], []⟩ [("_law_script", u)]) ∧ ∀ base : Heap, (K w.params).In base → base.Ns mainGlobals mg → FnOk l.prog w (K w.params) mg base CX0 7 fa fd ["_law_script"] (spLaw (K w.params))) :
    PySem.W.WalkO q loose XP YP l.row.toRowW d [] (fun f vs => PySem.call f vs) :=
  L2.walk_of (n := 63) (k := 7) (x := "_law_script") (CX := fun _ => CX0) (sp := fun w => spLaw (K w.params)) hn (by decide) hdf ⟨rfl, by decide, by decide⟩ hY F (fun _ _ a ns hl _ hS => ⟨a, ns, rfl, hS, hl, fun _ => rfl⟩) fun _ _ _ _ _ z => z
end Kp
open PySem PySem.W PyProof.Rows
set_option maxRecDepth 100000 in
set_option maxHeartbeats 0 in
theorem PySem.Challenge.cw_wholedrops_k01_jars_and_deeds_told_holds : PySem.Challenge.rw_wholedrops_k01_jars_and_deeds_told.Holds := by
  w_on; o_law; k_head; (case hw => w_witness2)
  k_fill
  refine Kp.walk (l := PySem.Challenge.rw_wholedrops_k01_jars_and_deeds_told) rfl rfl (fun w h Y => PySem.W.kIn_of Y) ?F
  case F =>
    intro w mg fa h KX G hmg
    refine' Kp.all_mk KX G hmg ?xJars ?xPour ?xPut ?xDraw ?xChange ?xDeed ?xBadCount ?acheckmuch ?lcheckmuch ?qcheckmuch ?kcheckmuch ?aBadCountInit ?iBadCountInit ?lBadCountInit ?qBadCountInit ?kBadCountInit ?aJarsInit ?iJarsInit ?lJarsInit ?qJarsInit ?kJarsInit ?aPourInit ?iPourInit ?lPourInit ?qPourInit ?kPourInit ?aPutInit ?iPutInit ?lPutInit ?qPutInit ?kPutInit ?aDrawInit ?iDrawInit ?lDrawInit ?qDrawInit ?kDrawInit ?aChangeInit ?iChangeInit ?lChangeInit ?qChangeInit ?kChangeInit ?aJarsEq ?iJarsEq ?lJarsEq ?qJarsEq ?kJarsEq ?aPourEq ?iPourEq ?lPourEq ?qPourEq ?kPourEq ?aPutEq ?iPutEq ?lPutEq ?qPutEq ?kPutEq ?aDrawEq ?iDrawEq ?lDrawEq ?qDrawEq ?kDrawEq ?aChangeEq ?iChangeEq ?lChangeEq ?qChangeEq ?kChangeEq ?aLwell ?lLwell ?qLwell ?kLwell ?aLdraw ?lLdraw ?qLdraw ?kLdraw ?aLdrawn ?lLdrawn ?qLdrawn ?kLdrawn ?aLdue ?lLdue ?qLdue ?kLdue ?aLsaid ?lLsaid ?qLsaid ?kLsaid ?aLjarsright ?lLjarsright ?qLjarsright ?kLjarsright ?aLdeed ?lLdeed ?qLdeed ?kLdeed ?aLnamed ?lLnamed ?qLnamed ?kLnamed ?aLfields ?lLfields ?qLfields ?kLfields ?aLdeedsright ?lLdeedsright ?qLdeedsright ?kLdeedsright ?alaw ?llaw ?qlaw ?klaw ?pgJars ?hdJars ?poJars ?saJars ?mkJars ?kcJars ?nJars_sizes ?pgPour ?hdPour ?poPour ?saPour ?mkPour ?kcPour ?nPour_a ?nPour_b ?pgPut ?hdPut ?poPut ?saPut ?mkPut ?kcPut ?nPut_a ?nPut_k ?pgDraw ?hdDraw ?poDraw ?saDraw ?mkDraw ?kcDraw ?nDraw_a ?nDraw_k ?pgChange ?hdChange ?poChange ?saChange ?mkChange ?kcChange ?nChange_a ?nChange_b ?pgDeed ?hdDeed ?poDeed ?saDeed ?yaChange ?ymChange ?yaDraw ?ymDraw ?yaJars ?ymJars ?yaPour ?ymPour ?yaPut ?ymPut ?yn ?yt ?isPour_Put ?isPour_Draw ?isPour_Pour ?isPour_Change ?isPut_Put ?isPut_Draw ?isPut_Pour ?isPut_Change ?isDraw_Put ?isDraw_Draw ?isDraw_Pour ?isDraw_Change ?isChange_Put ?isChange_Draw ?isChange_Pour ?isChange_Change ?isPour_Deed ?isPut_Deed ?isDraw_Deed ?isChange_Deed ?isJars_Jars ?nfPour_Put ?nfPour_Draw ?nfPour_Change ?nfPut_Pour ?nfPut_Draw ?nfPut_Change ?nfDraw_Pour ?nfDraw_Put ?nfDraw_Change ?nfChange_Pour ?nfChange_Put ?nfChange_Draw ?neMPour ?alPour_NoneType ?ikPour_NoneType ?alPour_int ?ikPour_int ?alPour_tuple ?ikPour_tuple ?alPour_list ?ikPour_list ?neMPut ?alPut_NoneType ?ikPut_NoneType ?alPut_int ?ikPut_int ?alPut_tuple ?ikPut_tuple ?alPut_list ?ikPut_list ?neMDraw ?alDraw_NoneType ?ikDraw_NoneType ?alDraw_int ?ikDraw_int ?alDraw_tuple ?ikDraw_tuple ?alDraw_list ?ikDraw_list ?neMChange ?alChange_NoneType ?ikChange_NoneType ?alChange_int ?ikChange_int ?alChange_tuple ?ikChange_tuple ?alChange_list ?ikChange_list ?neMJars ?alJars_NoneType ?ikJars_NoneType ?alJars_int ?ikJars_int ?alJars_tuple ?ikJars_tuple ?alJars_list ?ikJars_list ?tyBadCount ?oxBadCount ?orBadCount ?osBadCount ?obBadCount ?otBadCount ?okBadCount ?xgBadCount ?xnBadCount ?xdBadCount ?nBadCount_what ?nBadCount_count ?euBadCount_BadCount ?gMOSTJARS ?gMOSTMUCH ?zabs ?zisinstance ?zlen ?zlist ?zrange ?ztuple
    (case xJars => k_is)
    (case xPour => k_is)
    (case xPut => k_is)
    (case xDraw => k_is)
    (case xChange => k_is)
    (case xDeed => k_is)
    (case xBadCount => k_is)
    (case acheckmuch => k_is)
    (case lcheckmuch => k_is)
    (case qcheckmuch => k_is)
    (case kcheckmuch => k_is)
    (case aBadCountInit => k_is)
    (case iBadCountInit => k_is)
    (case lBadCountInit => k_is)
    (case qBadCountInit => k_is)
    (case kBadCountInit => k_is)
    (case aJarsInit => k_is)
    (case iJarsInit => k_is)
    (case lJarsInit => k_is)
    (case qJarsInit => k_is)
    (case kJarsInit => k_is)
    (case aPourInit => k_is)
    (case iPourInit => k_is)
    (case lPourInit => k_is)
    (case qPourInit => k_is)
    (case kPourInit => k_is)
    (case aPutInit => k_is)
    (case iPutInit => k_is)
    (case lPutInit => k_is)
    (case qPutInit => k_is)
    (case kPutInit => k_is)
    (case aDrawInit => k_is)
    (case iDrawInit => k_is)
    (case lDrawInit => k_is)
    (case qDrawInit => k_is)
    (case kDrawInit => k_is)
    (case aChangeInit => k_is)
    (case iChangeInit => k_is)
    (case lChangeInit => k_is)
    (case qChangeInit => k_is)
    (case kChangeInit => k_is)
    (case aJarsEq => k_is)
    (case iJarsEq => k_is)
    (case lJarsEq => k_is)
    (case qJarsEq => k_is)
    (case kJarsEq => k_is)
    (case aPourEq => k_is)
    (case iPourEq => k_is)
    (case lPourEq => k_is)
    (case qPourEq => k_is)
    (case kPourEq => k_is)
    (case aPutEq => k_is)
    (case iPutEq => k_is)
    (case lPutEq => k_is)
    (case qPutEq => k_is)
    (case kPutEq => k_is)
    (case aDrawEq => k_is)
    (case iDrawEq => k_is)
    (case lDrawEq => k_is)
    (case qDrawEq => k_is)
    (case kDrawEq => k_is)
    (case aChangeEq => k_is)
    (case iChangeEq => k_is)
    (case lChangeEq => k_is)
    (case qChangeEq => k_is)
    (case kChangeEq => k_is)
    (case aLwell => k_is)
    (case lLwell => k_is)
    (case qLwell => k_is)
    (case kLwell => k_is)
    (case aLdraw => k_is)
    (case lLdraw => k_is)
    (case qLdraw => k_is)
    (case kLdraw => k_is)
    (case aLdrawn => k_is)
    (case lLdrawn => k_is)
    (case qLdrawn => k_is)
    (case kLdrawn => k_is)
    (case aLdue => k_is)
    (case lLdue => k_is)
    (case qLdue => k_is)
    (case kLdue => k_is)
    (case aLsaid => k_is)
    (case lLsaid => k_is)
    (case qLsaid => k_is)
    (case kLsaid => k_is)
    (case aLjarsright => k_is)
    (case lLjarsright => k_is)
    (case qLjarsright => k_is)
    (case kLjarsright => k_is)
    (case aLdeed => k_is)
    (case lLdeed => k_is)
    (case qLdeed => k_is)
    (case kLdeed => k_is)
    (case aLnamed => k_is)
    (case lLnamed => k_is)
    (case qLnamed => k_is)
    (case kLnamed => k_is)
    (case aLfields => k_is)
    (case lLfields => k_is)
    (case qLfields => k_is)
    (case kLfields => k_is)
    (case aLdeedsright => k_is)
    (case lLdeedsright => k_is)
    (case qLdeedsright => k_is)
    (case kLdeedsright => k_is)
    (case alaw => k_is)
    (case llaw => k_is)
    (case qlaw => k_is)
    (case klaw => k_is)
    (case pgJars => k_is)
    (case hdJars => k_is)
    (case poJars => k_is)
    (case saJars => k_is)
    (case mkJars => k_is)
    (case kcJars => k_is)
    (case nJars_sizes => k_is)
    (case pgPour => k_is)
    (case hdPour => k_is)
    (case poPour => k_is)
    (case saPour => k_is)
    (case mkPour => k_is)
    (case kcPour => k_is)
    (case nPour_a => k_is)
    (case nPour_b => k_is)
    (case pgPut => k_is)
    (case hdPut => k_is)
    (case poPut => k_is)
    (case saPut => k_is)
    (case mkPut => k_is)
    (case kcPut => k_is)
    (case nPut_a => k_is)
    (case nPut_k => k_is)
    (case pgDraw => k_is)
    (case hdDraw => k_is)
    (case poDraw => k_is)
    (case saDraw => k_is)
    (case mkDraw => k_is)
    (case kcDraw => k_is)
    (case nDraw_a => k_is)
    (case nDraw_k => k_is)
    (case pgChange => k_is)
    (case hdChange => k_is)
    (case poChange => k_is)
    (case saChange => k_is)
    (case mkChange => k_is)
    (case kcChange => k_is)
    (case nChange_a => k_is)
    (case nChange_b => k_is)
    (case pgDeed => k_is)
    (case hdDeed => k_is)
    (case poDeed => k_is)
    (case saDeed => k_is)
    (case yaChange => k_is)
    (case ymChange => k_is)
    (case yaDraw => k_is)
    (case ymDraw => k_is)
    (case yaJars => k_is)
    (case ymJars => k_is)
    (case yaPour => k_is)
    (case ymPour => k_is)
    (case yaPut => k_is)
    (case ymPut => k_is)
    (case yn => k_is)
    (case yt => k_is)
    (case isPour_Put => (exact KpR.kit_cls (by k_is) (by k_is) (by k_is) (by decide)))
    (case isPour_Draw => (exact KpR.kit_cls (by k_is) (by k_is) (by k_is) (by decide)))
    (case isPour_Pour => exact KpR.kit_self (by simp))
    (case isPour_Change => (exact KpR.kit_cls (by k_is) (by k_is) (by k_is) (by decide)))
    (case isPut_Put => exact KpR.kit_self (by simp))
    (case isPut_Draw => (exact KpR.kit_cls (by k_is) (by k_is) (by k_is) (by decide)))
    (case isPut_Pour => (exact KpR.kit_cls (by k_is) (by k_is) (by k_is) (by decide)))
    (case isPut_Change => (exact KpR.kit_cls (by k_is) (by k_is) (by k_is) (by decide)))
    (case isDraw_Put => (exact KpR.kit_cls (by k_is) (by k_is) (by k_is) (by decide)))
    (case isDraw_Draw => exact KpR.kit_self (by simp))
    (case isDraw_Pour => (exact KpR.kit_cls (by k_is) (by k_is) (by k_is) (by decide)))
    (case isDraw_Change => (exact KpR.kit_cls (by k_is) (by k_is) (by k_is) (by decide)))
    (case isChange_Put => (exact KpR.kit_cls (by k_is) (by k_is) (by k_is) (by decide)))
    (case isChange_Draw => (exact KpR.kit_cls (by k_is) (by k_is) (by k_is) (by decide)))
    (case isChange_Pour => (exact KpR.kit_cls (by k_is) (by k_is) (by k_is) (by decide)))
    (case isChange_Change => exact KpR.kit_self (by simp))
    (case isPour_Deed => (exact KpR.kit_cls (by k_is) (by k_is) (by k_is) (by decide)))
    (case isPut_Deed => (exact KpR.kit_cls (by k_is) (by k_is) (by k_is) (by decide)))
    (case isDraw_Deed => (exact KpR.kit_cls (by k_is) (by k_is) (by k_is) (by decide)))
    (case isChange_Deed => (exact KpR.kit_cls (by k_is) (by k_is) (by k_is) (by decide)))
    (case isJars_Jars => exact KpR.kit_self (by simp))
    (case nfPour_Put => k_is)
    (case nfPour_Draw => k_is)
    (case nfPour_Change => k_is)
    (case nfPut_Pour => k_is)
    (case nfPut_Draw => k_is)
    (case nfPut_Change => k_is)
    (case nfDraw_Pour => k_is)
    (case nfDraw_Put => k_is)
    (case nfDraw_Change => k_is)
    (case nfChange_Pour => k_is)
    (case nfChange_Put => k_is)
    (case nfChange_Draw => k_is)
    (case neMPour => k_is)
    (case alPour_NoneType => k_is)
    (case ikPour_NoneType => (exact KpR.kit_tc (by k_is) (by k_is) (by k_is)))
    (case alPour_int => k_is)
    (case ikPour_int => (exact KpR.kit_tc (by k_is) (by k_is) (by k_is)))
    (case alPour_tuple => k_is)
    (case ikPour_tuple => (exact KpR.kit_tc (by k_is) (by k_is) (by k_is)))
    (case alPour_list => k_is)
    (case ikPour_list => (exact KpR.kit_tc (by k_is) (by k_is) (by k_is)))
    (case neMPut => k_is)
    (case alPut_NoneType => k_is)
    (case ikPut_NoneType => (exact KpR.kit_tc (by k_is) (by k_is) (by k_is)))
    (case alPut_int => k_is)
    (case ikPut_int => (exact KpR.kit_tc (by k_is) (by k_is) (by k_is)))
    (case alPut_tuple => k_is)
    (case ikPut_tuple => (exact KpR.kit_tc (by k_is) (by k_is) (by k_is)))
    (case alPut_list => k_is)
    (case ikPut_list => (exact KpR.kit_tc (by k_is) (by k_is) (by k_is)))
    (case neMDraw => k_is)
    (case alDraw_NoneType => k_is)
    (case ikDraw_NoneType => (exact KpR.kit_tc (by k_is) (by k_is) (by k_is)))
    (case alDraw_int => k_is)
    (case ikDraw_int => (exact KpR.kit_tc (by k_is) (by k_is) (by k_is)))
    (case alDraw_tuple => k_is)
    (case ikDraw_tuple => (exact KpR.kit_tc (by k_is) (by k_is) (by k_is)))
    (case alDraw_list => k_is)
    (case ikDraw_list => (exact KpR.kit_tc (by k_is) (by k_is) (by k_is)))
    (case neMChange => k_is)
    (case alChange_NoneType => k_is)
    (case ikChange_NoneType => (exact KpR.kit_tc (by k_is) (by k_is) (by k_is)))
    (case alChange_int => k_is)
    (case ikChange_int => (exact KpR.kit_tc (by k_is) (by k_is) (by k_is)))
    (case alChange_tuple => k_is)
    (case ikChange_tuple => (exact KpR.kit_tc (by k_is) (by k_is) (by k_is)))
    (case alChange_list => k_is)
    (case ikChange_list => (exact KpR.kit_tc (by k_is) (by k_is) (by k_is)))
    (case neMJars => k_is)
    (case alJars_NoneType => k_is)
    (case ikJars_NoneType => (exact KpR.kit_tc (by k_is) (by k_is) (by k_is)))
    (case alJars_int => k_is)
    (case ikJars_int => (exact KpR.kit_tc (by k_is) (by k_is) (by k_is)))
    (case alJars_tuple => k_is)
    (case ikJars_tuple => (exact KpR.kit_tc (by k_is) (by k_is) (by k_is)))
    (case alJars_list => k_is)
    (case ikJars_list => (exact KpR.kit_tc (by k_is) (by k_is) (by k_is)))
    (case tyBadCount => k_is)
    (case oxBadCount => k_is)
    (case orBadCount => rfl)
    (case osBadCount => k_is)
    (case obBadCount => k_is)
    (case otBadCount => k_is)
    (case okBadCount => k_is)
    (case xgBadCount => k_is)
    (case xnBadCount => k_is)
    (case xdBadCount => k_is)
    (case nBadCount_what => k_is)
    (case nBadCount_count => k_is)
    (case euBadCount_BadCount => k_is)
    (case gMOSTJARS => k_is)
    (case gMOSTMUCH => k_is)
    (case zabs => k_is)
    (case zisinstance => k_is)
    (case zlen => k_is)
    (case zlist => k_is)
    (case zrange => k_is)
    (case ztuple => k_is)


