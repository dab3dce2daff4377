import PyProof.Rows.All
import Wide.All
import OpenK.AllK
import Wide.FinOn
import HandS.ForMost
import HandS.Strs
import HandS.SetFor
import KE.GoesMore
import HandS.TupMul
import HandS.Exc
import HandS.TryOnly
import HandS.ExcOwn
import HandS.ExcInit
import HandS.ExcField
import HandS.ExcIs
import HandS.WordsExc
import HandS.HeadHook2
import KE.DataMinMax
import KE.DataCmp
import KE.SortData
import HandS.IsInst
import HandS.Wide
import HandS.Deep
import HandS.DictComp
import HandS.Iter
import HandS.Sort
import HandS.More
import HandS.Conv
import KE.KDictWalk
import KE.KDictKeyed
import HandS.Zip
import HandS.Flow
import HandS.Lambda
import KE.KDflt
import KE.KExcIs
import HandS.HeadHook4
import HandS.HeadWalk
import KE.KStateDown
import Lean
import HandS.Defaults
import HandS.Head0
import HandS.Head1
import HandS.Head2
import HandS.HeadEnd
import HandS.HeadHook1
import PySem.Challenge.RW_onceonly_k07_memory_needs
set_option Elab.async false
set_option linter.all false
set_option maxRecDepth 100000
set_option maxHeartbeats 0
set_option synthInstance.maxSize 4096
set_option synthInstance.maxHeartbeats 0
set_option exponentiation.threshold 600
/-! PwI: set(xs) of a list of whole numbers, as a set that can be walked. -/
namespace Pw
open PySem PySem.Spec PyProof.Rows L2
/-- the set before its first member -/
def set0 (w : World) : Obj := { cls := .type "set", dict := none, data := .set #[] 0 (.fresh 0 0 (!w.params.followText "set-order")) }
section
variable {P : Program} {w : World} {A : Around} {E : Value → Shared → Prop} {s : Shared}
theorem set_of_list {l : Addr} {items : Array Value} (ns : List Int) {Q : Value → Shared → Prop} (hh : A.handled = none) (hl : s.heap.IsList l items) (hit : IntsAre items.toList ns) (hb : ns.length + 1 < scanBound)
    (k : ∀ (h' : Heap) (tk c : Nat), SetR w h' s.heap.objs.size (fun j => decide (j ∈ ns)) c → c ≤ ns.length → (∀ b o, s.heap.get? b = some o → h'.get? b = some o) → Q (.ref s.heap.objs.size) { s with heap := h', toks := tk }) :
    wpAny (model P w) A (call (.type "set") [.ref l]) Q E s := by
  have size : items.size = ns.length := by
    rw [← IntsAre.length hit, Array.length_toList]
  obtain ⟨c, tl, hmro⟩ := F.called_set.mro
  have m1 := F.called_set.made
  have m2 := F.called_set.sub
  have m3 := F.called_set.notType
  have m4 := F.called_set.canCreate
  have m5 := F.typeCall_set_1 (.ref l)
  refine wpAny_call (codeAny_of_tree ?_)
  show wpAny _ _ (callAny (.type "set") _) _ _ _
  refine wpAny_pure ⟨Code.quiet_builtin _ (by decide +kernel), codeAny_builtin F.entry_type_call ?_⟩
  rw [Around.under_plain (weight_type_call_type "set" [.ref l] []) rfl]
  repeat (any_goals (first | assumption | wp_step))
  refine codeAny_mono (code_set_led1 (.ref l) (E := E) (Q₁ := fun z s1 => z = .ref s.heap.objs.size ∧ s1 = { s with heap := s.heap.push (set0 w) }) ⟨rfl, rfl⟩) fun r s1 hr => ?_
  cases r with
  | error e => exact hr
  | ok fl =>
    cases fl with
    | ret z =>
      obtain ⟨rfl, rfl⟩ := hr
      have at0 : (s.heap.push (set0 w)).get? s.heap.objs.size = some (set0 w) := Heap.get?_push_size _ rfl
      have ty0 : Shared.TypeIs { s with heap := s.heap.push (set0 w) } (.ref s.heap.objs.size) "set" := ⟨_, at0, rfl⟩
      have m6 := F.called_set.init.lookup
      have m7 := F.called_set.init.bind (.ref s.heap.objs.size)
      repeat (any_goals (first | assumption | wp_step))
      refine codeAny_mono (codeAny_call_builtin (R := wants (fun v s2 => v = .none ∧ ∃ h' tk c, s2 = { s with heap := h', toks := tk } ∧ SetR w h' s.heap.objs.size (fun j => decide (j ∈ ns)) c ∧ c ≤ ns.length ∧ ∀ b o, s.heap.get? b = some o → h'.get? b = some o) E) F.called_set.init.plain F.entry_set_init (check_set_init_1 ty0 ?_)) fun r2 s2 hr2 => ?_
      · obtain ⟨⟨ocls, odict, odata, oslots⟩, hol, hcl, nl, hdl⟩ := hl
        simp only at hcl hdl
        subst hcl hdl
        have atL : (s.heap.push (set0 w)).get? l = some { cls := .type "list", dict := odict, data := .seq items nl, slots := oslots } := Heap.get?_push_of_some _ hol
        have n1 := F.sub_list_set
        have n2 := F.sub_list_frozenset
        have n3 : (Value.type "list" == Value.type "dict") = false := by decide
        have isL : (s.heap.push (set0 w)).IsList l items := ⟨_, atL, rfl, nl, rfl⟩
        have lt : l < s.heap.objs.size := Heap.lt_size hol
        have sz : (s.heap.push (set0 w)).objs.size = s.heap.objs.size + 1 := Heap.size_push ..
        unfold Builtin.«set.__init__» noKeywords Builtin.Frozenset.updateFrom
        generalize hPI : pyIter = PI
        wp_walk
        subst hPI
        refine wpAny_pyIter_list isL (wpAny_bind (wpAny_runValue ?_))
        have vals : ∀ (i : Nat) (v : Value), items[i]? = some v → ∃ z t, ns[i]? = some z ∧ v = .int z t := fun i v hv => by
          have hi : i < ns.length := size ▸ (Array.getElem?_eq_some_iff.mp hv).1
          obtain ⟨t, e⟩ := PyProof.Rows.IntsAre.int_at hit i v (by rw [Array.getElem?_toList]; exact hv)
          refine ⟨ns[i], t, List.getElem?_eq_getElem hi, e.trans ?_⟩
          rw [List.getD_eq_getElem?_getD, List.getElem?_eq_getElem hi] <;> rfl
        refine set_update_ints ((Walks.list (by simp [hh]) _ l (by rw [sz]; exact Nat.ne_of_lt (Nat.lt_succ_of_lt lt)) items).toS) s.heap.objs.size (by rw [sz]; simp only [List.mem_cons, List.not_mem_nil, or_false, not_or]; exact ⟨Nat.ne_of_lt (Nat.lt_succ_self _), Nat.ne_of_gt lt⟩) ns size hb vals (items.size - 0) 0 _ (by omega) (Nat.zero_le _)
          ⟨⟨_, Heap.get?_push_size _ rfl, rfl, rfl⟩, isL.push _⟩ ⟨0, Nat.le_refl 0, setR_new_at (Heap.get?_push_of_some _ at0)⟩ fun s' c' hm hc' hS' => ?_
        obtain ⟨h', g2, d', tk', os'⟩ := s'
        have e1 : g2 = s.gens := hm.gens
        have e2 : d' = s.drawn := hm.drawn
        have e3 : os' = s.os := hm.os
        subst e1 e2 e3
        show wpAny _ _ _ _ _ _
        refine wpAny_pure ?_
        show wpAny _ _ (ret Value.none) _ _ _
        refine wpAny_pure ⟨rfl, h', tk', c', rfl, hS', size ▸ hc', fun b o e => ?_⟩
        have hb0 : b < s.heap.objs.size := Heap.lt_size e
        exact hm.heap b o (by rw [sz]; simp only [List.mem_cons, List.not_mem_nil, or_false, not_or]; exact ⟨Nat.ne_of_lt hb0, Nat.ne_of_lt (Nat.lt_succ_of_lt hb0)⟩) (Heap.get?_push_of_some _ (Heap.get?_push_of_some _ e))
      · cases r2 with
        | error e => exact hr2
        | ok fl2 =>
          cases fl2 with
          | ret z =>
            obtain ⟨rfl, h', tk, c', rfl, g1, g2, g3⟩ := hr2
            repeat (any_goals (first | assumption | wp_step))
            exact k _ _ _ g1 g2 g3
          | _ => exact hr2.elim
    | _ => exact hr.elim
end
end Pw
/-! PwJ: enumerate(tuple) walked; tuple * 1. -/
namespace Pw
open PySem PySem.Spec PyProof.Rows L2
open AutoSeq1 (wpAny_loadPart')
theorem enum_new_tup (l : Addr) (items : Array Value) (n : Nat) (dct : Option Addr) (sl : Array (Option Value)) :
    Meets (Builtin.«enumerate.__new__» ⟨[.type "enumerate", .ref l], []⟩) (fun _ R s => s.heap.get? l = some { cls := .type "tuple", dict := dct, data := .seq items n, slots := sl } ∧
      R (.ok (.ret (.ref (s.heap.push { cls := .type "tuple_iterator", data := .fields #[.ref l, .int 0 0] }).objs.size)))
        { s with heap := (s.heap.push { cls := .type "tuple_iterator", data := .fields #[.ref l, .int 0 0] }).push { cls := .type "enumerate", data := .fields #[.none, .bool false, .ref s.heap.objs.size, rawInt 0, .none, .none] } }) :=
  .of_wp fun prog w A R s h => by
    obtain ⟨hp, g, d, tk, os⟩ := s
    obtain ⟨hl, h⟩ := h
    have hsub := sub_enumerate
    have isT : Heap.IsTuple (Shared.heap ⟨hp, g, d, tk, os⟩) l items := ⟨_, hl, rfl, n, rfl⟩
    wp_walk using wpAny_loadPart' hl
    refine wpAny_stack_any fun st => wpAny_pure ?_
    split
    · rename_i c _ _ _ _ _
      cases (c == Value.type "enumerate") <;> (wp_walk using wpAny_loadPart' hl, wpAny_pyIter_tuple isT; exact ⟨_, rfl, h⟩)
    · wp_walk using wpAny_loadPart' hl, wpAny_pyIter_tuple isT
      exact ⟨_, rfl, h⟩
section
variable {prog : Program} {w : World} {A : Around} {E : Value → Shared → Prop} {s : Shared}
theorem enum_of_tup {l : Addr} {items : Array Value} {Q : Value → Shared → Prop} (hL : s.heap.IsTuple l items)
    (k : ∀ h', IsEnum h' (s.heap.objs.size + 1) s.heap.objs.size 0 .none → h'.IsTupleIter s.heap.objs.size l 0 → h'.objs.size = s.heap.objs.size + 2 → (∀ b o, s.heap.get? b = some o → h'.get? b = some o) → Q (.ref (s.heap.objs.size + 1)) { s with heap := h' }) :
    wpAny (model prog w) A (call (.type "enumerate") [.ref l]) Q E s := by
  obtain ⟨⟨c, dct, dt, sl⟩, hl, hc, n, hd⟩ := hL
  have hc : c = .type "tuple" := hc
  have hd : dt = .seq items n := hd
  subst hc hd
  refine callType_new F.called_enumerate (by decide) (F.typeCall_enumerate_1 _) (F.newCall_enumerate_1 _) (fun obj => F.args_object_init_2 obj _) F.entry_enumerate_new (enum_new_tup l items n dct sl) ⟨hl, ?_⟩
  have sz : (s.heap.push { cls := .type "tuple_iterator", data := .fields #[.ref l, .int 0 0] }).objs.size = s.heap.objs.size + 1 := Heap.size_push ..
  show _ ∧ _
  have he := Heap.get?_push_size (s.heap.push { cls := .type "tuple_iterator", data := .fields #[.ref l, .int 0 0] }) (o := { cls := .type "enumerate", data := .fields #[.none, .bool false, .ref s.heap.objs.size, rawInt 0, .none, .none] }) rfl
  rw [sz] at he ⊢
  exact ⟨⟨_, he, rfl⟩, k _ he ⟨_, Heap.get?_push_of_some _ (Heap.get?_push_size _ rfl), rfl, rfl⟩ (by rw [Heap.size_push, sz]) fun b o x => Heap.get?_push_of_some _ (Heap.get?_push_of_some _ x)⟩
theorem enum_end_tup {e it l : Addr} {i : Nat} {items : Array Value} {old : Value} {Q : Option Value → Shared → Prop} (hh : A.handled = none) (he : IsEnum s.heap e it i old) (hit : s.heap.IsTupleIter it l i) (hl : s.heap.IsTuple l items) (hx : items[i]? = none)
    (k : ∀ h', Heap.ExtBut it s.heap h' → Q none { s with heap := h' }) : wpAny (model prog w) A (pyNext (.ref e)) Q E s := by
  have ty : s.TypeIs (.ref e) "enumerate" := ⟨_, he, rfl⟩
  unfold pyNext
  refine wpAny_bind (wpAny_attempt (wpAny_callSpecial?_slot (name := Str.ofString "__next__") ty F.slot_enumerate_next (wpAny_call_entry F.slot_enumerate_next ty F.entry_enumerate_next ?_ (F.args_enumerate_next_1 _))))
  show wpAny _ _ (field (.ref e) 2 >>= _) _ _ _
  refine wpAny_bind (wpAny_field he rfl (x := .ref it) rfl (wpAny_bind (wpAny_nextOf_tuple_end hh hit hl hx fun h' x he' ⟨o, ho, hc⟩ => ?_)))
  refine wpAny_bind (wpAny_isInstance (T := "StopIteration") (b := true) ⟨o, ho, hc⟩ isSubtype_stop ?_)
  exact wpAny_pure (k _ he')
end
/-- the tuple at a, each item in a new pair with its place -/
def ItEnT (K : PySem.W.Frag) (a : Addr) : It where
  go := fun i H => ∃ (xs : List V) (x : V), SqT K H a xs ∧ xs[i]? = some x
  yld := fun i H v H' => ∃ T x, v = .ref T ∧ H T = none ∧ H' = upd H T (.tup [.int (i : Nat), x]) ∧ ∀ xs, SqT K H a xs → xs[i]? = some x
  stop := fun i H => ∃ xs : List V, SqT K H a xs ∧ xs.length ≤ i
theorem turn_enT {P : Program} {w : World} {K : PySem.W.Frag} {elts : List Expr} {kk : Nat} {tpos : Pos} (a e it : Addr) :
    Turn P w K (.Tuple elts kk tpos) (ItEnT K a) [e, it] e (fun i h => (∃ old, IsEnum h e it ((i : Nat) : Int) old) ∧ h.IsTupleIter it a i ∧ e ≠ it ∧ a ≠ it ∧ e ≠ a) where
  mem := by simp
  obj := fun i h st b hb => by
    obtain ⟨⟨old, he⟩, ⟨o, ho, hc, hd⟩, _⟩ := st
    rcases (by simpa using hb : b = e ∨ b = it) with z | z
    · rw [z]; exact ⟨_, he, fun v q => nomatch q⟩
    · rw [z]; exact ⟨o, ho, fun v q => by rw [hd] at q; cases q⟩
  keep := fun i h h' st k => let ⟨⟨old, he⟩, hi, hne⟩ := st; ⟨⟨old, k e (by simp) _ he⟩, hi.at fun o q => k it (by simp) o q, hne⟩
  item := by
    intro X hP hw hK hc i pins s σ H E I hf st hg
    subst hP hw hK
    obtain ⟨⟨old, he⟩, hit, hne, hai, hea⟩ := st
    obtain ⟨xs, x, hq, hx⟩ := hg
    obtain ⟨its, rv, p, hz⟩ := I.tuple hq
    obtain ⟨u, hu, ru⟩ := rv.get hx
    have isT : s.heap.IsTuple a its.toArray := p
    have hil : i < its.toArray.size := by
      rw [List.size_toArray]
      exact (List.getElem?_eq_some_iff.mp hu).1
    have hel : e < s.heap.objs.size := Heap.lt_size he
    have hitl : it < s.heap.objs.size := by obtain ⟨_, q, _⟩ := hit; exact Heap.lt_size q
    refine wpAny_pyNext_enum_itemD (Draws.tuple (A := X.A.in1) (show X.A.in1.handled = none from I.ok.hd hc) it a hai its.toArray) he ⟨hit, isT⟩ hil hne (by simp [hne, hea]) fun u' h' tk hP ho hs' hT hsz hk => ?_
    have hu' : u' = u := by
      have : its[i]? = some u' := by simpa using hP
      rw [hu] at this
      exact (Option.some.inj this).symm
    subst hu'
    obtain ⟨hit', isT'⟩ := hs'
    refine ⟨_, rfl, wpAny_letOwnedTupleGo_enum (s := { s with heap := h', toks := tk + 1 }) ho fun h'' he' sb => ?_⟩
    have hT2 : h''.get? s.heap.objs.size = some { cls := .type "tuple", data := .seq #[.int i tk, u'] } := (sb.2 _ (Nat.ne_of_gt hel)).trans hT
    have new : ObjOk X.prog X.w (upd H s.heap.objs.size (.tup [.int (i : Nat), x])) h'' s.heap.objs.size (.tup [.int (i : Nat), x]) :=
      ⟨by show 2 ≤ sizeLine; decide, [.int i tk, u'], .cons ⟨_, rfl⟩ (.cons ru .nil), ⟨_, hT2, rfl, _, rfl⟩⟩
    have I1 : L2.Inv X pins σ (upd H s.heap.objs.size (.tup [.int (i : Nat), x])) { s with heap := h'', toks := tk + 1 } :=
      I.turnedNew (ch := [e, it]) (fun b ob hb q => (sb.2 b (fun z => hb (by simp [z]))).trans (hk b ob (fun z => hb (by simp [z])) (fun z => hb (by simp [z])) q)) hf (Nat.le_refl _) new
    refine ⟨.ref s.heap.objs.size, _, I1, rfl, ⟨_, x, rfl, I.hok.fresh (Nat.le_refl _), rfl, fun ys hy => by rw [I.tuple_inj hy hq]; exact hx⟩, ⟨⟨u', ?_⟩, hit'.at fun o q => (sb.2 it (Ne.symm hne)).trans q, hne, hai, hea⟩, fun b hb => ?_⟩
    · rw [show ((i + 1 : Nat) : Int) = (i : Int) + 1 by omega]
      exact he'
    · have hb' : b < s.heap.objs.size := by
        rcases (by simpa using hb : b = e ∨ b = it) with z | z
        · rw [z]; exact hel
        · rw [z]; exact hitl
      rw [upd_ne (Nat.ne_of_lt hb')]
      exact (hf b hb).1
  done := by
    intro X hP hw hK hc i pins s σ H E I hf st hg
    subst hP hw hK
    obtain ⟨⟨old, he⟩, hit, hne, hai, hea⟩ := st
    obtain ⟨xs, hq, hx⟩ := hg
    obtain ⟨its, rv, p, hz⟩ := I.tuple hq
    obtain ⟨f0, f1, f2, f3, f4, f5⟩ := hf it (by simp)
    have hl := rv.length
    have hiN : its.toArray.size ≤ i := by rw [List.size_toArray]; omega
    exact enum_end_tup (I.ok.hd hc) he hit (show s.heap.IsTuple a its.toArray from p) (by simp; omega) fun h' eb => ⟨rfl, I.turned (t' := s.toks) (fun b o hb e => eb b o hb e) f0 f1 f3 f4 f5⟩
  self := fun A i s Q E st h => let ⟨⟨_, he⟩, _⟩ := st; wpAny_pyIter_enum he h
def iEnT (K : PySem.W.Frag) (ta : TA) : TI := fun σ H R => ta σ H fun vs H1 => ∃ a xs, vs = [.ref a] ∧ SqT K H1 a xs ∧ R (ItEnT K a) H1
theorem pi_enT {X : Cx} {e : Expr} {ta : TA} {p pos tpos : Pos} {elts : List Expr} {kk : Nat} (hg : Gl X "enumerate") (hm : X.mg "enumerate" = none) (ha : PA X [e] ta) (hs : starEach [e] X.env = [(false, eval e X.env)] := by rfl) :
    PI X (.Tuple elts kk tpos) (.Call (.Name "enumerate" p) [e] [] pos) (iEnT X.K ta) := by
  refine ⟨fun pins s σ H R I h => Call_ (ld_blt I hg hm boot_enumerate (PyProof.Rows.callWith_type1 (thn (ha.run pos pins s σ H _ I h) fun us s1 ⟨vs, H1, I1, r1, q1⟩ => ?_) hs rfl))⟩
  obtain ⟨a, xs, ex, hq, q⟩ := q1
  subst ex
  cases r1 with
  | cons r rr =>
    cases rr
    cases r
    obtain ⟨its, rv, p', hz⟩ := I1.tuple hq
    have isT : s1.heap.IsTuple a its.toArray := p'
    have al : a < s1.heap.objs.size := by obtain ⟨_, z, _⟩ := isT; exact Heap.lt_size z
    refine enum_of_tup isT fun h' he hit hsz hk => wpAny_pyIter_enum he ?_
    have I2 : L2.Inv X pins σ H1 { s1 with heap := h' } := I1.kept (t' := s1.toks) hk
    refine ⟨s1.heap.objs.size + 1, [s1.heap.objs.size + 1, s1.heap.objs.size], _, _, H1, rfl, I2, turn_enT a _ _, ⟨⟨_, he⟩, hit, Nat.succ_ne_self _, Nat.ne_of_lt al, Nat.ne_of_gt (Nat.lt_succ_of_lt al)⟩, fun b hb => ?_, q⟩
    have hb' : s1.heap.objs.size ≤ b := by
      rcases (by simpa using hb : b = s1.heap.objs.size + 1 ∨ b = s1.heap.objs.size) with z | z
      · rw [z]; exact Nat.le_succ _
      · rw [z]; exact Nat.le_refl _
    exact I1.fpOk hb' (I1.hok.fresh hb')

/-! ### t * 1 is t -/
theorem tup_mul_one (l : Addr) (items : Array Value) (n : Nat) (dd : Option Addr) (sl : Array (Option Value)) (u : Tok) :
    Meets (Builtin.«tuple.__mul__» ⟨[.ref l, .int 1 u], []⟩) (fun _ R s => s.heap.get? l = some { cls := .type "tuple", dict := dd, data := .seq items n, slots := sl } ∧ R (.ok (.ret (Value.ref l))) s) :=
  .of_wp fun prog w A R s h => by
    obtain ⟨hp, g, d, tk, os⟩ := s
    obtain ⟨hl, h⟩ := h
    have f1 := AutoSeq1.idx_int
    have c1 : (items.isEmpty || (1 : Int) == 1) = true := by simp
    wp_walk using wpAny_loadPart' hl
    repeat (first
      | (refine wpAny_ite_false (by decide) ?_; wp_walk using wpAny_loadPart' hl)
      | (refine wpAny_ite_true (by simp) ?_; wp_walk using wpAny_loadPart' hl))
    exact ⟨_, rfl, h⟩
def rRepT1 (K : PySem.W.Frag) : R2 := fun x y H Q => ∃ l xs, x = .ref l ∧ y = .int 1 ∧ SqT K H l xs ∧ Q (.ref l) H
theorem op_repT1 {X : Cx} : OpR X (binaryOp .Mult) (rRepT1 X.K) := by
  intro pins s σ H x y v u Q I rx ry h
  obtain ⟨l, xs, rfl, rfl, hT, q⟩ := h
  cases rx
  obtain ⟨t, rfl⟩ := ry
  obtain ⟨its, r, ⟨⟨cls, dd, data, sl⟩, ho, hc, n, hd⟩, hs⟩ := I.tuple hT
  simp only at hc hd
  subst hc hd
  refine wpAny_binaryOp_repeat_ref (T := "tuple") (U := "int") (by decide) ⟨_, ho, rfl⟩ (fun s' => typeIs_int s' 1 t) noFill_tuple_mul F.fills_int_mul F.slot_int_rmul repeat_tuple F.slot_int_index.lookup ?_
  refine call_meets F.slot_int_rmul (typeIs_int s 1 t) F.entry_int_rmul (F.args_int_rmul_2 _ _) (int_rmul_tuple 1 t l its.toArray n dd sl) ⟨ho, rfl, ⟨_, ho, rfl⟩, ?_⟩
  exact call_meets F.slot_tuple_mul ⟨_, ho, rfl⟩ F.entry_tuple_mul (F.args_tuple_mul_2 _ _) (tup_mul_one l its.toArray n dd sl t) ⟨ho, .ref l, H, I, rfl, q⟩
end Pw
/-! QA: pure data D, its standing in the abstract heap (Rp), what a def's slots hold (ER), what an expression is worth (EvD). -/
namespace Pw
open PySem L2

inductive D where
  | non | bl (b : Bool) | int (i : Int) | str (s : Str) | byt (b : Array UInt8)
  | lst (xs : List D) | tup (xs : List D)
  | dk (ks : List Key) (xs : List D) | dt (ks : List (List Key)) (xs : List D) | ob (C : Addr) (ns : List Str) (xs : List D)

mutual
def Rp (K : PySem.W.Frag) (H : Hp) : D → V → Prop
  | .non, v => v = .non
  | .bl b, v => v = .bl b
  | .int i, v => v = .int i
  | .str s, v => v = .str s
  | .byt b, v => v = .byt b
  | .lst ds, v => ∃ a xs, v = .ref a ∧ SqL K H a xs ∧ RpL K H ds xs
  | .tup ds, v => ∃ a xs, v = .ref a ∧ H a = some (.tup xs) ∧ RpL K H ds xs
  | .dk ks ds, v => ∃ a xs, v = .ref a ∧ Rd H a (.dK (ks.zip xs)) ∧ ks.length = ds.length ∧ RpL K H ds xs
  | .dt ks ds, v => ∃ a xs, v = .ref a ∧ Rd H a (.dT (ks.zip xs)) ∧ ks.length = ds.length ∧ RpL K H ds xs
  | .ob C ns ds, v => ∃ a dx xs, v = .ref a ∧ H a = some (.ins C dx (ns.zip xs)) ∧ ns.length = ds.length ∧ RpL K H ds xs
def RpL (K : PySem.W.Frag) (H : Hp) : List D → List V → Prop
  | [], xs => xs = []
  | d :: ds, xs => ∃ x r, xs = x :: r ∧ Rp K H d x ∧ RpL K H ds r
end

def Ex (H H' : Hp) : Prop := ∀ a o, H a = some o → H' a = some o
theorem Ex.refl (H : Hp) : Ex H H := fun _ _ h => h
theorem Ex.trans {H H1 H2 : Hp} (a : Ex H H1) (b : Ex H1 H2) : Ex H H2 := fun x o h => b x o (a x o h)
theorem Ex.new {H : Hp} {p : Addr} {o : HO} (h : H p = none) : Ex H (upd H p o) := fun a u e => by
  rw [upd_ne (ne_of_none e h)]
  exact e
theorem ex_rd {H H' : Hp} {a : Addr} {u : HO} (e : Ex H H') (h : Rd H a u) : Rd H' a u := by
  rcases h with h | ⟨o, h⟩
  · exact Or.inl (e a _ h)
  · exact Or.inr ⟨o, e a _ h⟩
theorem ex_l {K : PySem.W.Frag} {H H' : Hp} {a : Addr} {xs : List V} (e : Ex H H') (h : SqL K H a xs) : SqL K H' a xs := by
  rcases h with h | h
  · exact Or.inl (ex_rd e h)
  · exact Or.inr h
theorem ex_t {K : PySem.W.Frag} {H H' : Hp} {a : Addr} {xs : List V} (e : Ex H H') (h : SqT K H a xs) : SqT K H' a xs := by
  rcases h with h | h
  · exact Or.inl (ex_rd e h)
  · exact Or.inr h

mutual
theorem ex_s {K : PySem.W.Frag} {H H' : Hp} {a : Addr} {xs : List V} (e : Ex H H') (h : H a = some (.tup xs)) : SqT K H' a xs := SqT.of (e _ _ h)
theorem Rp.mono {K : PySem.W.Frag} {H H' : Hp} (e : Ex H H') : ∀ (d : D) (v : V), Rp K H d v → Rp K H' d v
  | .non, _, h => h
  | .bl _, _, h => h
  | .int _, _, h => h
  | .str _, _, h => h
  | .byt _, _, h => h
  | .lst ds, _, ⟨a, xs, h1, h2, h3⟩ => ⟨a, xs, h1, ex_l e h2, RpL.mono e ds xs h3⟩
  | .tup ds, _, ⟨a, xs, h1, h2, h3⟩ => ⟨a, xs, h1, e _ _ h2, RpL.mono e ds xs h3⟩
  | .dk _ ds, _, ⟨a, xs, h1, h2, h0, h3⟩ => ⟨a, xs, h1, ex_rd e h2, h0, RpL.mono e ds xs h3⟩
  | .dt _ ds, _, ⟨a, xs, h1, h2, h0, h3⟩ => ⟨a, xs, h1, ex_rd e h2, h0, RpL.mono e ds xs h3⟩
  | .ob _ _ ds, _, ⟨a, dx, xs, h1, h2, h0, h3⟩ => ⟨a, dx, xs, h1, e _ _ h2, h0, RpL.mono e ds xs h3⟩
theorem RpL.mono {K : PySem.W.Frag} {H H' : Hp} (e : Ex H H') : ∀ (ds : List D) (xs : List V), RpL K H ds xs → RpL K H' ds xs
  | [], _, h => h
  | d :: ds, _, ⟨x, r, h1, h2, h3⟩ => ⟨x, r, h1, Rp.mono e d x h2, RpL.mono e ds r h3⟩
end
theorem RpL.length {K : PySem.W.Frag} {H : Hp} : ∀ {ds : List D} {xs : List V}, RpL K H ds xs → xs.length = ds.length
  | [], _, h => by cases h; rfl
  | _ :: ds, _, ⟨x, r, h1, _, h3⟩ => by subst h1; simp [RpL.length h3]
theorem RpL.get {K : PySem.W.Frag} {H : Hp} : ∀ {ds : List D} {xs : List V} {i : Nat} {d : D}, RpL K H ds xs → ds[i]? = some d → ∃ v, xs[i]? = some v ∧ Rp K H d v
  | [], _, _, _, _, e => by simp at e
  | _ :: ds, _, 0, _, ⟨x, r, h1, h2, _⟩, e => by subst h1; simp at e; subst e; exact ⟨x, rfl, h2⟩
  | _ :: ds, _, i + 1, d, ⟨x, r, h1, _, h3⟩, e => by
    subst h1
    obtain ⟨v, q1, q2⟩ := RpL.get (i := i) (d := d) h3 (by simpa using e)
    exact ⟨v, by simpa using q1, q2⟩
theorem RpL.get' {K : PySem.W.Frag} {H : Hp} : ∀ {ds : List D} {xs : List V} {i : Nat} {x : V}, RpL K H ds xs → xs[i]? = some x → ∃ d, ds[i]? = some d ∧ Rp K H d x
  | [], _, _, _, h, e => by cases h; simp at e
  | d :: ds, _, 0, _, ⟨x, r, h1, h2, _⟩, e => by subst h1; simp at e; subst e; exact ⟨d, rfl, h2⟩
  | _ :: ds, _, i + 1, _, ⟨x, r, h1, _, h3⟩, e => by
    subst h1
    obtain ⟨d, q1, q2⟩ := RpL.get' (i := i) h3 (by simpa using e)
    exact ⟨d, by simpa using q1, q2⟩
theorem RpL.append {K : PySem.W.Frag} {H : Hp} : ∀ {ds es : List D} {xs ys : List V}, RpL K H ds xs → RpL K H es ys → RpL K H (ds ++ es) (xs ++ ys)
  | [], _, _, _, h, q => by cases h; exact q
  | _ :: ds, _, _, _, ⟨x, r, h1, h2, h3⟩, q => by subst h1; exact ⟨x, _, rfl, h2, RpL.append h3 q⟩
theorem RpL.one {K : PySem.W.Frag} {H : Hp} {d : D} {x : V} (h : Rp K H d x) : RpL K H [d] [x] := ⟨x, [], rfl, h, rfl⟩
theorem RpL.set {K : PySem.W.Frag} {H : Hp} : ∀ {ds : List D} {xs : List V} {i : Nat} {d : D} {v : V}, RpL K H ds xs → Rp K H d v → RpL K H (ds.set i d) (xs.set i v)
  | [], _, _, _, _, h, _ => by cases h; rfl
  | _ :: ds, _, 0, _, _, ⟨x, r, h1, _, h3⟩, q => by subst h1; exact ⟨_, r, rfl, q, h3⟩
  | _ :: ds, _, i + 1, _, _, ⟨x, r, h1, h2, h3⟩, q => by subst h1; exact ⟨x, _, rfl, h2, RpL.set h3 q⟩
theorem RpL.ints {K : PySem.W.Frag} {H : Hp} : ∀ {ns : List Int} {xs : List V}, RpL K H (ns.map D.int) xs → xs = ns.map V.int
  | [], _, h => h
  | n :: ns, _, ⟨x, r, h1, h2, h3⟩ => by
    subst h1
    have e : x = V.int n := h2
    rw [e, RpL.ints h3]
    rfl
theorem RpL.ofInts {K : PySem.W.Frag} {H : Hp} : ∀ (ns : List Int), RpL K H (ns.map D.int) (ns.map V.int)
  | [] => rfl
  | n :: ns => ⟨.int n, ns.map V.int, rfl, rfl, RpL.ofInts ns⟩
theorem RpL.take {K : PySem.W.Frag} {H : Hp} : ∀ {ds : List D} {xs : List V} (n : Nat), RpL K H ds xs → RpL K H (ds.take n) (xs.take n)
  | _, _, 0, _ => by simp [RpL]
  | [], _, _ + 1, h => by cases h; rfl
  | _ :: ds, _, n + 1, ⟨x, r, h1, h2, h3⟩ => by subst h1; exact ⟨x, _, rfl, h2, RpL.take n h3⟩
theorem RpL.drop {K : PySem.W.Frag} {H : Hp} : ∀ {ds : List D} {xs : List V} (n : Nat), RpL K H ds xs → RpL K H (ds.drop n) (xs.drop n)
  | _, _, 0, h => by simpa using h
  | [], _, _ + 1, h => by cases h; rfl
  | _ :: ds, _, n + 1, ⟨x, r, h1, _, h3⟩ => by subst h1; simpa using RpL.drop n h3

/-! ### parts of the heap -/
open Classical in
noncomputable def hid (m : Addr → Prop) (H : Hp) : Hp := fun a => if m a then none else H a
theorem hid_out {m : Addr → Prop} {H : Hp} {a : Addr} (h : ¬ m a) : hid m H a = H a := by unfold hid; rw [if_neg h]
theorem hid_in {m : Addr → Prop} {H : Hp} {a : Addr} (h : m a) : hid m H a = none := by unfold hid; rw [if_pos h]
theorem hid1 {H : Hp} {a b : Addr} (h : b ≠ a) : hid (fun c => c = a) H b = H b := hid_out (m := fun c => c = a) h
theorem of_hid {m : Addr → Prop} {H : Hp} {a : Addr} {o : HO} (h : hid m H a = some o) : ¬ m a ∧ H a = some o := by
  by_cases q : m a
  · rw [hid_in q] at h; cases h
  · rw [hid_out q] at h; exact ⟨q, h⟩
theorem hid_ex {m : Addr → Prop} {H H' : Hp} (e : Ex H H') : Ex (hid m H) (hid m H') := fun a o h => by
  obtain ⟨q, h⟩ := of_hid h
  rw [hid_out q]; exact e a o h
theorem hid_le {m m' : Addr → Prop} {H : Hp} (e : ∀ a, m a → m' a) : Ex (hid m' H) (hid m H) := fun a o h => by
  obtain ⟨q, h⟩ := of_hid h
  rw [hid_out fun z => q (e a z)]; exact h
theorem hid_all {m : Addr → Prop} {H : Hp} : Ex (hid m H) H := fun a o h => (of_hid h).2
theorem hid_no {H : Hp} : hid (fun _ => False) H = H := by funext a; rw [hid_out (fun z => z)]
theorem hid_upd {m : Addr → Prop} {H : Hp} {a : Addr} {o : HO} (h : m a) : hid m (upd H a o) = hid m H := by
  funext b
  by_cases q : m b
  · rw [hid_in q, hid_in q]
  · rw [hid_out q, hid_out q, upd_ne fun e => q (by rw [e]; exact h)]
theorem hid_new {m : Addr → Prop} {H : Hp} {p : Addr} {o : HO} (h : ¬ m p) : hid m (upd H p o) = upd (hid m H) p o := by
  funext b
  by_cases e : b = p
  · subst e; rw [hid_out h, upd_same, upd_same]
  · rw [upd_ne e]
    by_cases q : m b
    · rw [hid_in q, hid_in q]
    · rw [hid_out q, hid_out q, upd_ne e]
/-- from one mask to another, where the second hides nothing that the first shows -/
theorem hid_two {m m' : Addr → Prop} {H H' : Hp} (e : ∀ a o, ¬ m a → H a = some o → ¬ m' a ∧ H' a = some o) : Ex (hid m H) (hid m' H') := fun a o h => by
  obtain ⟨q, h⟩ := of_hid h
  obtain ⟨q', h'⟩ := e a o q h
  rw [hid_out q']; exact h'

/-! ### what the slots hold -/
/-- the kinds of own nodes -/
inductive Nk where
  | l | dk (ks : List Key) | dt (ks : List (List Key)) | o (C : Addr) (ns : List Str) | bad
/-- own objects within own objects; what is frozen stands as data -/
inductive Tr where
  | f (d : D) | n (k : Nk) (ts : List Tr)
mutual
/-- a tree read as data -/
def Tr.fr : Tr → D
  | .f d => d
  | .n .l ts => .lst (Tr.frs ts)
  | .n (.dk ks) ts => .dk ks (Tr.frs ts)
  | .n (.dt ks) ts => .dt ks (Tr.frs ts)
  | .n (.o C ns) ts => .ob C ns (Tr.frs ts)
  | .n .bad _ => .non
def Tr.frs : List Tr → List D
  | [] => []
  | t :: ts => Tr.fr t :: Tr.frs ts
end
theorem Tr.frs_f : ∀ ds : List D, Tr.frs (ds.map .f) = ds
  | [] => rfl
  | d :: ds => by
    show Tr.fr (.f d) :: Tr.frs (ds.map .f) = _
    rw [Tr.frs_f ds]
    rfl
theorem Tr.frs_map {α : Type} (f : α → Tr) : ∀ xs : List α, Tr.frs (xs.map f) = xs.map fun x => (f x).fr
  | [] => rfl
  | x :: xs => by
    show Tr.fr (f x) :: Tr.frs (xs.map f) = _
    rw [Tr.frs_map f xs]
    rfl
/-- an own object whose contents are frozen -/
def Tr.of : D → Tr
  | .lst ds => .n .l (ds.map .f)
  | .dk ks ds => .n (.dk ks) (ds.map .f)
  | .dt ks ds => .n (.dt ks) (ds.map .f)
  | .ob C ns ds => .n (.o C ns) (ds.map .f)
  | _ => .n .bad []
inductive Bd where
  | an | im (d : D) | rd (d : D) | tr (t : Tr) | tm (t : Tr) | tq (t : Tr) | pn (v : V)
@[reducible] def Bd.ow (d : D) : Bd := .tr (Tr.of d)
@[reducible] def Bd.mu (d : D) : Bd := .tm (Tr.of d)
def isMu : Option Bd → Bool
  | some (.tm _) => true
  | _ => false
/-- an own tree's slot -/
def own : Option Bd → Option Tr
  | some (.tr t) => some t
  | some (.tm t) => some t
  | _ => none

/-- something stands there, and no tuple -/
def Nt (o : Option HO) : Prop := o ≠ none ∧ ∀ xs, o ≠ some (.tup xs)
theorem Nt.ex {H H' : Hp} {a : Addr} (n : Nt (H a)) (e : Ex H H') : Nt (H' a) := by
  cases q : H a with
  | none => exact absurd q n.1
  | some o => rw [e a o q, ← q]; exact n
/-- an own object at a, its contents standing in B -/
def Cell (K : PySem.W.Frag) (B H : Hp) (a : Addr) : D → Prop
  | .lst ds => ∃ xs, H a = some (.lst xs) ∧ RpL K B ds xs
  | .dk ks ds => ∃ xs, H a = some (.dK (ks.zip xs)) ∧ ks.length = ds.length ∧ RpL K B ds xs
  | .dt ks ds => ∃ xs, H a = some (.dT (ks.zip xs)) ∧ ks.length = ds.length ∧ RpL K B ds xs
  | .ob C ns ds => ∃ dx xs, H a = some (.ins C dx (ns.zip xs)) ∧ ns.length = ds.length ∧ RpL K B ds xs
  | _ => False
theorem Cell.mono {K : PySem.W.Frag} {B B' H H' : Hp} {a : Addr} {d : D} (e : Ex B B') (q : H' a = H a) (h : Cell K B H a d) : Cell K B' H' a d := by
  cases d with
  | lst ds => obtain ⟨xs, h1, h2⟩ := h; exact ⟨xs, by rw [q]; exact h1, RpL.mono e _ _ h2⟩
  | dk ks ds => obtain ⟨xs, h1, h0, h2⟩ := h; exact ⟨xs, by rw [q]; exact h1, h0, RpL.mono e _ _ h2⟩
  | dt ks ds => obtain ⟨xs, h1, h0, h2⟩ := h; exact ⟨xs, by rw [q]; exact h1, h0, RpL.mono e _ _ h2⟩
  | ob C ns ds => obtain ⟨dx, xs, h1, h0, h2⟩ := h; exact ⟨dx, xs, by rw [q]; exact h1, h0, RpL.mono e _ _ h2⟩
  | _ => exact h
theorem Cell.some {K : PySem.W.Frag} {B H : Hp} {a : Addr} {d : D} (h : Cell K B H a d) : Nt (H a) := by
  cases d with
  | lst ds => obtain ⟨xs, h1, _⟩ := h; rw [h1]; exact ⟨by simp, by simp⟩
  | dk ks ds => obtain ⟨xs, h1, _⟩ := h; rw [h1]; exact ⟨by simp, by simp⟩
  | dt ks ds => obtain ⟨xs, h1, _⟩ := h; rw [h1]; exact ⟨by simp, by simp⟩
  | ob C ns ds => obtain ⟨dx, xs, h1, _⟩ := h; rw [h1]; exact ⟨by simp, by simp⟩
  | _ => exact h.elim
/-- an own object read as data -/
theorem Cell.rp {K : PySem.W.Frag} {B H H' : Hp} {a : Addr} {d : D} (e : Ex B H') (q : H' a = H a) (h : Cell K B H a d) : Rp K H' d (.ref a) := by
  cases d with
  | lst ds => obtain ⟨xs, h1, h2⟩ := h; exact ⟨a, xs, rfl, SqL.of (by rw [q]; exact h1), RpL.mono e _ _ h2⟩
  | dk ks ds => obtain ⟨xs, h1, h0, h2⟩ := h; exact ⟨a, xs, rfl, .inl (by rw [q]; exact h1), h0, RpL.mono e _ _ h2⟩
  | dt ks ds => obtain ⟨xs, h1, h0, h2⟩ := h; exact ⟨a, xs, rfl, .inl (by rw [q]; exact h1), h0, RpL.mono e _ _ h2⟩
  | ob C ns ds => obtain ⟨dx, xs, h1, h0, h2⟩ := h; exact ⟨a, dx, xs, rfl, by rw [q]; exact h1, h0, RpL.mono e _ _ h2⟩
  | _ => exact h.elim

/-! ### own trees in the heap -/
def NodeAt (H : Hp) (a : Addr) (xs : List V) : Nk → Prop
  | .l => H a = some (.lst xs)
  | .dk ks => H a = some (.dK (ks.zip xs)) ∧ ks.length = xs.length
  | .dt ks => H a = some (.dT (ks.zip xs)) ∧ ks.length = xs.length
  | .o C ns => ∃ dx, H a = some (.ins C dx (ns.zip xs)) ∧ ns.length = xs.length
  | .bad => False
theorem NodeAt.eq {H H' : Hp} {a : Addr} {xs : List V} {k : Nk} (q : H' a = H a) (h : NodeAt H a xs k) : NodeAt H' a xs k := by
  cases k with
  | l => exact q.trans h
  | dk ks => exact ⟨q.trans h.1, h.2⟩
  | dt ks => exact ⟨q.trans h.1, h.2⟩
  | o C ns => obtain ⟨dx, h1, h2⟩ := h; exact ⟨dx, q.trans h1, h2⟩
  | bad => exact h
theorem NodeAt.nt {H : Hp} {a : Addr} {xs : List V} {k : Nk} (h : NodeAt H a xs k) : Nt (H a) := by
  cases k with
  | l => rw [show H a = _ from h]; exact ⟨by simp, by simp⟩
  | dk ks => rw [h.1]; exact ⟨by simp, by simp⟩
  | dt ks => rw [h.1]; exact ⟨by simp, by simp⟩
  | o C ns => obtain ⟨dx, h1, h2⟩ := h; rw [h1]; exact ⟨by simp, by simp⟩
  | bad => exact h.elim
mutual
def Ow (K : PySem.W.Frag) (B H : Hp) : Tr → V → List Addr → Prop
  | .f d, v, as => as = [] ∧ Rp K B d v
  | .n k ts, v, as => ∃ a xs rest, v = .ref a ∧ as = a :: rest ∧ NodeAt H a xs k ∧ OwL K B H ts xs rest
def OwL (K : PySem.W.Frag) (B H : Hp) : List Tr → List V → List Addr → Prop
  | [], xs, as => xs = [] ∧ as = []
  | t :: ts, xs, as => ∃ x r a1 a2, xs = x :: r ∧ as = a1 ++ a2 ∧ Ow K B H t x a1 ∧ OwL K B H ts r a2
end
mutual
theorem Ow.mono {K : PySem.W.Frag} {B B' H H' : Hp} (e : Ex B B') : ∀ (t : Tr) (v : V) (as : List Addr), (∀ a ∈ as, H' a = H a) → Ow K B H t v as → Ow K B' H' t v as
  | .f d, _, _, _, ⟨h1, h2⟩ => ⟨h1, Rp.mono e _ _ h2⟩
  | .n k ts, _, _, q, ⟨a, xs, rest, h1, h2, h3, h4⟩ => by
    subst h2
    exact ⟨a, xs, rest, h1, rfl, h3.eq (q a (List.mem_cons_self ..)), OwL.mono e ts xs rest (fun b hb => q b (List.mem_cons_of_mem _ hb)) h4⟩
theorem OwL.mono {K : PySem.W.Frag} {B B' H H' : Hp} (e : Ex B B') : ∀ (ts : List Tr) (xs : List V) (as : List Addr), (∀ a ∈ as, H' a = H a) → OwL K B H ts xs as → OwL K B' H' ts xs as
  | [], _, _, _, h => h
  | t :: ts, _, _, q, ⟨x, r, a1, a2, h1, h2, h3, h4⟩ => by
    subst h2
    exact ⟨x, r, a1, a2, h1, rfl, Ow.mono e t x a1 (fun b hb => q b (List.mem_append_left _ hb)) h3, OwL.mono e ts r a2 (fun b hb => q b (List.mem_append_right _ hb)) h4⟩
end
mutual
theorem Ow.nt {K : PySem.W.Frag} {B H : Hp} : ∀ (t : Tr) (v : V) (as : List Addr), Ow K B H t v as → ∀ a ∈ as, Nt (H a)
  | .f d, _, _, ⟨h1, _⟩, a, ha => by rw [h1] at ha; cases ha
  | .n k ts, _, _, ⟨a, xs, rest, h1, h2, h3, h4⟩, b, hb => by
    subst h2
    rcases List.mem_cons.mp hb with z | z
    · rw [z]; exact h3.nt
    · exact OwL.nt ts xs rest h4 b z
theorem OwL.nt {K : PySem.W.Frag} {B H : Hp} : ∀ (ts : List Tr) (xs : List V) (as : List Addr), OwL K B H ts xs as → ∀ a ∈ as, Nt (H a)
  | [], _, _, h, a, ha => by rw [h.2] at ha; cases ha
  | t :: ts, _, _, ⟨x, r, a1, a2, h1, h2, h3, h4⟩, a, ha => by
    subst h2
    rcases List.mem_append.mp ha with z | z
    · exact Ow.nt t x a1 h3 a z
    · exact OwL.nt ts r a2 h4 a z
end
mutual
/-- a tree read as data -/
theorem Ow.rp {K : PySem.W.Frag} {B H H' : Hp} (e : Ex B H') : ∀ (t : Tr) (v : V) (as : List Addr), (∀ a ∈ as, H' a = H a) → Ow K B H t v as → Rp K H' t.fr v
  | .f d, _, _, _, ⟨h1, h2⟩ => Rp.mono e _ _ h2
  | .n .l ts, _, _, q, ⟨a, xs, rest, h1, h2, h3, h4⟩ => by
    subst h2
    exact ⟨a, xs, h1, SqL.of ((q a (List.mem_cons_self ..)).trans h3), (OwL.rp e ts xs rest (fun b hb => q b (List.mem_cons_of_mem _ hb)) h4).2⟩
  | .n (.dk ks) ts, _, _, q, ⟨a, xs, rest, h1, h2, h3, h4⟩ => by
    subst h2
    obtain ⟨hl, hr⟩ := OwL.rp e ts xs rest (fun b hb => q b (List.mem_cons_of_mem _ hb)) h4
    exact ⟨a, xs, h1, .inl ((q a (List.mem_cons_self ..)).trans h3.1), h3.2.trans hl, hr⟩
  | .n (.dt ks) ts, _, _, q, ⟨a, xs, rest, h1, h2, h3, h4⟩ => by
    subst h2
    obtain ⟨hl, hr⟩ := OwL.rp e ts xs rest (fun b hb => q b (List.mem_cons_of_mem _ hb)) h4
    exact ⟨a, xs, h1, .inl ((q a (List.mem_cons_self ..)).trans h3.1), h3.2.trans hl, hr⟩
  | .n (.o C ns) ts, _, _, q, ⟨a, xs, rest, h1, h2, ⟨dx, h3, h5⟩, h4⟩ => by
    subst h2
    obtain ⟨hl, hr⟩ := OwL.rp e ts xs rest (fun b hb => q b (List.mem_cons_of_mem _ hb)) h4
    exact ⟨a, dx, xs, h1, (q a (List.mem_cons_self ..)).trans h3, h5.trans hl, hr⟩
  | .n .bad ts, _, _, q, ⟨a, xs, rest, h1, h2, h3, h4⟩ => h3.elim
theorem OwL.rp {K : PySem.W.Frag} {B H H' : Hp} (e : Ex B H') : ∀ (ts : List Tr) (xs : List V) (as : List Addr), (∀ a ∈ as, H' a = H a) → OwL K B H ts xs as → xs.length = (Tr.frs ts).length ∧ RpL K H' (Tr.frs ts) xs
  | [], _, _, _, h => by rw [h.1]; exact ⟨rfl, rfl⟩
  | t :: ts, _, _, q, ⟨x, r, a1, a2, h1, h2, h3, h4⟩ => by
    subst h1 h2
    obtain ⟨hl, hr⟩ := OwL.rp e ts r a2 (fun b hb => q b (List.mem_append_right _ hb)) h4
    refine ⟨by show r.length + 1 = (Tr.frs ts).length + 1; rw [hl], x, r, rfl, Ow.rp e t x a1 (fun b hb => q b (List.mem_append_left _ hb)) h3, hr⟩
end
theorem OwL.flat {K : PySem.W.Frag} {B H : Hp} : ∀ {ds : List D} {xs : List V} {as : List Addr}, OwL K B H (ds.map .f) xs as ↔ as = [] ∧ RpL K B ds xs
  | [], xs, as => ⟨fun h => ⟨h.2, h.1⟩, fun h => ⟨h.2, h.1⟩⟩
  | d :: ds, xs, as => by
    constructor
    · rintro ⟨x, r, a1, a2, rfl, rfl, ⟨rfl, h3⟩, h4⟩
      obtain ⟨rfl, h5⟩ := OwL.flat.mp h4
      exact ⟨rfl, x, r, rfl, h3, h5⟩
    · rintro ⟨rfl, x, r, rfl, h3, h4⟩
      exact ⟨x, r, [], [], rfl, rfl, ⟨rfl, h3⟩, OwL.flat.mpr ⟨rfl, h4⟩⟩
theorem Ow.cell {K : PySem.W.Frag} {B H : Hp} {d : D} {v : V} {as : List Addr} : Ow K B H (Tr.of d) v as ↔ ∃ a, v = .ref a ∧ as = [a] ∧ Cell K B H a d := by
  have bad : ∀ {v : V} {as : List Addr}, ¬ Ow K B H (.n .bad []) v as := fun ⟨_, _, _, _, _, h, _⟩ => h.elim
  cases d with
  | lst ds =>
    constructor
    · rintro ⟨a, xs, rest, rfl, rfl, h3, h4⟩
      obtain ⟨rfl, h5⟩ := OwL.flat.mp h4
      exact ⟨a, rfl, rfl, xs, h3, h5⟩
    · rintro ⟨a, rfl, rfl, xs, h3, h5⟩
      exact ⟨a, xs, [], rfl, rfl, h3, OwL.flat.mpr ⟨rfl, h5⟩⟩
  | dk ks ds =>
    constructor
    · rintro ⟨a, xs, rest, rfl, rfl, h3, h4⟩
      obtain ⟨rfl, h5⟩ := OwL.flat.mp h4
      exact ⟨a, rfl, rfl, xs, h3.1, h3.2.trans h5.length, h5⟩
    · rintro ⟨a, rfl, rfl, xs, h3, h0, h5⟩
      exact ⟨a, xs, [], rfl, rfl, ⟨h3, h0.trans h5.length.symm⟩, OwL.flat.mpr ⟨rfl, h5⟩⟩
  | dt ks ds =>
    constructor
    · rintro ⟨a, xs, rest, rfl, rfl, h3, h4⟩
      obtain ⟨rfl, h5⟩ := OwL.flat.mp h4
      exact ⟨a, rfl, rfl, xs, h3.1, h3.2.trans h5.length, h5⟩
    · rintro ⟨a, rfl, rfl, xs, h3, h0, h5⟩
      exact ⟨a, xs, [], rfl, rfl, ⟨h3, h0.trans h5.length.symm⟩, OwL.flat.mpr ⟨rfl, h5⟩⟩
  | ob C ns ds =>
    constructor
    · rintro ⟨a, xs, rest, rfl, rfl, ⟨dx, h3, h0⟩, h4⟩
      obtain ⟨rfl, h5⟩ := OwL.flat.mp h4
      exact ⟨a, rfl, rfl, dx, xs, h3, h0.trans h5.length, h5⟩
    · rintro ⟨a, rfl, rfl, dx, xs, h3, h0, h5⟩
      exact ⟨a, xs, [], rfl, rfl, ⟨dx, h3, h0.trans h5.length.symm⟩, OwL.flat.mpr ⟨rfl, h5⟩⟩
  | _ => exact ⟨fun h => (bad h).elim, fun ⟨_, _, _, h⟩ => h.elim⟩
theorem Tr.fr_of {d : D} {K : PySem.W.Frag} {B H : Hp} {v : V} {as : List Addr} (h : Ow K B H (Tr.of d) v as) : (Tr.of d).fr = d := by
  obtain ⟨a, _, _, h⟩ := Ow.cell.mp h
  cases d with
  | lst ds => show D.lst (Tr.frs (ds.map .f)) = _; rw [Tr.frs_f]
  | dk ks ds => show D.dk ks (Tr.frs (ds.map .f)) = _; rw [Tr.frs_f]
  | dt ks ds => show D.dt ks (Tr.frs (ds.map .f)) = _; rw [Tr.frs_f]
  | ob C ns ds => show D.ob C ns (Tr.frs (ds.map .f)) = _; rw [Tr.frs_f]
  | _ => exact h.elim

/-- what may change (n), what is not told of (m) -/
structure Msk where
  n : Addr → Prop
  m : Addr → Prop
  le : ∀ a, n a → m a
inductive Lv | l0 | l1 | l2 | l3
def mk (l : Lv) (M : Msk) (X : Addr → Prop) : Addr → Prop := match l with
  | .l0 => fun _ => False
  | .l1 => M.m
  | .l2 => fun a => M.m a ∨ X a
  | .l3 => X
def Lv.st : Lv → Bool
  | .l1 => true
  | .l2 => true
  | _ => false
theorem mk_le {l : Lv} {M : Msk} {X : Addr → Prop} : ∀ a, mk l M X a → M.m a ∨ X a := fun a h => by
  cases l with
  | l0 => exact h.elim
  | l1 => exact .inl h
  | l2 => exact h
  | l3 => exact .inr h

/-- a slot whose value is known: the first argument's, or one that is kept -/
def pinV (a0 : Addr) : Option Bd → Option V
  | some (.tm _) => some (.ref a0)
  | some (.pn v) => some v
  | _ => none
theorem pin_some {a0 : Addr} {o : Option Bd} {v : V} (h : pinV a0 o = some v) : ∃ b, o = some b ∧ ((∃ t, b = .tm t ∧ v = .ref a0) ∨ b = .pn v) := by
  match o, h with
  | some (.tm t), h => exact ⟨_, rfl, .inl ⟨t, rfl, (Option.some.inj h).symm⟩⟩
  | some (.pn x), h => exact ⟨_, rfl, .inr (by rw [show x = v from Option.some.inj h])⟩
def rt (ad : Nat → List Addr) (i : Nat) : Addr := (ad i).headD 0
structure ER (K : PySem.W.Frag) (X : Addr → Prop) (a0 : Addr) (H0 : Hp) (M : Msk) (ad : Nat → List Addr) (σ : St) (H : Hp) (env : List Bd) : Prop where
  len : σ.length = env.length
  ex : Ex H0 H
  xin : ∀ a, X a → Nt (H a)
  min : ∀ a, M.m a → Nt (H a)
  mout : ∀ a, M.m a → H0 a = none
  im : ∀ (i : Nat) d, env[i]? = some (.im d) → ∃ v, σ[i]? = some (some v) ∧ Rp K (hid (fun a => M.m a ∨ X a) H) d v
  rd : ∀ (i : Nat) d, env[i]? = some (.rd d) → ∃ v, σ[i]? = some (some v) ∧ Rp K (hid M.m H) d v
  ws : ∀ (i : Nat) t, own env[i]? = some t → (∀ a ∈ ad i, M.n a) ∧ (ad i).Nodup ∧ ∃ v, σ[i]? = some (some v) ∧ Ow K (hid (fun a => M.m a ∨ X a) H) H t v (ad i)
  xt : ∀ (i : Nat) t, env[i]? = some (.tr t) → ∀ a ∈ ad i, ¬ X a
  tq : ∀ (i : Nat) t, env[i]? = some (.tq t) → ∃ v as, σ[i]? = some (some v) ∧ (∀ a ∈ as, X a ∧ ¬ M.m a) ∧ as.Nodup ∧ Ow K (hid (fun a => M.m a ∨ X a) H) H t v as
  dj : ∀ (i j : Nat), i ≠ j → own env[i]? ≠ none → own env[j]? ≠ none → ∀ a ∈ ad i, a ∉ ad j
  t0 : ∀ (i : Nat) v, pinV a0 env[i]? = some v → σ[i]? = some (some v)

section
variable {K : PySem.W.Frag} {X : Addr → Prop} {a0 : Addr} {H0 : Hp} {M : Msk} {ad : Nat → List Addr} {σ : St} {H H' : Hp} {env : List Bd}
theorem ER.has (E : ER K X a0 H0 M ad σ H env) {a : Addr} (h : X a) : Nt (H a) := E.xin a h
theorem ER.cl (E : ER K X a0 H0 M ad σ H env) {i : Nat} {d : D} (h : own env[i]? = some (Tr.of d)) : ad i = [rt ad i] ∧ M.n (rt ad i) ∧ σ[i]? = some (some (.ref (rt ad i))) ∧ Cell K (hid (fun a => M.m a ∨ X a) H) H (rt ad i) d := by
  obtain ⟨h1, _, v, h2, h3⟩ := E.ws i _ h
  obtain ⟨a, rfl, e, h4⟩ := Ow.cell.mp h3
  have er : rt ad i = a := by unfold rt; rw [e]; rfl
  rw [er]
  exact ⟨e, h1 a (by rw [e]; exact List.mem_singleton.mpr rfl), h2, h4⟩
theorem ER.ow (E : ER K X a0 H0 M ad σ H env) (i : Nat) (d : D) (h : env[i]? = some (.ow d)) : M.n (rt ad i) ∧ σ[i]? = some (some (.ref (rt ad i))) ∧ Cell K (hid (fun a => M.m a ∨ X a) H) H (rt ad i) d := (E.cl (by rw [h]; rfl)).2
theorem ER.mu (E : ER K X a0 H0 M ad σ H env) (i : Nat) (d : D) (h : env[i]? = some (.mu d)) : M.n (rt ad i) ∧ σ[i]? = some (some (.ref (rt ad i))) ∧ Cell K (hid (fun a => M.m a ∨ X a) H) H (rt ad i) d := (E.cl (by rw [h]; rfl)).2
theorem ER.owX (E : ER K X a0 H0 M ad σ H env) {i : Nat} {d : D} (h : env[i]? = some (.ow d)) : ¬ X (rt ad i) := E.xt i _ h _ (by rw [(E.cl (by rw [h]; rfl)).1]; exact List.mem_singleton.mpr (by unfold rt; rfl))
theorem ex_at {a : Addr} (g : Ex H H') (n : Nt (H a)) : H' a = H a := by
  cases q : H a with
  | none => exact absurd q n.1
  | some o => exact g a o q
/-- the heap has grown, nothing changed -/
theorem ER.grow (E : ER K X a0 H0 M ad σ H env) (e : Ex H H') : ER K X a0 H0 M ad σ H' env where
  len := E.len
  ex := E.ex.trans e
  xin := fun a h => (E.xin a h).ex e
  min := fun a h => (E.min a h).ex e
  mout := E.mout
  im := fun i d h => let ⟨v, h1, h2⟩ := E.im i d h; ⟨v, h1, Rp.mono (hid_ex e) _ _ h2⟩
  rd := fun i d h => let ⟨v, h1, h2⟩ := E.rd i d h; ⟨v, h1, Rp.mono (hid_ex e) _ _ h2⟩
  ws := fun i t h => by
    obtain ⟨h1, h2, v, h3, h4⟩ := E.ws i t h
    refine ⟨h1, h2, v, h3, Ow.mono (hid_ex e) _ _ _ (fun a ha => ?_) h4⟩
    cases q : H a with
    | none => exact absurd q (Ow.nt _ _ _ h4 a ha).1
    | some o => exact e _ o q
  xt := E.xt
  tq := fun i t h => by
    obtain ⟨v, as, h1, h2, h3, h4⟩ := E.tq i t h
    exact ⟨v, as, h1, h2, h3, Ow.mono (hid_ex e) _ _ _ (fun a ha => ex_at e (Ow.nt _ _ _ h4 a ha)) h4⟩
  dj := E.dj
  t0 := E.t0
end

/-! ### what an expression is worth -/
def EvD (K : PySem.W.Frag) (l : Lv) (p : Bool) (te : TE) (env env' : List Bd) (d : D) : Prop :=
  ∀ X a0 H0 M ad σ H (Q : VK), ER K X a0 H0 M ad σ H env →
    (∀ v H', ER K X a0 H0 M ad σ H' env' → Ex (hid M.n H) (hid M.n H') → (p = true → Ex H H') → Rp K (hid (mk l M X) H') d v → Q v H') → te σ H Q
def EvB (K : PySem.W.Frag) (p : Bool) (tt : TT) (env env' : List Bd) (b : Bool) : Prop :=
  ∀ X a0 H0 M ad σ H (Q : Bool → Hp → Prop), ER K X a0 H0 M ad σ H env →
    (∀ H', ER K X a0 H0 M ad σ H' env' → Ex (hid M.n H) (hid M.n H') → (p = true → Ex H H') → Q b H') → tt σ H Q
/-- arguments, all at one level -/
def EvA (K : PySem.W.Frag) (l : Lv) (p : Bool) (ta : TA) (env env' : List Bd) (ds : List D) : Prop :=
  ∀ X a0 H0 M ad σ H (Q : List V → Hp → Prop), ER K X a0 H0 M ad σ H env →
    (∀ vs H', ER K X a0 H0 M ad σ H' env' → Ex (hid M.n H) (hid M.n H') → (p = true → Ex H H') → RpL K (hid (mk l M X) H') ds vs → Q vs H') → ta σ H Q

section
variable {K : PySem.W.Frag} {X : Addr → Prop} {a0 : Addr} {H0 : Hp} {M : Msk} {ad : Nat → List Addr} {σ : St} {H H' : Hp} {env env' env'' : List Bd} {l : Lv} {p q : Bool} {d d' : D} {ta tb te : TE} {i : Nat}
/-- what is known of a value stays, behind a later expression -/
theorem nm (e : Ex (hid M.n H) (hid M.n H')) : Ex (hid M.m H) (hid M.m H') := hid_two fun a o h1 h2 => ⟨h1, (of_hid (e a o (by rw [hid_out fun z => h1 (M.le a z)]; exact h2))).2⟩
theorem keepL (hl : (l.st || q) = true) (e : Ex (hid M.n H) (hid M.n H')) (e' : q = true → Ex H H') : Ex (hid (mk l M X) H) (hid (mk l M X) H') := by
  cases l with
  | l1 => exact nm e
  | l2 => exact hid_two fun a o h1 h2 => ⟨h1, (of_hid (e a o (by rw [hid_out fun z => h1 (.inl (M.le a z))]; exact h2))).2⟩
  | l0 => exact hid_ex (e' (by simpa [Lv.st] using hl))
  | l3 => exact hid_ex (e' (by simpa [Lv.st] using hl))
theorem seqE {H1 H2 : Hp} (a : Ex (hid M.n H) (hid M.n H1)) (b : Ex (hid M.n H1) (hid M.n H2)) : Ex (hid M.n H) (hid M.n H2) := a.trans b
theorem seqP {H1 H2 : Hp} (a : p = true → Ex H H1) (b : q = true → Ex H1 H2) : (p && q) = true → Ex H H2 := fun h => by
  have h' : p = true ∧ q = true := by simpa using h
  exact (a h'.1).trans (b h'.2)

theorem ev_im (h : env[i]? = some (.im d)) : EvD K l true (tVar i) env env d := fun X a0 H0 M ad σ H Q E k => by
  obtain ⟨v, h1, h2⟩ := E.im i d h
  exact ⟨v, h1, k v H E (Ex.refl _) (fun _ => Ex.refl _) (Rp.mono (hid_le mk_le) _ _ h2)⟩
theorem ev_rd (hl : l = .l0 ∨ l = .l1) (h : env[i]? = some (.rd d)) : EvD K l true (tVar i) env env d := fun X a0 H0 M ad σ H Q E k => by
  obtain ⟨v, h1, h2⟩ := E.rd i d h
  refine ⟨v, h1, k v H E (Ex.refl _) (fun _ => Ex.refl _) (Rp.mono (hid_le fun a ha => ?_) _ _ h2)⟩
  rcases hl with rfl | rfl
  · exact ha.elim
  · exact ha
theorem ev_ow (hl : l = .l0 ∨ l = .l3) (h : env[i]? = some (.ow d)) : EvD K l true (tVar i) env env d := fun X a0 H0 M ad σ H Q E k => by
  obtain ⟨h1, h2, h3⟩ := E.ow i d h
  refine ⟨_, h2, k _ H E (Ex.refl _) (fun _ => Ex.refl _) (h3.rp (hid_le mk_le) ?_)⟩
  rcases hl with rfl | rfl
  · exact hid_out (fun z => z)
  · exact hid_out (E.owX h)
theorem ev_byt {s : Array UInt8} : EvD K l true (tC (.byt s)) env env (.byt s) := fun X a0 H0 M ad σ H Q E k => k _ H E (Ex.refl _) (fun _ => Ex.refl _) rfl
theorem ev_mu (h : env[i]? = some (.mu d)) : EvD K .l0 true (tVar i) env env d := fun X a0 H0 M ad σ H Q E k => by
  obtain ⟨h1, h2, h3⟩ := E.mu i d h
  exact ⟨_, h2, k _ H E (Ex.refl _) (fun _ => Ex.refl _) (h3.rp (hid_le mk_le) (hid_out fun z => z))⟩
theorem ev_int {n : Int} : EvD K l true (tC (.int n)) env env (.int n) := fun X a0 H0 M ad σ H Q E k => k _ H E (Ex.refl _) (fun _ => Ex.refl _) rfl
theorem ev_bl {b : Bool} : EvD K l true (tC (.bl b)) env env (.bl b) := fun X a0 H0 M ad σ H Q E k => k _ H E (Ex.refl _) (fun _ => Ex.refl _) rfl
theorem ev_non : EvD K l true (tC .non) env env .non := fun X a0 H0 M ad σ H Q E k => k _ H E (Ex.refl _) (fun _ => Ex.refl _) rfl
theorem ev_str {s : Str} : EvD K l true (tC (.str s)) env env (.str s) := fun X a0 H0 M ad σ H Q E k => k _ H E (Ex.refl _) (fun _ => Ex.refl _) rfl
/-- a scalar stands at every level -/
def scl : D → Bool
  | .non => true
  | .bl _ => true
  | .int _ => true
  | .str _ => true
  | .byt _ => true
  | _ => false
theorem Rp.scl {B B' : Hp} {v : V} (h : scl d = true) (r : Rp K B d v) : Rp K B' d v := by
  cases d <;> first | exact r | cases h
theorem ev_lv {l' : Lv} (hs : scl d = true) (h : EvD K l p te env env' d) : EvD K l' p te env env' d := fun X a0 H0 M ad σ H Q E k =>
  h X a0 H0 M ad σ H Q E fun v H' E' e1 e2 r => k v H' E' e1 e2 (r.scl hs)
theorem ev_is (h : EvD K l p te env env' d) (e : d = d') : EvD K l p te env env' d' := e ▸ h

/-- two operands, then the operation by values -/
def RV (K : PySem.W.Frag) (l l' : Lv) (r : R2) (d d' e : D) : Prop :=
  ∀ X a0 H0 M ad σ H env x y (Q : VK), ER K X a0 H0 M ad σ H env → Rp K (hid (mk l M X) H) d x → Rp K (hid (mk l M X) H) d' y → (∀ v H', ER K X a0 H0 M ad σ H' env → Ex H H' → Rp K (hid (mk l' M X) H') e v → Q v H') → r x y H Q
theorem ev_op {r : R2} {l' : Lv} {e : D} (hl : (l.st || q) = true) (ha : EvD K l p ta env env' d) (hb : EvD K l q tb env' env'' d') (hr : RV K l l' r d d' e) : EvD K l' (p && q) (tOp r ta tb) env env'' e :=
  fun X a0 H0 M ad σ H Q E k => ha X a0 H0 M ad σ H _ E fun x H1 E1 e1 p1 r1 => hb X a0 H0 M ad σ H1 _ E1 fun y H2 E2 e2 p2 r2 =>
    hr X a0 H0 M ad σ H2 env'' x y _ E2 (Rp.mono (keepL hl e2 p2) _ _ r1) r2 fun v H' E' e3 rv => k v H' E' (seqE (seqE e1 e2) (hid_ex e3)) (fun h => (seqP p1 p2 h).trans e3) rv
theorem rv_I0 {g : Int → Int → V} {e : D} {i j : Int} {l' : Lv} (h : ∀ B, Rp K B e (g i j)) : RV K l l' (rI0 g) (.int i) (.int j) e := fun X a0 H0 M ad σ H env x y Q E rx ry k =>
  ⟨i, j, rx, ry, k _ H E (Ex.refl _) (h _)⟩
theorem rv_I {C : Int → Int → Prop} {g : Int → Int → V} {e : D} {i j : Int} {l' : Lv} (hc : C i j) (h : ∀ B, Rp K B e (g i j)) : RV K l l' (rI C g) (.int i) (.int j) e := fun X a0 H0 M ad σ H env x y Q E rx ry k =>
  ⟨i, j, rx, ry, hc, k _ H E (Ex.refl _) (h _)⟩
theorem rv_ixL {ds : List D} {i : Int} {e : D} (h : atI ds i = some e) : RV K l l (rIxL K) (.lst ds) (.int i) e := fun X a0 H0 M ad σ H env x y Q E rx ry k => by
  obtain ⟨a, xs, rfl, hq, hr⟩ := rx
  unfold atI at h
  obtain ⟨j, hj, hd⟩ := Option.bind_eq_some_iff.mp h
  obtain ⟨v, h1, h2⟩ := hr.get hd
  refine ⟨a, xs, i, v, rfl, ry, ex_l hid_all hq, ?_, k v H E (Ex.refl _) h2⟩
  unfold atI
  rw [hr.length, hj]
  exact h1
theorem rv_ixT {ds : List D} {i : Int} {e : D} (h : atI ds i = some e) : RV K l l (rIxT K) (.tup ds) (.int i) e := fun X a0 H0 M ad σ H env x y Q E rx ry k => by
  obtain ⟨a, xs, rfl, hq, hr⟩ := rx
  unfold atI at h
  obtain ⟨j, hj, hd⟩ := Option.bind_eq_some_iff.mp h
  obtain ⟨v, h1, h2⟩ := hr.get hd
  refine ⟨a, xs, i, v, rfl, ry, ex_s hid_all hq, ?_, k v H E (Ex.refl _) h2⟩
  unfold atI
  rw [hr.length, hj]
  exact h1
end
end Pw
namespace Pw
open PySem L2

section
variable {K : PySem.W.Frag} {We : WX} {X : Addr → Prop} {a0 : Addr} {H0 : Hp} {M : Msk} {ad : Nat → List Addr} {σ : St} {H H' : Hp} {env env' env'' : List Bd} {l l' : Lv} {p q : Bool} {d d' e : D} {ta tb te : TE} {t u : TT} {i j : Nat} {b c : Bool}
theorem ev_up (h : EvD K .l2 p te env env' d) : EvD K l p te env env' d := fun X a0 H0 M ad σ H Q E k =>
  h X a0 H0 M ad σ H Q E fun v H' E' e1 e2 r => k v H' E' e1 e2 (Rp.mono (hid_le mk_le) _ _ r)
theorem ev_p (h : EvD K l true te env env' d) : EvD K l p te env env' d := fun X a0 H0 M ad σ H Q E k =>
  h X a0 H0 M ad σ H Q E fun v H' E' e1 e2 r => k v H' E' e1 (fun _ => e2 rfl) r
theorem ev_un {f : Int → V} {n : Int} (ha : EvD K l p ta env env' (.int n)) (h : ∀ B, Rp K B e (f n)) : EvD K l' p (tUn (rU f) ta) env env' e := fun X a0 H0 M ad σ H Q E k =>
  ha X a0 H0 M ad σ H _ E fun x H1 E1 e1 p1 r1 => ⟨n, r1, k _ H1 E1 e1 p1 (h _)⟩

/-! ### tests -/
theorem eb_test (h : EvD K l p te env env' (.bl b)) : EvB K p (tTest te) env env' b := fun X a0 H0 M ad σ H Q E k =>
  h X a0 H0 M ad σ H _ E fun x H1 E1 e1 p1 r1 => ⟨b, r1, k H1 E1 e1 p1⟩
theorem eb_B (h : EvD K l p te env env' (.bl b)) : EvB K p (tB te) env env' b := fun X a0 H0 M ad σ H Q E k =>
  h X a0 H0 M ad σ H _ E fun x H1 E1 e1 p1 r1 => ⟨b, r1, k H1 E1 e1 p1⟩
theorem eb_yes : EvB K true tYes env env true := fun X a0 H0 M ad σ H Q E k => k H E (Ex.refl _) fun _ => Ex.refl _
theorem eb_not (h : EvB K p t env env' b) : EvB K p (tNot t) env env' (!b) := fun X a0 H0 M ad σ H Q E k => h X a0 H0 M ad σ H _ E k
theorem eb_is (h : EvB K p t env env' b) (e : b = c) : EvB K p t env env' c := e ▸ h
theorem eb_and (h : EvB K p t env env b) (h' : b = true → EvB K p u env env c) : EvB K p (tAnd t u) env env (b && c) := fun X a0 H0 M ad σ H Q E k =>
  h X a0 H0 M ad σ H _ E fun H1 E1 e1 p1 => by
    cases b with
    | true => exact h' rfl X a0 H0 M ad σ H1 Q E1 fun H2 E2 e2 p2 => k H2 E2 (e1.trans e2) fun z => (p1 z).trans (p2 z)
    | false => exact k H1 E1 e1 p1
theorem eb_or (h : EvB K p t env env b) (h' : b = false → EvB K p u env env c) : EvB K p (tOr t u) env env (b || c) := fun X a0 H0 M ad σ H Q E k =>
  h X a0 H0 M ad σ H _ E fun H1 E1 e1 p1 => by
    cases b with
    | false => exact h' rfl X a0 H0 M ad σ H1 Q E1 fun H2 E2 e2 p2 => k H2 E2 (e1.trans e2) fun z => (p1 z).trans (p2 z)
    | true => exact k H1 E1 e1 p1
theorem ev_andV (h : EvD K l p ta env env (.bl b)) (h' : b = true → EvD K l p tb env env (.bl c)) : EvD K l' p (tAndV ta tb) env env (.bl (b && c)) := fun X a0 H0 M ad σ H Q E k =>
  h X a0 H0 M ad σ H _ E fun x H1 E1 e1 p1 r1 => ⟨b, r1, by
    cases b with
    | true => exact h' rfl X a0 H0 M ad σ H1 Q E1 fun y H2 E2 e2 p2 r2 => k y H2 E2 (e1.trans e2) (fun z => (p1 z).trans (p2 z)) r2
    | false => exact k _ H1 E1 e1 p1 rfl⟩
theorem ev_orV (h : EvD K l p ta env env (.bl b)) (h' : b = false → EvD K l p tb env env (.bl c)) : EvD K l' p (tOrV ta tb) env env (.bl (b || c)) := fun X a0 H0 M ad σ H Q E k =>
  h X a0 H0 M ad σ H _ E fun x H1 E1 e1 p1 r1 => ⟨b, r1, by
    cases b with
    | false => exact h' rfl X a0 H0 M ad σ H1 Q E1 fun y H2 E2 e2 p2 r2 => k y H2 E2 (e1.trans e2) (fun z => (p1 z).trans (p2 z)) r2
    | true => exact k _ H1 E1 e1 p1 rfl⟩
theorem ev_notV (h : EvD K l p ta env env' (.bl b)) : EvD K l' p (tNotV ta) env env' (.bl (!b)) := fun X a0 H0 M ad σ H Q E k =>
  h X a0 H0 M ad σ H _ E fun x H1 E1 e1 p1 r1 => ⟨b, r1, k _ H1 E1 e1 p1 rfl⟩
theorem ev_if (h : EvB K p t env env' b) (h1 : b = true → EvD K l p ta env' env'' d) (h2 : b = false → EvD K l p tb env' env'' d) : EvD K l p (tIf t ta tb) env env'' d := fun X a0 H0 M ad σ H Q E k =>
  h X a0 H0 M ad σ H _ E fun H1 E1 e1 p1 => by
    cases b with
    | true => exact h1 rfl X a0 H0 M ad σ H1 Q E1 fun y H2 E2 e2 p2 r2 => k y H2 E2 (e1.trans e2) (fun z => (p1 z).trans (p2 z)) r2
    | false => exact h2 rfl X a0 H0 M ad σ H1 Q E1 fun y H2 E2 e2 p2 r2 => k y H2 E2 (e1.trans e2) (fun z => (p1 z).trans (p2 z)) r2
/-- a < b < c, all at once -/
theorem ev_chain {r r' : R2} {tc : TE} {d1 d2 d3 : D} (hb2 : c = true ∨ c = false) (ha : EvD K .l2 true ta env env d1) (hb : EvD K .l2 true tb env env d2) (hc : EvD K .l2 true tc env env d3)
    (hr : RV K .l2 .l2 r d1 d2 (.bl b)) (hr' : RV K .l2 .l2 r' d2 d3 (.bl c)) : EvD K l true (tChain r r' ta tb tc) env env (.bl (b && c)) := fun X a0 H0 M ad σ H Q E k =>
  ha X a0 H0 M ad σ H _ E fun x H1 E1 e1 p1 r1 => hb X a0 H0 M ad σ H1 _ E1 fun y H2 E2 e2 p2 r2 =>
    hr X a0 H0 M ad σ H2 env x y _ E2 (Rp.mono (keepL (q := true) rfl e2 p2) _ _ r1) r2 fun v H3 E3 e3 r3 => ⟨b, r3, by
      cases b with
      | true =>
        exact hc X a0 H0 M ad σ H3 _ E3 fun z H4 E4 e4 p4 r4 => hr' X a0 H0 M ad σ H4 env y z _ E4 (Rp.mono (keepL (l := .l2) (q := true) rfl ((hid_ex e3).trans e4) fun z => e3.trans (p4 z)) _ _ r2) r4 fun v5 H5 E5 e5 r5 =>
          k v5 H5 E5 (((e1.trans e2).trans (hid_ex e3)).trans (e4.trans (hid_ex e5))) (fun _ => ((((p1 rfl).trans (p2 rfl)).trans e3).trans (p4 rfl)).trans e5) r5
      | false => exact k _ H3 E3 ((e1.trans e2).trans (hid_ex e3)) (fun _ => ((p1 rfl).trans (p2 rfl)).trans e3) rfl⟩

/-! ### arguments, displays -/
theorem ea_nil : EvA K l true tNil env env [] := fun X a0 H0 M ad σ H Q E k => k [] H E (Ex.refl _) (fun _ => Ex.refl _) rfl
theorem ea_cons {ts : TA} {ds : List D} (hl : (l.st || q) = true) (h : EvD K l p te env env' d) (hs : EvA K l q ts env' env'' ds) : EvA K l (p && q) (tCons te ts) env env'' (d :: ds) := fun X a0 H0 M ad σ H Q E k =>
  h X a0 H0 M ad σ H _ E fun x H1 E1 e1 p1 r1 => hs X a0 H0 M ad σ H1 _ E1 fun xs H2 E2 e2 p2 r2 =>
    k (x :: xs) H2 E2 (e1.trans e2) (seqP p1 p2) ⟨x, xs, rfl, Rp.mono (keepL hl e2 p2) _ _ r1, r2⟩
theorem fresh_mk (E : ER K X a0 H0 M ad σ H env) {a : Addr} (h : H a = none) : ¬ mk l M X a := fun z => by
  rcases mk_le a z with z | z
  · exact (E.min a z).1 h
  · exact (E.has z).1 h
theorem ev_tup {ts : TA} {ds : List D} (h : EvA K l p ts env env' ds) (hn : ds.length ≤ 1000) : EvD K l p (tTup ts) env env' (.tup ds) := fun X a0 H0 M ad σ H Q E k =>
  h X a0 H0 M ad σ H _ E fun xs H1 E1 e1 p1 r1 => ⟨by rw [r1.length]; exact Nat.le_trans hn (by decide), fun a ha => by
    have g : Ex H1 (upd H1 a (.tup xs)) := Ex.new ha
    refine k _ _ (E1.grow g) (e1.trans (hid_ex g)) (fun z => (p1 z).trans g) ⟨a, xs, rfl, ?_, RpL.mono (hid_ex g) _ _ r1⟩
    rw [hid_out (fresh_mk E1 ha), upd_same]⟩
/-- a new object of one's own -/
def EvF (K : PySem.W.Frag) (p : Bool) (te : TE) (env env' : List Bd) (d : D) : Prop :=
  ∀ X a0 H0 M ad σ H (Q : VK), ER K X a0 H0 M ad σ H env →
    (∀ a H1 H', H1 a = none → (∀ b o, H b = some o → H1 b ≠ none) → ER K X a0 H0 M ad σ H1 env' → Ex H1 H' → Ex (hid M.n H) (hid M.n H1) → (p = true → Ex H H1) → Cell K (hid (fun b => M.m b ∨ X b) H1) H' a d → Q (.ref a) H') → te σ H Q
theorem ef_ev (h : EvF K p te env env' d) : EvD K l p te env env' d := fun X a0 H0 M ad σ H Q E k =>
  h X a0 H0 M ad σ H Q E fun a H1 H' ha _ E1 g e1 p1 r1 => by
    refine k _ H' (E1.grow g) (e1.trans (hid_ex g)) (fun z => (p1 z).trans g) (r1.rp ?_ (hid_out (fresh_mk E1 ha)))
    exact (hid_ex g).trans (hid_le mk_le)
theorem stays (E : ER K X a0 H0 M ad σ H env) (E1 : ER K X a0 H0 M ad σ H' env') (e : Ex (hid M.n H) (hid M.n H')) : ∀ b o, H b = some o → H' b ≠ none := fun b o h => by
  by_cases m : M.n b
  · exact (E1.min b (M.le b m)).1
  · have z := e b o (by rw [hid_out m]; exact h)
    rw [(of_hid z).2]; simp
theorem ef_lst {ts : TA} {ds : List D} (h : EvA K .l2 p ts env env' ds) (hn : ds.length ≤ 1000) : EvF K p (tLst ts) env env' (.lst ds) := fun X a0 H0 M ad σ H Q E k =>
  h X a0 H0 M ad σ H _ E fun xs H1 E1 e1 p1 r1 => ⟨by rw [r1.length]; exact Nat.le_trans hn (by decide), fun a ha =>
    k a H1 _ ha (stays E E1 e1) E1 (Ex.new ha) e1 p1 ⟨xs, upd_same, r1⟩⟩
theorem ev_lst {ts : TA} {ds : List D} (h : EvA K l p ts env env' ds) (hn : ds.length ≤ 1000) : EvD K l p (tLst ts) env env' (.lst ds) := fun X a0 H0 M ad σ H Q E k =>
  h X a0 H0 M ad σ H _ E fun xs H1 E1 e1 p1 r1 => ⟨by rw [r1.length]; exact Nat.le_trans hn (by decide), fun a ha => by
    have g : Ex H1 (upd H1 a (.lst xs)) := Ex.new ha
    refine k _ _ (E1.grow g) (e1.trans (hid_ex g)) (fun z => (p1 z).trans g) ⟨a, xs, rfl, SqL.of ?_, RpL.mono (hid_ex g) _ _ r1⟩
    rw [hid_out (fresh_mk E1 ha), upd_same]⟩
theorem ef_dk : EvF K true tDNewK env env (.dk [] []) := fun X a0 H0 M ad σ H Q E k => fun a ha =>
  k a H _ ha (fun b o h => by rw [h]; simp) E (Ex.new ha) (Ex.refl _) (fun _ => Ex.refl _) ⟨[], upd_same, rfl, rfl⟩
theorem ef_dt : EvF K true tDNewT env env (.dt [] []) := fun X a0 H0 M ad σ H Q E k => fun a ha =>
  k a H _ ha (fun b o h => by rw [h]; simp) E (Ex.new ha) (Ex.refl _) (fun _ => Ex.refl _) ⟨[], upd_same, rfl, rfl⟩

/-! ### built-in calls by values -/
def RC (K : PySem.W.Frag) (l l' : Lv) (r : List V → Hp → VK → Prop) (ds : List D) (e : D) : Prop :=
  ∀ X a0 H0 M ad σ H env xs (Q : VK), ER K X a0 H0 M ad σ H env → RpL K (hid (mk l M X) H) ds xs → (∀ v H', ER K X a0 H0 M ad σ H' env → Ex H H' → Rp K (hid (mk l' M X) H') e v → Q v H') → r xs H Q
theorem ev_cb {r : List V → Hp → VK → Prop} {ts : TA} {ds : List D} (h : EvA K l p ts env env' ds) (hr : RC K l l' r ds e) : EvD K l' p (tCB r ts) env env' e := fun X a0 H0 M ad σ H Q E k =>
  h X a0 H0 M ad σ H _ E fun xs H1 E1 e1 p1 r1 => hr X a0 H0 M ad σ H1 env' xs _ E1 r1 fun v H' E' g rv => k v H' E' (e1.trans (hid_ex g)) (fun z => (p1 z).trans g) rv
theorem RpL.one' {B : Hp} {xs : List V} (h : RpL K B [d] xs) : ∃ x, xs = [x] ∧ Rp K B d x := by
  obtain ⟨x, r, h1, h2, h3⟩ := h
  cases h3
  exact ⟨x, h1, h2⟩
theorem rc_len_l {ds : List D} : RC K l l' (fun xs H Q => ∃ p ys, xs = [.ref p] ∧ (SqL K H p ys ∨ SqT K H p ys) ∧ Q (.int ys.length) H) [.lst ds] (.int (ds.length : Int)) := fun X a0 H0 M ad σ H env xs Q E r k => by
  obtain ⟨x, rfl, a, ys, rfl, h1, h2⟩ := r.one'
  exact ⟨a, ys, rfl, .inl (ex_l hid_all h1), k _ H E (Ex.refl _) (by rw [h2.length]; rfl)⟩
theorem rc_len_t {ds : List D} : RC K l l' (fun xs H Q => ∃ p ys, xs = [.ref p] ∧ (SqL K H p ys ∨ SqT K H p ys) ∧ Q (.int ys.length) H) [.tup ds] (.int (ds.length : Int)) := fun X a0 H0 M ad σ H env xs Q E r k => by
  obtain ⟨x, rfl, a, ys, rfl, h1, h2⟩ := r.one'
  exact ⟨a, ys, rfl, .inr (ex_s hid_all h1), k _ H E (Ex.refl _) (by rw [h2.length]; rfl)⟩
theorem rc_int_i {n : Int} : RC K l l' (fun xs H Q => (∃ i, xs = [.int i] ∧ Q (.int i) H) ∨ ∃ k, xs = [.bl k] ∧ Q (.int (if k then 1 else 0)) H) [.int n] (.int n) := fun X a0 H0 M ad σ H env xs Q E r k => by
  obtain ⟨x, rfl, h⟩ := r.one'
  have h : x = V.int n := h
  subst h
  exact .inl ⟨n, rfl, k _ H E (Ex.refl _) rfl⟩
theorem rc_int_b : RC K l l' (fun xs H Q => (∃ i, xs = [.int i] ∧ Q (.int i) H) ∨ ∃ k, xs = [.bl k] ∧ Q (.int (if k then 1 else 0)) H) [.bl b] (.int (if b then 1 else 0)) := fun X a0 H0 M ad σ H env xs Q E r k => by
  obtain ⟨x, rfl, h⟩ := r.one'
  have h : x = V.bl b := h
  subst h
  exact .inr ⟨b, rfl, k _ H E (Ex.refl _) rfl⟩
/-- tuple(list), list(list), list(tuple): a new one -/
theorem ev_tuple_of {ts : TA} {ds : List D} (h : EvA K l p ts env env' [.lst ds]) : EvD K l p (tCB (fun xs H Q => ∃ p ys, xs = [.ref p] ∧ ((SqL K H p ys ∧ ∀ l, H l = none → Q (.ref l) (upd H l (.tup ys))) ∨ (SqT K H p ys ∧ Q (.ref p) H))) ts) env env' (.tup ds) := fun X a0 H0 M ad σ H Q E k =>
  h X a0 H0 M ad σ H _ E fun xs H1 E1 e1 p1 r1 => by
    obtain ⟨x, rfl, a, ys, rfl, h1, h2⟩ := r1.one'
    refine ⟨a, ys, rfl, .inl ⟨ex_l hid_all h1, fun c hc => ?_⟩⟩
    have g : Ex H1 (upd H1 c (.tup ys)) := Ex.new hc
    refine k _ _ (E1.grow g) (e1.trans (hid_ex g)) (fun z => (p1 z).trans g) ⟨c, ys, rfl, ?_, RpL.mono (hid_ex g) _ _ h2⟩
    rw [hid_out (fresh_mk E1 hc), upd_same]
/-- .. of one's own list: the tuple holds what the list holds -/
theorem ev_tuple_ow {ds : List D} (h : env[i]? = some (.ow (.lst ds))) : EvD K l true (tCB (fun xs H Q => ∃ p ys, xs = [.ref p] ∧ ((SqL K H p ys ∧ ∀ l, H l = none → Q (.ref l) (upd H l (.tup ys))) ∨ (SqT K H p ys ∧ Q (.ref p) H))) (tCons (tVar i) tNil)) env env (.tup ds) := fun X a0 H0 M ad σ H Q E k => by
  obtain ⟨h1, h2, ys, h3, h4⟩ := E.ow i _ h
  refine ⟨_, h2, rt ad i, ys, rfl, .inl ⟨SqL.of h3, fun c hc => ?_⟩⟩
  have g : Ex H (upd H c (.tup ys)) := Ex.new hc
  refine k _ _ (E.grow g) (hid_ex g) (fun z => g) ⟨c, ys, rfl, ?_, RpL.mono ((hid_ex g).trans (hid_le mk_le)) _ _ h4⟩
  rw [hid_out (fresh_mk E hc), upd_same]
/-- an item of one's own list -/
theorem ev_ixOw {ds : List D} {n : Int} (h : env[i]? = some (.ow (.lst ds))) (hb : EvD K l p tb env env (.int n)) (hd : atI ds n = some d) : EvD K l' p (tOp (rIxL K) (tVar i) tb) env env d := fun X a0 H0 M ad σ H Q E k => by
  obtain ⟨_, h2, _⟩ := E.ow i _ h
  refine ⟨_, h2, hb X a0 H0 M ad σ H _ E fun y H1 E1 e1 p1 r1 => ?_⟩
  obtain ⟨_, _, xs, h3, h4⟩ := E1.ow i _ h
  unfold atI at hd
  obtain ⟨j, hj, hd⟩ := Option.bind_eq_some_iff.mp hd
  obtain ⟨v, g1, g2⟩ := h4.get hd
  refine ⟨rt ad i, xs, n, v, rfl, r1, SqL.of h3, ?_, k v H1 E1 e1 p1 (Rp.mono (hid_le mk_le) _ _ g2)⟩
  unfold atI
  rw [h4.length, hj]
  exact g1
theorem ev_ixMu {ds : List D} {n : Int} (h : env[i]? = some (.mu (.lst ds))) (hb : EvD K l p tb env env (.int n)) (hd : atI ds n = some d) : EvD K l' p (tOp (rIxL K) (tVar i) tb) env env d := fun X a0 H0 M ad σ H Q E k => by
  obtain ⟨_, h2, _⟩ := E.mu i _ h
  refine ⟨_, h2, hb X a0 H0 M ad σ H _ E fun y H1 E1 e1 p1 r1 => ?_⟩
  obtain ⟨_, _, xs, h3, h4⟩ := E1.mu i _ h
  unfold atI at hd
  obtain ⟨j, hj, hd⟩ := Option.bind_eq_some_iff.mp hd
  obtain ⟨v, g1, g2⟩ := h4.get hd
  refine ⟨rt ad i, xs, n, v, rfl, r1, SqL.of h3, ?_, k v H1 E1 e1 p1 (Rp.mono (hid_le mk_le) _ _ g2)⟩
  unfold atI
  rw [h4.length, hj]
  exact g1
end

/-! ### statements -/
/-- an error: its class's name, its own fields -/
structure Er where
  nm : Str
  fs : List (Str × D)
/-- the error as it is raised -/
def ErOk (K : PySem.W.Frag) (H : Hp) (e : Er) (cls : Value) (d : Option Addr) : Prop :=
  cls = .ref (He.ga K e.nm) ∧ match e.fs with
    | [] => d = none
    | fs => ∃ (dd : Addr) (xs : List (Str × V)), d = some dd ∧ H dd = some (.xd xs) ∧ xs.map (·.1) = fs.map (·.1) ∧ ∀ B, RpL K B (fs.map (·.2)) (xs.map (·.2))
inductive Out where
  | nx (env : List Bd) | bk (env : List Bd) | ct (env : List Bd) | rx (d : D) | rm (d d' : D) | rf (d : D) | er (e : Er) (env : List Bd) | rt (t : Tr) | rs (d : D) (t : Tr)
def Out.ret : Out → Bool
  | .rx _ => true
  | .rm _ _ => true
  | .rf _ => true
  | .rt _ => true
  | .rs _ _ => true
  | .er _ _ => true
  | _ => false
def Out.noer : Out → Bool
  | .er _ _ => false
  | _ => true
section
variable {K : PySem.W.Frag} {We : WX} {X : Addr → Prop} {a0 : Addr} {H0 : Hp} {M : Msk} {ad : Nat → List Addr} {σ : St} {H H' : Hp} {env env' env'' : List Bd} {l l' : Lv} {p q : Bool} {d d' e : D} {ta tb te : TE} {t u : TT} {i j : Nat} {b c : Bool} {ts tu te' : TS} {o : Out} {Dn : Ends}
def OK (K : PySem.W.Frag) (We : WX) (X : Addr → Prop) (a0 : Addr) (H0 : Hp) (Dn : Ends) : Out → Prop
  | .nx env => ∀ M ad σ H, ER K X a0 H0 M ad σ H env → Dn.nx σ H
  | .bk env => ∀ M ad σ H, ER K X a0 H0 M ad σ H env → Dn.bk σ H
  | .ct env => ∀ M ad σ H, ER K X a0 H0 M ad σ H env → Dn.ct σ H
  | .rx d => ∀ env M ad σ v H, ER K X a0 H0 M ad σ H env → Rp K (hid X H) d v → Dn.rt v H
  | .rm d d' => ∀ env M ad σ v H, env[0]? = some (.mu d') → ER K X a0 H0 M ad σ H env → Rp K (hid X H) d v → Dn.rt v H
  | .rf d => ∀ env M ad σ a H H', H a = none → ER K X a0 H0 M ad σ H env → Ex H H' → Cell K (hid X H) H' a d → Dn.rt (.ref a) H'
  | .er e env => ∀ M ad σ cls d H, ER K X a0 H0 M ad σ H env → ErOk K H e cls d → We cls d σ H
  | .rt t => ∀ env M ad σ v as H, ER K X a0 H0 M ad σ H env → as.Nodup → (∀ a ∈ as, H0 a = none ∧ ¬ X a) → Ow K (hid (fun b => X b ∨ b ∈ as) H) H t v as → Dn.rt v H
  | .rs d t => ∀ env M ad σ v H, env[0]? = some (.tm t) → ER K X a0 H0 M ad σ H env → Rp K (hid (fun a => M.m a ∨ X a) H) d v → Dn.rt v H
def SD (K : PySem.W.Frag) (We : WX) (ts : TS) (env : List Bd) (o : Out) : Prop :=
  ∀ X a0 H0 M ad σ H Dn, ER K X a0 H0 M ad σ H env → OK K We X a0 H0 Dn o → ts Dn σ H
def Out.nxt : Out → Bool
  | .nx _ => true
  | _ => false
theorem sd_seq (h1 : SD K We ts env (.nx env')) (h2 : SD K We tu env' o) : SD K We (tSeq ts tu) env o := fun X a0 H0 M ad σ H Dn E k =>
  h1 X a0 H0 M ad σ H { Dn with nx := tu Dn } E fun M' ad' σ' H' E' => h2 X a0 H0 M' ad' σ' H' Dn E' k
theorem sd_out (h1 : SD K We ts env o) (ho : o.nxt = false) : SD K We (tSeq ts tu) env o := fun X a0 H0 M ad σ H Dn E k =>
  h1 X a0 H0 M ad σ H { Dn with nx := tu Dn } E (by cases o <;> first | exact k | cases ho)
theorem sd_next : SD K We tNext env (.nx env) := fun X a0 H0 M ad σ H Dn E k => k M ad σ H E
theorem sd_break : SD K We tBreak env (.bk env) := fun X a0 H0 M ad σ H Dn E k => k M ad σ H E
theorem sd_cont : SD K We tCont env (.ct env) := fun X a0 H0 M ad σ H Dn E k => k M ad σ H E
theorem sd_drop (h : EvD K l p te env env' d) : SD K We (tDrop te) env (.nx env') := fun X a0 H0 M ad σ H Dn E k =>
  h X a0 H0 M ad σ H _ E fun v H' E' _ _ _ => k M ad σ H' E'
theorem sd_ret (h : EvD K .l3 p te env env' d) : SD K We (tRet te) env (.rx d) := fun X a0 H0 M ad σ H Dn E k =>
  h X a0 H0 M ad σ H _ E fun v H' E' _ _ r => k env' M ad σ v H' E' r
theorem sd_retM (h : EvD K .l3 p te env env' d) (hm : env'[0]? = some (.mu d')) : SD K We (tRet te) env (.rm d d') := fun X a0 H0 M ad σ H Dn E k =>
  h X a0 H0 M ad σ H _ E fun v H' E' _ _ r => k env' M ad σ v H' hm E' r
theorem sd_retN : SD K We tRetN env (.rx .non) := fun X a0 H0 M ad σ H Dn E k => k env M ad σ _ H E rfl
theorem sd_retF (h : EvF K p te env env' d) : SD K We (tRet te) env (.rf d) := fun X a0 H0 M ad σ H Dn E k =>
  h X a0 H0 M ad σ H _ E fun a H1 H' ha _ E1 g _ _ r => k env' M ad σ a H1 H' ha E1 g (r.mono (hid_le fun _ z => .inr z) rfl)
theorem sd_if (h : EvB K p t env env' b) (h1 : b = true → SD K We ts env' o) (h2 : b = false → SD K We tu env' o) : SD K We (tIfS t ts tu) env o := fun X a0 H0 M ad σ H Dn E k =>
  h X a0 H0 M ad σ H _ E fun H1 E1 _ _ => by
    cases b with
    | true => exact h1 rfl X a0 H0 M ad σ H1 Dn E1 k
    | false => exact h2 rfl X a0 H0 M ad σ H1 Dn E1 k
/-- an if whose ways leave, ahead of more -/
theorem sd_ifs (h : EvB K p t env env' b) (h1 : b = true → SD K We (tSeq ts te') env' o) (h2 : b = false → SD K We (tSeq tu te') env' o) : SD K We (tSeq (tIfS t ts tu) te') env o := fun X a0 H0 M ad σ H Dn E k =>
  h X a0 H0 M ad σ H _ E fun H1 E1 _ _ => by
    cases b with
    | true => exact h1 rfl X a0 H0 M ad σ H1 Dn E1 k
    | false => exact h2 rfl X a0 H0 M ad σ H1 Dn E1 k
theorem sd_seqNext (h : SD K We te' env o) : SD K We (tSeq tNext te') env o := h
theorem sd_o {o' : Out} (h : SD K We ts env o) (e : o = o') : SD K We ts env o' := e ▸ h

theorem set_cases {x : Bd} {j : Nat} {b : Bd} (h : (env.set i x)[j]? = some b) : (j = i ∧ b = x ∧ i < env.length) ∨ (j ≠ i ∧ env[j]? = some b) := by
  by_cases e : j = i
  · subst e
    have hl : j < env.length := by
      have := (List.getElem?_eq_some_iff.mp h).1
      simpa using this
    rw [List.getElem?_set_self hl] at h
    exact .inl ⟨rfl, (Option.some.inj h).symm, hl⟩
  · rw [List.getElem?_set_ne (Ne.symm e)] at h
    exact .inr ⟨e, h⟩
theorem set_own {x : Bd} {j : Nat} {t : Tr} (h : own (env.set i x)[j]? = some t) : (j = i ∧ own (some x) = some t ∧ i < env.length) ∨ (j ≠ i ∧ own env[j]? = some t) := by
  cases q : (env.set i x)[j]? with
  | none => rw [q] at h; cases h
  | some b =>
    rcases set_cases q with ⟨h1, h2, h3⟩ | ⟨h1, h2⟩
    · rw [q, h2] at h; exact .inl ⟨h1, h, h3⟩
    · rw [q] at h; exact .inr ⟨h1, by rw [h2]; exact h⟩
theorem own_some {o : Option Bd} (h : own o ≠ none) : ∃ t, own o = some t := by
  cases e : own o with
  | none => exact absurd e h
  | some t => exact ⟨t, rfl⟩
theorem own_ne {o : Option Bd} {t : Tr} (h : own o = some t) : own o ≠ none := by rw [h]; exact fun z => nomatch z
/-- a slot given something that isn't one's own -/
theorem ER.setB (E : ER K X a0 H0 M ad σ H env) {x : Option V} {bd : Bd} (ho : own (some bd) = none)
    (him : ∀ d, bd = .im d → ∃ v, x = some v ∧ Rp K (hid (fun a => M.m a ∨ X a) H) d v) (hrd : ∀ d, bd = .rd d → ∃ v, x = some v ∧ Rp K (hid M.m H) d v) (hq : ∀ t, bd ≠ .tq t) (hp : ∀ v, bd ≠ .pn v := by intro _ h; cases h) :
    ER K X a0 H0 M ad (σ.set i x) H (env.set i bd) := by
  have σo : ∀ j : Nat, j ≠ i → (σ.set i x)[j]? = σ[j]? := fun j e => List.getElem?_set_ne (Ne.symm e)
  have σi : i < env.length → (σ.set i x)[i]? = some x := fun hl => List.getElem?_set_self (by rw [E.len]; exact hl)
  have wo : ∀ (j : Nat) t, own (env.set i bd)[j]? = some t → j ≠ i ∧ own env[j]? = some t := fun j t h => by
    rcases set_own h with ⟨_, z, _⟩ | z
    · rw [ho] at z; cases z
    · exact z
  refine ⟨by simp [E.len], E.ex, E.xin, E.min, E.mout, fun j d h => ?_, fun j d h => ?_, fun j t h => ?_, fun j t h => ?_, fun j t h => ?_, fun j k hjk h1 h2 => ?_, fun j t h => ?_⟩
  · rcases set_cases h with ⟨rfl, z, hl⟩ | ⟨z, h⟩
    · obtain ⟨v, rfl, r⟩ := him d z.symm
      exact ⟨v, σi hl, r⟩
    · obtain ⟨w, h1, h2⟩ := E.im j d h
      exact ⟨w, by rw [σo j z]; exact h1, h2⟩
  · rcases set_cases h with ⟨rfl, z, hl⟩ | ⟨z, h⟩
    · obtain ⟨v, rfl, r⟩ := hrd d z.symm
      exact ⟨v, σi hl, r⟩
    · obtain ⟨w, h1, h2⟩ := E.rd j d h
      exact ⟨w, by rw [σo j z]; exact h1, h2⟩
  · obtain ⟨z, h⟩ := wo j t h
    obtain ⟨h1, h2, v, h3, h4⟩ := E.ws j t h
    exact ⟨h1, h2, v, by rw [σo j z]; exact h3, h4⟩
  · rcases set_cases h with ⟨_, z, _⟩ | ⟨z, h⟩
    · rw [← z] at ho; cases ho
    · exact E.xt j t h
  · rcases set_cases h with ⟨_, z, _⟩ | ⟨z, h⟩
    · exact absurd z.symm (hq t)
    · obtain ⟨v, as, h1, h2⟩ := E.tq j t h
      exact ⟨v, as, by rw [σo j z]; exact h1, h2⟩
  · obtain ⟨t, h1⟩ := own_some h1
    obtain ⟨u, h2⟩ := own_some h2
    exact E.dj j k hjk (own_ne (wo j t h1).2) (own_ne (wo k u h2).2)
  · obtain ⟨b, h, hc⟩ := pin_some h
    rcases set_cases h with ⟨_, z, _⟩ | ⟨z, h⟩
    · rcases hc with ⟨t, e, _⟩ | e
      · rw [← z, e] at ho; cases ho
      · exact absurd (z.symm.trans e) (hp _)
    · rw [σo j z]; exact E.t0 j t (by rw [h]; rcases hc with ⟨t, rfl, rfl⟩ | rfl <;> rfl)
/-- a slot given data -/
theorem ER.setIm (E : ER K X a0 H0 M ad σ H env) {v : V} (hm : isMu env[i]? = false) (r : Rp K (hid (fun a => M.m a ∨ X a) H) d v) : ER K X a0 H0 M ad (σ.set i (some v)) H (env.set i (.im d)) :=
  E.setB rfl (fun d' e => by cases e; exact ⟨v, rfl, r⟩) (fun d' e => by cases e) (fun t e => by cases e)
end
end Pw
namespace Pw
open PySem L2

section
variable {K : PySem.W.Frag} {We : WX} {X : Addr → Prop} {a0 : Addr} {H0 : Hp} {M : Msk} {ad : Nat → List Addr} {σ : St} {H H' H1 : Hp} {env env' env'' : List Bd} {l l' : Lv} {p q : Bool} {d d' e : D} {ta tb te ti : TE} {t u : TT} {i j : Nat} {b c : Bool} {ts tu : TS} {o : Out} {Dn : Ends}
theorem set_mu {x : Bd} {j : Nat} (hx : isMu (some x) = false) (h : isMu (env.set i x)[j]? = true) : j ≠ i ∧ isMu env[j]? = true := by
  cases q : (env.set i x)[j]? with
  | none => rw [q] at h; cases h
  | some b =>
    rcases set_cases q with ⟨_, rfl, _⟩ | ⟨z, e⟩
    · rw [q, hx] at h; cases h
    · rw [q] at h; exact ⟨z, by rw [e]; exact h⟩
theorem mu_set {x : Bd} {j : Nat} (hm : isMu env[i]? = false) (hj : isMu env[j]? = true) : isMu (env.set i x)[j]? = true := by
  have : j ≠ i := fun z => by subst z; rw [hm] at hj; cases hj
  rw [List.getElem?_set_ne (Ne.symm this)]; exact hj
/-- .. and objects more -/
def Msk.plusL (M : Msk) (as : List Addr) : Msk := ⟨fun b => M.n b ∨ b ∈ as, fun b => M.m b ∨ b ∈ as, fun b h => h.imp (M.le b) id⟩
@[reducible] def Msk.plus (M : Msk) (a : Addr) : Msk := M.plusL [a]
def Msk.hide (M : Msk) (a : Addr) : Msk := ⟨M.n, fun b => M.m b ∨ b = a, fun b h => .inl (M.le b h)⟩
/-- an own tree changed -/
theorem ER.chg (E : ER K X a0 H0 M ad σ H env) {t t' : Tr} (h : own env[i]? = some t) {bd : Bd} (hb : own (some bd) = some t') (hk : ∀ u, bd = .tr u → ∃ u0, env[i]? = some (.tr u0)) (hk0 : ∀ u, bd = .tm u → ∃ u0, env[i]? = some (.tm u0)) {M' : Msk} {ad' : Nat → List Addr} {v : V} (hv : σ[i]? = some (some v))
    (hn : ∀ b, M.n b → M'.n b) (hm : ∀ b, M'.m b → M.m b ∨ b ∈ ad' i) (hm2 : ∀ b, M.m b → M'.m b) (ha : ∀ j, j ≠ i → ad' j = ad j) (hs : ∀ b ∈ ad' i, M'.n b ∧ (b ∈ ad i ∨ H b = none)) (nd : (ad' i).Nodup)
    (keep : ∀ b o, b ∉ ad i → H b = some o → H' b = some o) (nts : ∀ b ∈ ad i, Nt (H' b)) (w : Ow K (hid (fun b => M'.m b ∨ X b) H') H' t' v (ad' i)) : ER K X a0 H0 M' ad' σ H' (env.set i bd) := by
  obtain ⟨an, _, _⟩ := E.ws i t h
  have hil : i < env.length := by
    cases q : env[i]? with
    | none => rw [q] at h; cases h
    | some b => exact (List.getElem?_eq_some_iff.mp q).1
  have ex' : Ex H0 H' := fun b o hb => keep b o (fun z => by rw [E.mout b (M.le b (an b z))] at hb; cases hb) (E.ex b o hb)
  have nt' : ∀ b, Nt (H b) → Nt (H' b) := fun b q => by
    by_cases z : b ∈ ad i
    · exact nts b z
    · cases e : H b with
      | none => exact absurd e q.1
      | some o => rw [keep b o z e, ← e]; exact q
  have mm : ∀ b o, ¬ M.m b → H b = some o → ¬ M'.m b ∧ H' b = some o := fun b o h1 h2 => by
    refine ⟨fun z => ?_, keep b o (fun z => h1 (M.le b (an b z))) h2⟩
    rcases hm b z with z | z
    · exact h1 z
    · rcases (hs b z).2 with y | y
      · exact h1 (M.le b (an b y))
      · rw [y] at h2; cases h2
  have up : Ex (hid (fun b => M.m b ∨ X b) H) (hid (fun b => M'.m b ∨ X b) H') := hid_two fun b o h1 h2 => ⟨fun z => z.elim (mm b o (fun y => h1 (.inl y)) h2).1 fun y => h1 (.inr y), (mm b o (fun y => h1 (.inl y)) h2).2⟩
  have up1 : Ex (hid M.m H) (hid M'.m H') := hid_two mm
  have wo : ∀ (j : Nat) u, own (env.set i bd)[j]? = some u → j ≠ i → own env[j]? = some u := fun j u q z => by
    rcases set_own q with ⟨y, _⟩ | ⟨_, y⟩
    · exact absurd y z
    · exact y
  have there : ∀ (j : Nat), own (env.set i bd)[j]? ≠ none → own env[j]? ≠ none := fun j q => by
    obtain ⟨u, q⟩ := own_some q
    by_cases z : j = i
    · rw [z]; exact own_ne h
    · exact own_ne (wo j u q z)
  refine ⟨by simp [E.len], ex', fun b hb => nt' b (E.xin b hb), fun b hb => ?_, fun b hb => ?_, fun j d q => ?_, fun j d q => ?_, fun j u q => ?_, fun j u q a hj => ?_, fun j u q => ?_, fun j k hjk h1 h2 a hj hk' => ?_, fun j u q => ?_⟩
  · rcases hm b hb with z | z
    · exact nt' b (E.min b z)
    · exact Ow.nt _ _ _ w b z
  · rcases hm b hb with z | z
    · exact E.mout b z
    · rcases (hs b z).2 with y | y
      · exact E.mout b (M.le b (an b y))
      · cases q : H0 b with
        | none => rfl
        | some o => rw [E.ex b o q] at y; cases y
  · rcases set_cases q with ⟨_, z, _⟩ | ⟨z, q⟩
    · rw [← z] at hb; cases hb
    · obtain ⟨x, h1, h2⟩ := E.im j d q
      exact ⟨x, h1, Rp.mono up _ _ h2⟩
  · rcases set_cases q with ⟨_, z, _⟩ | ⟨z, q⟩
    · rw [← z] at hb; cases hb
    · obtain ⟨x, h1, h2⟩ := E.rd j d q
      exact ⟨x, h1, Rp.mono up1 _ _ h2⟩
  · rcases set_own q with ⟨z, y, _⟩ | ⟨z, q⟩
    · rw [hb] at y
      cases y
      rw [z]
      exact ⟨fun b hb => (hs b hb).1, nd, v, hv, w⟩
    · obtain ⟨h1, h2, x, h3, h4⟩ := E.ws j u q
      rw [ha j z]
      refine ⟨fun b hb => hn b (h1 b hb), h2, x, h3, Ow.mono up _ _ _ (fun b hb => ?_) h4⟩
      cases e : H b with
      | none => exact absurd e (Ow.nt _ _ _ h4 b hb).1
      | some o => exact keep b o (E.dj j i z (own_ne q) (own_ne h) b hb) e
  · rcases set_cases q with ⟨z, y, _⟩ | ⟨z, q⟩
    · obtain ⟨u0, e⟩ := hk u y.symm
      rw [z] at hj
      rcases (hs a hj).2 with y | y
      · exact E.xt i u0 e a y
      · exact fun x => (E.xin a x).1 y
    · rw [ha j z] at hj
      exact E.xt j u q a hj
  · rcases set_cases q with ⟨_, z, _⟩ | ⟨z, q⟩
    · rw [← z] at hb; cases hb
    · obtain ⟨x, as, h1, h2, h3, h4⟩ := E.tq j u q
      refine ⟨x, as, h1, fun b hb => ⟨(h2 b hb).1, fun z => ?_⟩, h3, Ow.mono up _ _ _ (fun b hb => ?_) h4⟩
      · rcases hm b z with z | z
        · exact (h2 b hb).2 z
        · rcases (hs b z).2 with y | y
          · exact (h2 b hb).2 (M.le b (an b y))
          · exact (Ow.nt _ _ _ h4 b hb).1 y
      · cases e : H b with
        | none => exact absurd e (Ow.nt _ _ _ h4 b hb).1
        | some o => exact keep b o (fun z => (h2 b hb).2 (M.le b (an b z))) e
  · by_cases zj : j = i
    · by_cases zk : k = i
      · exact hjk (zj.trans zk.symm)
      · rw [zj] at hj
        rw [ha k zk] at hk'
        rcases (hs a hj).2 with y | y
        · exact E.dj i k (fun z => zk z.symm) (own_ne h) (there k h2) a y hk'
        · obtain ⟨u, q⟩ := own_some (there k h2)
          obtain ⟨_, _, x, _, h4⟩ := E.ws k u q
          exact (Ow.nt _ _ _ h4 a hk').1 y
    · rw [ha j zj] at hj
      by_cases zk : k = i
      · rw [zk] at hk'
        rcases (hs a hk').2 with y | y
        · exact E.dj j i zj (there j h1) (own_ne h) a hj y
        · obtain ⟨u, q⟩ := own_some (there j h1)
          obtain ⟨_, _, x, _, h4⟩ := E.ws j u q
          exact (Ow.nt _ _ _ h4 a hj).1 y
      · rw [ha k zk] at hk'
        exact E.dj j k hjk (there j h1) (there k h2) a hj hk'
  · obtain ⟨b', q, hc⟩ := pin_some q
    rcases set_cases q with ⟨z, y, _⟩ | ⟨z, q⟩
    · rcases hc with ⟨t, e, ev⟩ | e
      · obtain ⟨u0, e⟩ := hk0 t (y.symm.trans e)
        rw [z]; exact E.t0 i u (by rw [e, ev]; rfl)
      · rw [← y, e] at hb; cases hb
    · exact E.t0 j u (by rw [q]; rcases hc with ⟨t, rfl, rfl⟩ | rfl <;> rfl)
/-- a slot given a tree of one's own -/
theorem ER.setTr (E : ER K X a0 H0 M ad σ H1 env) {as : List Addr} {t : Tr} {v : V} (ha : ∀ a ∈ as, H1 a = none) (nd : as.Nodup) (g : Ex H1 H') (w : Ow K (hid (fun b => M.m b ∨ X b) H1) H' t v as) :
    ER K X a0 H0 (M.plusL as) (fun j => if j = i then as else ad j) (σ.set i (some v)) H' (env.set i (.tr t)) := by
  have σo : ∀ j : Nat, j ≠ i → (σ.set i (some v))[j]? = σ[j]? := fun j e => List.getElem?_set_ne (Ne.symm e)
  have na : ∀ b o, H1 b = some o → b ∉ as := fun b o h z => by rw [ha b z] at h; cases h
  have up : Ex (hid (fun b => M.m b ∨ X b) H1) (hid (fun b => (M.plusL as).m b ∨ X b) H') := hid_two fun b o h1 h2 => ⟨fun z => by
    rcases z with (z | z) | z
    · exact h1 (.inl z)
    · exact na b o h2 z
    · exact h1 (.inr z), g b o h2⟩
  have up1 : Ex (hid M.m H1) (hid (M.plusL as).m H') := hid_two fun b o h1 h2 => ⟨fun z => z.elim h1 (na b o h2), g b o h2⟩
  have keep : ∀ b, Nt (H1 b) → H' b = H1 b := fun b h => by
    cases q : H1 b with
    | none => exact absurd q h.1
    | some o => exact g b o q
  have sub : ∀ (j : Nat) u, own env[j]? = some u → ∀ a ∈ ad j, a ∉ as := fun j u q a hj hx => by
    obtain ⟨_, _, _, _, h4⟩ := E.ws j u q
    exact (Ow.nt _ _ _ h4 a hj).1 (ha a hx)
  refine ⟨by simp [E.len], E.ex.trans g, fun b hb => (E.xin b hb).ex g, fun b hb => ?_, fun b hb => ?_, fun j e h => ?_, fun j e h => ?_, fun j u q => ?_, fun j u q a hj => ?_, fun j u q => ?_, fun j k hjk h1 h2 a hj hk' => ?_, fun j u q => ?_⟩
  · rcases hb with hb | hb
    · exact (E.min b hb).ex g
    · exact Ow.nt _ _ _ w b hb
  · rcases hb with hb | hb
    · exact E.mout b hb
    · cases q : H0 b with
      | none => rfl
      | some o => have := ha b hb; rw [E.ex b o q] at this; cases this
  · rcases set_cases h with ⟨_, z, _⟩ | ⟨z, h⟩
    · cases z
    · obtain ⟨w, h1, h2⟩ := E.im j e h
      exact ⟨w, by rw [σo j z]; exact h1, Rp.mono up _ _ h2⟩
  · rcases set_cases h with ⟨_, z, _⟩ | ⟨z, h⟩
    · cases z
    · obtain ⟨w, h1, h2⟩ := E.rd j e h
      exact ⟨w, by rw [σo j z]; exact h1, Rp.mono up1 _ _ h2⟩
  · rcases set_own q with ⟨z, z', hl⟩ | ⟨z, q⟩
    · cases z'
      subst z
      rw [if_pos rfl]
      exact ⟨fun b hb => .inr hb, nd, v, List.getElem?_set_self (by rw [E.len]; exact hl), Ow.mono up _ _ _ (fun _ _ => rfl) w⟩
    · obtain ⟨h1, h2, x, h3, h4⟩ := E.ws j u q
      rw [if_neg z]
      exact ⟨fun b hb => .inl (h1 b hb), h2, x, by rw [σo j z]; exact h3, Ow.mono up _ _ _ (fun b hb => keep b (Ow.nt _ _ _ h4 b hb)) h4⟩
  · rcases set_cases q with ⟨z, y, _⟩ | ⟨z, q⟩
    · rw [if_pos z] at hj
      exact fun x => (E.xin a x).1 (ha a hj)
    · rw [if_neg z] at hj
      exact E.xt j u q a hj
  · rcases set_cases q with ⟨_, z, _⟩ | ⟨z, q⟩
    · cases z
    · obtain ⟨x, bs, h1, h2, h3, h4⟩ := E.tq j u q
      exact ⟨x, bs, by rw [σo j z]; exact h1, fun b hb => ⟨(h2 b hb).1, fun z => z.elim (h2 b hb).2 fun z => (Ow.nt _ _ _ h4 b hb).1 (ha b z)⟩, h3, Ow.mono up _ _ _ (fun b hb => keep b (Ow.nt _ _ _ h4 b hb)) h4⟩
  · obtain ⟨u1, h1⟩ := own_some h1
    obtain ⟨u2, h2⟩ := own_some h2
    rcases set_own h1 with ⟨zj, _⟩ | ⟨zj, h1⟩
    · rcases set_own h2 with ⟨zk, _⟩ | ⟨zk, h2⟩
      · exact hjk (zj.trans zk.symm)
      · rw [if_pos zj] at hj
        rw [if_neg zk] at hk'
        exact sub k u2 h2 a hk' hj
    · rw [if_neg zj] at hj
      rcases set_own h2 with ⟨zk, _⟩ | ⟨zk, h2⟩
      · rw [if_pos zk] at hk'
        exact sub j u1 h1 a hj hk'
      · rw [if_neg zk] at hk'
        exact E.dj j k hjk (own_ne h1) (own_ne h2) a hj hk'
  · obtain ⟨b', q, hc⟩ := pin_some q
    rcases set_cases q with ⟨_, z, _⟩ | ⟨z, q⟩
    · rcases hc with ⟨t, e, _⟩ | e <;> rw [e] at z <;> cases z
    · rw [σo j z]; exact E.t0 j u (by rw [q]; rcases hc with ⟨t, rfl, rfl⟩ | rfl <;> rfl)
/-- a slot given an object of one's own -/
theorem ER.setOw (E : ER K X a0 H0 M ad σ H1 env) {a : Addr} (hm : isMu env[i]? = false) (ha : H1 a = none) (g : Ex H1 H') (r : Cell K (hid (fun b => M.m b ∨ X b) H1) H' a d) :
    ER K X a0 H0 (M.plus a) (fun j => if j = i then [a] else ad j) (σ.set i (some (.ref a))) H' (env.set i (.ow d)) :=
  E.setTr (fun b hb => by rw [List.mem_singleton.mp hb]; exact ha) (List.pairwise_singleton ..) g (Ow.cell.mpr ⟨a, rfl, rfl, r⟩)
/-- an own object written -/
theorem ER.cellG (E : ER K X a0 H0 M ad σ H env) {o : HO} {bd : Bd} (h : own env[i]? = some (Tr.of d)) (hb : own (some bd) = some (Tr.of d')) (hk : ∀ u, bd = .tr u → ∃ u0, env[i]? = some (.tr u0)) (hk0 : ∀ u, bd = .tm u → ∃ u0, env[i]? = some (.tm u0)) (r : Cell K (hid (fun b => M.m b ∨ X b) H) (upd H (rt ad i) o) (rt ad i) d') :
    ER K X a0 H0 M ad σ (upd H (rt ad i) o) (env.set i bd) := by
  obtain ⟨ea, hn, hσ, hc⟩ := E.cl h
  have e : hid (fun b => M.m b ∨ X b) (upd H (rt ad i) o) = hid (fun b => M.m b ∨ X b) H := hid_upd (.inl (M.le _ hn))
  refine E.chg h hb hk hk0 hσ (fun _ z => z) (fun _ z => .inl z) (fun _ z => z) (fun _ _ => rfl) (fun b hb => ⟨(E.ws i _ h).1 b hb, .inl hb⟩) (E.ws i _ h).2.1 (fun b u hb q => ?_) (fun b hb => ?_) ?_
  · rw [upd_ne fun z => hb (by rw [ea, z]; exact List.mem_singleton.mpr rfl)]; exact q
  · rw [ea] at hb
    rw [List.mem_singleton.mp hb]; exact r.some
  · rw [e]
    exact Ow.cell.mpr ⟨_, rfl, ea, r⟩
theorem ER.cellOw (E : ER K X a0 H0 M ad σ H env) {o : HO} (h : env[i]? = some (.ow d)) (r : Cell K (hid (fun b => M.m b ∨ X b) H) (upd H (rt ad i) o) (rt ad i) d') :
    ER K X a0 H0 M ad σ (upd H (rt ad i) o) (env.set i (.ow d')) := E.cellG (by rw [h]; rfl) rfl (fun _ _ => ⟨_, h⟩) (fun _ z => nomatch z) r
/-- .. the one that was handed in -/
theorem ER.cellMu (E : ER K X a0 H0 M ad σ H env) {o : HO} (h : env[i]? = some (.mu d)) (r : Cell K (hid (fun b => M.m b ∨ X b) H) (upd H (rt ad i) o) (rt ad i) d') :
    ER K X a0 H0 M ad σ (upd H (rt ad i) o) (env.set i (.mu d')) := E.cellG (by rw [h]; rfl) rfl (fun _ z => nomatch z) (fun _ _ => ⟨_, h⟩) r
/-! ### statements that store -/
theorem sd_asg (hm : isMu env'[i]? = false) (h : EvD K .l2 p te env env' d) : SD K We (tAsg te (gName i)) env (.nx (env'.set i (.im d))) := fun X a0 H0 M ad σ H Dn E k =>
  h X a0 H0 M ad σ H _ E fun v H' E' _ _ r => k M ad (σ.set i (some v)) H' (E'.setIm hm r)
theorem sd_asgF (hm : isMu env'[i]? = false) (h : EvF K p te env env' d) : SD K We (tAsg te (gName i)) env (.nx (env'.set i (.ow d))) := fun X a0 H0 M ad σ H Dn E k =>
  h X a0 H0 M ad σ H _ E fun a H1 H' ha _ E1 g _ _ r => k _ _ _ H' (E1.setOw hm ha g r)
theorem sd_append {ds : List D} (h : env'[i]? = some (.ow (.lst ds))) (h0 : env[i]? = some (.ow (.lst ds))) (he : EvD K .l2 p te env env' d) (hn : ds.length < 100000) :
    SD K We (tDrop (tBM K "list" rAppend (tVar i) (tCons te tNil))) env (.nx (env'.set i (.ow (.lst (ds ++ [d]))))) := fun X a0 H0 M ad σ H Dn E k => by
  obtain ⟨_, h2, xs0, h3, _⟩ := E.ow i _ h0
  refine ⟨_, h2, .inl ⟨rfl, xs0, SqL.of h3⟩, he X a0 H0 M ad σ H _ E fun v H1 E1 _ _ r => ?_⟩
  obtain ⟨_, _, xs, h4, h5⟩ := E1.ow i _ h
  have hz : xs.length < sizeLine := by rw [h5.length]; exact Nat.lt_of_lt_of_le hn (by decide)
  exact ⟨rt ad i, xs, v, rfl, rfl, h4, hz, k M ad σ _ (E1.cellOw h ⟨_, upd_same, RpL.append h5 (RpL.one r)⟩)⟩
theorem sd_setOw {ds : List D} {n : Int} (h : env''[i]? = some (.ow (.lst ds))) (h0 : env'[i]? = some (.ow (.lst ds))) (he : EvD K .l2 p te env env' d) (hi : EvD K l true ti env' env'' (.int n)) (hj : ixN ds.length n = some j) :
    SD K We (tAsg te (gSub (tVar i) ti rSetL)) env (.nx (env''.set i (.ow (.lst (ds.set j d))))) := fun X a0 H0 M ad σ H Dn E k =>
  he X a0 H0 M ad σ H _ E fun v H1 E1 _ _ r => by
    obtain ⟨_, h2, _⟩ := E1.ow i _ h0
    refine ⟨_, h2, hi X a0 H0 M ad σ H1 _ E1 fun y H2 E2 e2 p2 r2 => ?_⟩
    obtain ⟨_, _, xs, h4, h5⟩ := E2.ow i _ h
    exact ⟨rt ad i, xs, n, j, rfl, r2, h4, by rw [h5.length]; exact hj, k M ad σ _ (E2.cellOw h ⟨_, upd_same, RpL.set h5 (Rp.mono (hid_ex (p2 rfl)) _ _ r)⟩)⟩
theorem sd_setMu {ds : List D} {n : Int} (h : env''[i]? = some (.mu (.lst ds))) (h0 : env'[i]? = some (.mu (.lst ds))) (he : EvD K .l2 p te env env' d) (hi : EvD K l true ti env' env'' (.int n)) (hj : ixN ds.length n = some j) :
    SD K We (tAsg te (gSub (tVar i) ti rSetL)) env (.nx (env''.set i (.mu (.lst (ds.set j d))))) := fun X a0 H0 M ad σ H Dn E k =>
  he X a0 H0 M ad σ H _ E fun v H1 E1 _ _ r => by
    obtain ⟨_, h2, _⟩ := E1.mu i _ h0
    refine ⟨_, h2, hi X a0 H0 M ad σ H1 _ E1 fun y H2 E2 e2 p2 r2 => ?_⟩
    obtain ⟨_, _, xs, h4, h5⟩ := E2.mu i _ h
    exact ⟨rt ad i, xs, n, j, rfl, r2, h4, by rw [h5.length]; exact hj, k M ad σ _ (E2.cellMu h ⟨_, upd_same, RpL.set h5 (Rp.mono (hid_ex (p2 rfl)) _ _ r)⟩)⟩
end
end Pw
namespace Pw
open PySem L2

section
variable {K : PySem.W.Frag} {We : WX} {X : Addr → Prop} {a0 : Addr} {H0 : Hp} {M M' : Msk} {ad ad' : Nat → List Addr} {σ σ' : St} {H H' H1 : Hp} {env env' env'' : List Bd} {l l' : Lv} {p q : Bool} {d d' e : D} {ta tb te ti : TE} {t u : TT} {i j : Nat} {b c : Bool} {ts tu : TS} {o : Out} {Dn : Ends}
/-! ### targets -/
def TgD (K : PySem.W.Frag) (l : Lv) (g : TG) (d : D) (env env' : List Bd) : Prop :=
  ∀ X a0 H0 M ad σ H v (Q : St → Hp → Prop), ER K X a0 H0 M ad σ H env → Rp K (hid (mk l M X) H) d v → (∀ σ', ER K X a0 H0 M ad σ' H env' → Q σ' H) → g v σ H Q
def TgsD (K : PySem.W.Frag) (l : Lv) (g : TGs) (ds : List D) (env env' : List Bd) : Prop :=
  ∀ X a0 H0 M ad σ H vs (Q : St → Hp → Prop), ER K X a0 H0 M ad σ H env → RpL K (hid (mk l M X) H) ds vs → (∀ σ', ER K X a0 H0 M ad σ' H env' → Q σ' H) → g vs σ H Q
theorem tg_name (hm : isMu env[i]? = false) : TgD K .l2 (gName i) d env (env.set i (.im d)) := fun X a0 H0 M ad σ H v Q E r k => k _ (E.setIm hm r)
theorem tg_nameS (hm : isMu env[i]? = false) (hs : scl d = true) : TgD K l (gName i) d env (env.set i (.im d)) := fun X a0 H0 M ad σ H v Q E r k => k _ (E.setIm hm (r.scl hs))
theorem tgs_nil : TgsD K l gNil [] env env := fun X a0 H0 M ad σ H vs Q E r k => ⟨r, k σ E⟩
theorem tgs_cons {g : TG} {gs : TGs} {ds : List D} (h : TgD K l g d env env') (hs : TgsD K l gs ds env' env'') : TgsD K l (gCons g gs) (d :: ds) env env'' := fun X a0 H0 M ad σ H vs Q E r k => by
  obtain ⟨x, xs, h1, h2, h3⟩ := r
  exact ⟨x, xs, h1, h X a0 H0 M ad σ H x _ E h2 fun σ' E' => hs X a0 H0 M ad σ' H xs Q E' h3 k⟩
theorem tg_tup {gs : TGs} {ds : List D} {n : Nat} (hn : ds.length = n) (h : TgsD K l gs ds env env') : TgD K l (gTup K n gs) (.tup ds) env env' := fun X a0 H0 M ad σ H v Q E r k => by
  obtain ⟨a, xs, h1, h2, h3⟩ := r
  exact ⟨a, xs, h1, ex_s hid_all h2, h3.length.trans hn, h X a0 H0 M ad σ H xs Q E h3 k⟩
theorem sd_asgG {g : TG} (h : EvD K l p te env env' d) (hg : TgD K l g d env' env'') : SD K We (tAsg te g) env (.nx env'') := fun X a0 H0 M ad σ H Dn E k =>
  h X a0 H0 M ad σ H _ E fun v H' E' _ _ r => hg X a0 H0 M ad σ H' v _ E' r fun σ' E'' => k M ad σ' H' E''

/-! ### several stores at once -/
theorem ER.mask0 (E : ER K X a0 H0 M ad σ H1 env) {as : List Addr} (N : Addr → Prop) (hN : ∀ b, M.n b → N b) (le : ∀ b, N b → M.m b ∨ b ∈ as) (ha : ∀ a ∈ as, H1 a = none) (g : Ex H1 H') (hs : ∀ a ∈ as, Nt (H' a)) : ER K X a0 H0 ⟨N, fun b => M.m b ∨ b ∈ as, le⟩ ad σ H' env := by
  have na : ∀ b o, H1 b = some o → b ∉ as := fun b o h z => by rw [ha b z] at h; cases h
  have up : Ex (hid (fun b => M.m b ∨ X b) H1) (hid (fun b => (M.m b ∨ b ∈ as) ∨ X b) H') := hid_two fun b o h1 h2 => ⟨fun z => by
    rcases z with (z | z) | z
    · exact h1 (.inl z)
    · exact na b o h2 z
    · exact h1 (.inr z), g b o h2⟩
  have up1 : Ex (hid M.m H1) (hid (fun b => M.m b ∨ b ∈ as) H') := hid_two fun b o h1 h2 => ⟨fun z => z.elim h1 (na b o h2), g b o h2⟩
  have keep : ∀ b, Nt (H1 b) → H' b = H1 b := fun b h => by
    cases q : H1 b with
    | none => exact absurd q h.1
    | some o => exact g b o q
  refine ⟨E.len, E.ex.trans g, fun b hb => (E.xin b hb).ex g, fun b hb => ?_, fun b hb => ?_, fun j e h => ?_, fun j e h => ?_, fun j u q => ?_, E.xt, fun j u q => ?_, E.dj, E.t0⟩
  · rcases hb with hb | hb
    · exact (E.min b hb).ex g
    · exact hs b hb
  · rcases hb with hb | hb
    · exact E.mout b hb
    · cases q : H0 b with
      | none => rfl
      | some o => have := ha b hb; rw [E.ex b o q] at this; cases this
  · obtain ⟨w, h1, h2⟩ := E.im j e h
    exact ⟨w, h1, Rp.mono up _ _ h2⟩
  · obtain ⟨w, h1, h2⟩ := E.rd j e h
    exact ⟨w, h1, Rp.mono up1 _ _ h2⟩
  · obtain ⟨h1, h2, x, h3, h4⟩ := E.ws j u q
    exact ⟨fun b hb => hN b (h1 b hb), h2, x, h3, Ow.mono up _ _ _ (fun b hb => keep b (Ow.nt _ _ _ h4 b hb)) h4⟩
  · obtain ⟨x, as', h1, h2, h3, h4⟩ := E.tq j u q
    exact ⟨x, as', h1, fun b hb => ⟨(h2 b hb).1, fun z => z.elim (h2 b hb).2 fun z => (Ow.nt _ _ _ h4 b hb).1 (ha b z)⟩, h3, Ow.mono up _ _ _ (fun b hb => keep b (Ow.nt _ _ _ h4 b hb)) h4⟩
theorem ER.maskL (E : ER K X a0 H0 M ad σ H1 env) {as : List Addr} (ha : ∀ a ∈ as, H1 a = none) (g : Ex H1 H') (hs : ∀ a ∈ as, Nt (H' a)) : ER K X a0 H0 (M.plusL as) ad σ H' env := E.mask0 (fun b => M.n b ∨ b ∈ as) (fun _ h => .inl h) (fun b h => h.imp (M.le b) id) ha g hs
theorem ER.maskN (E : ER K X a0 H0 M ad σ H1 env) {a : Addr} (ha : H1 a = none) (g : Ex H1 H') (hs : Nt (H' a)) : ER K X a0 H0 (M.plus a) ad σ H' env := E.maskL (fun b hb => by rw [List.mem_singleton.mp hb]; exact ha) g fun b hb => by rw [List.mem_singleton.mp hb]; exact hs
theorem ER.msk (E : ER K X a0 H0 M ad σ H env) {M' : Msk} (h : M = M') : ER K X a0 H0 M' ad σ H env := h ▸ E
theorem Msk.hide_eq (M : Msk) (a : Addr) : (⟨M.n, fun b => M.m b ∨ b ∈ [a], fun b h => .inl (M.le b h)⟩ : Msk) = M.hide a := by
  unfold Msk.hide
  congr 1
  funext b
  exact propext ⟨fun h => h.imp id List.mem_singleton.mp, fun h => h.imp id List.mem_singleton.mpr⟩
theorem ER.mask (E : ER K X a0 H0 M ad σ H1 env) {a : Addr} (ha : H1 a = none) (g : Ex H1 H') (hs : Nt (H' a)) : ER K X a0 H0 (M.hide a) ad σ H' env :=
  (E.mask0 (as := [a]) M.n (fun _ h => h) (fun b h => .inl (M.le b h)) (fun b hb => by rw [List.mem_singleton.mp hb]; exact ha) g fun b hb => by rw [List.mem_singleton.mp hb]; exact hs).msk (M.hide_eq a)
def PF (K : PySem.W.Frag) (ta : TA) (gs : TGs) (env envA envB : List Bd) : Prop :=
  ∀ X a0 H0 M ad0 ad σ τ H (Q : List V → Hp → Prop), ER K X a0 H0 M ad0 σ H env → ER K X a0 H0 M ad τ H envA →
    (∀ vs M' ad' τ' H', ER K X a0 H0 M' ad' τ' H' envB → Ex H H' → (∀ H'' (R : St → Hp → Prop), R τ' H'' → gs vs τ H'' R) → Q vs H') → ta σ H Q
theorem pf_nil {envA : List Bd} : PF K tNil gNil env envA envA := fun X a0 H0 M ad0 ad σ τ H Q E E' k => k [] M ad τ H E' (Ex.refl _) fun H'' R r => ⟨rfl, r⟩
theorem pf_im {ts : TA} {gs : TGs} {envA envB : List Bd} (hm : isMu envA[i]? = false) (h : EvD K .l2 true te env env d) (hr : PF K ts gs env (envA.set i (.im d)) envB) : PF K (tCons te ts) (gCons (gName i) gs) env envA envB :=
  fun X a0 H0 M ad0 ad σ τ H Q E E' k => h X a0 H0 M ad0 σ H _ E fun v H1 E1 e1 p1 r1 => hr X a0 H0 M ad0 ad σ _ H1 _ E1 ((E'.grow (p1 rfl)).setIm hm r1) fun vs M' ad' τ' H' E2 g f =>
    k (v :: vs) M' ad' τ' H' E2 ((p1 rfl).trans g) fun H'' R r => ⟨v, vs, rfl, f H'' R r⟩
theorem pf_ow {ts : TA} {gs : TGs} {envA envB : List Bd} (hm : isMu envA[i]? = false) (h : EvF K true te env env d) (hr : PF K ts gs env (envA.set i (.ow d)) envB) : PF K (tCons te ts) (gCons (gName i) gs) env envA envB :=
  fun X a0 H0 M ad0 ad σ τ H Q E E' k => h X a0 H0 M ad0 σ H _ E fun a H1 H2 ha _ E1 g e1 p1 r1 => hr X a0 H0 (M.plus a) ad0 _ σ _ H2 _ (E1.maskN ha g r1.some) ((E'.grow (p1 rfl)).setOw hm ha g r1) fun vs M' ad' τ' H' E2 g' f =>
    k (.ref a :: vs) M' ad' τ' H' E2 (((p1 rfl).trans g).trans g') fun H'' R r => ⟨.ref a, vs, rfl, f H'' R r⟩
theorem sd_parT {tA : TA} {gs : TGs} {n : Nat} (h : PF K tA gs env env env') (hl : ∀ vs τ H (R : St → Hp → Prop), gs vs τ H R → vs.length = n) (hn : n ≤ 1000) : SD K We (tAsg (tTup tA) (gTup K n gs)) env (.nx env') := fun X a0 H0 M ad σ H Dn E k =>
  h X a0 H0 M ad ad σ σ H _ E E fun vs M' ad' τ' H' E' g f => by
    have hvs : vs.length = n := hl vs σ H' (fun _ _ => True) (f H' _ trivial)
    refine ⟨by rw [hvs]; exact Nat.le_trans hn (by decide), fun a ha => ⟨a, vs, rfl, SqT.of upd_same, hvs, f _ _ (k M' ad' τ' _ (E'.grow (Ex.new ha)))⟩⟩
theorem sd_par {tA : TA} {x y : Nat} (h : PF K tA (gCons (gName x) (gCons (gName y) gNil)) env env env') : SD K We (tPar x y tA) env (.nx env') := fun X a0 H0 M ad σ H Dn E k =>
  h X a0 H0 M ad ad σ σ H _ E E fun vs M' ad' τ' H' E' g f => by
    obtain ⟨v, r, h1, w, r', h2, h3, h4⟩ := f H' (fun s _ => s = τ') rfl
    subst h2 h3
    exact ⟨v, w, h1, by rw [h4]; exact k M' ad' τ' H' E'⟩
/-- a, b = e1, []: the first may change what is one's own -/
theorem sd_par_io (hmi : isMu env'[i]? = false) (hmj : isMu (env'.set i (.im d))[j]? = false) (h1 : EvD K .l2 p ta env env' d) (h2 : EvF K true tb env' env' d') : SD K We (tPar i j (tCons ta (tCons tb tNil))) env (.nx ((env'.set i (.im d)).set j (.ow d'))) := fun X a0 H0 M ad σ H Dn E k =>
  h1 X a0 H0 M ad σ H _ E fun v H1 E1 e1 p1 r1 => h2 X a0 H0 M ad σ H1 _ E1 fun a H2 H3 ha _ E2 g e2 p2 r2 =>
    ⟨v, .ref a, rfl, k _ _ _ H3 ((E2.setIm hmi (Rp.mono (hid_ex (p2 rfl)) _ _ r1)).setOw hmj ha g r2)⟩
theorem sd_par_ii (hmi : isMu env''[i]? = false) (hmj : isMu (env''.set i (.im d))[j]? = false) (h1 : EvD K .l2 p ta env env' d) (h2 : EvD K .l2 q tb env' env'' d') : SD K We (tPar i j (tCons ta (tCons tb tNil))) env (.nx ((env''.set i (.im d)).set j (.im d'))) := fun X a0 H0 M ad σ H Dn E k =>
  h1 X a0 H0 M ad σ H _ E fun v H1 E1 e1 p1 r1 => h2 X a0 H0 M ad σ H1 _ E1 fun w H2 E2 e2 p2 r2 =>
    ⟨v, w, rfl, k _ _ _ H2 ((E2.setIm hmi (Rp.mono (keepL (l := .l2) rfl e2 p2) _ _ r1)).setIm hmj r2)⟩

/-! ### defs: promises, entry, call -/
def ArgOk (K : PySem.W.Frag) (X : Addr → Prop) (H : Hp) : List Bool → List D → List V → Prop
  | [], [], [] => True
  | k :: ks, d :: ds, v :: vs => Rp K (hid (fun a => k = true ∧ X a) H) d v ∧ ArgOk K X H ks ds vs
  | _, _, _ => False
theorem ArgOk.mono : ∀ {ks : List Bool} {ds : List D} {vs : List V}, Ex H H' → ArgOk K X H ks ds vs → ArgOk K X H' ks ds vs
  | [], [], [], _, _ => trivial
  | k :: ks, d :: ds, v :: vs, e, ⟨h1, h2⟩ => ⟨Rp.mono (hid_ex e) _ _ h1, ArgOk.mono e h2⟩
  | [], [], _ :: _, _, h => h.elim
  | [], _ :: _, _, _, h => h.elim
  | _ :: _, [], _, _, h => h.elim
  | _ :: _, _ :: _, [], _, h => h.elim
theorem ArgOk.length : ∀ {ks : List Bool} {ds : List D} {vs : List V}, ArgOk K X H ks ds vs → vs.length = ks.length ∧ ds.length = ks.length
  | [], [], [], _ => ⟨rfl, rfl⟩
  | k :: ks, d :: ds, v :: vs, ⟨h1, h2⟩ => by simp [h2.length.1, h2.length.2]
  | [], [], _ :: _, h => h.elim
  | [], _ :: _, _, h => h.elim
  | _ :: _, [], _, h => h.elim
  | _ :: _, _ :: _, [], h => h.elim
def argEnv : List Bool → List D → List Bd
  | k :: ks, d :: ds => (if k then .im d else .rd d) :: argEnv ks ds
  | _, _ => []
theorem argEnv_length : ∀ {ks : List Bool} {ds : List D}, ds.length = ks.length → (argEnv ks ds).length = ks.length
  | [], [], _ => rfl
  | [], _ :: _, h => by simp at h
  | _ :: _, [], h => by simp at h
  | _ :: ks, _ :: ds, h => by
    have h' : ds.length = ks.length := by simpa using h
    simp [argEnv, argEnv_length h']
theorem argEnv_mu : ∀ {ks : List Bool} {ds : List D} {j : Nat}, isMu (argEnv ks ds)[j]? = false
  | [], _, _ => by simp [argEnv, isMu]
  | _ :: _, [], _ => by simp [argEnv, isMu]
  | k :: ks, d :: ds, 0 => by cases k <;> rfl
  | k :: ks, d :: ds, j + 1 => by
    have := argEnv_mu (ks := ks) (ds := ds) (j := j)
    simpa [argEnv] using this
theorem argEnv_get : ∀ {ks : List Bool} {ds : List D} {vs : List V} {j : Nat} {b : Bd}, ArgOk K X H ks ds vs → (argEnv ks ds)[j]? = some b → ∃ d v, vs[j]? = some v ∧ ((b = .im d ∧ Rp K (hid X H) d v) ∨ (b = .rd d ∧ Rp K H d v))
  | [], _, _, _, _, _, h => by simp [argEnv] at h
  | _ :: _, [], _, _, _, _, h => by simp [argEnv] at h
  | _ :: _, _ :: _, [], _, _, h, _ => h.elim
  | k :: ks, d :: ds, v :: vs, 0, b, ⟨h1, _⟩, e => by
    simp [argEnv] at e
    subst e
    refine ⟨d, v, rfl, ?_⟩
    cases k with
    | true => exact .inl ⟨rfl, Rp.mono (hid_le fun a z => ⟨rfl, z⟩) _ _ h1⟩
    | false => exact .inr ⟨rfl, Rp.mono hid_all _ _ h1⟩
  | k :: ks, d :: ds, v :: vs, j + 1, b, ⟨_, h2⟩, e => by
    obtain ⟨d', v', g1, g2⟩ := argEnv_get (j := j) (b := b) h2 (by simpa [argEnv] using e)
    exact ⟨d', v', by simpa using g1, g2⟩
def SpP (K : PySem.W.Frag) (ks : List Bool) (R : List D → D → Prop) : Sp := fun vs H Q _ => ∃ (X : Addr → Prop) (ds : List D) (r : D), R ds r ∧ (∀ a, X a → Nt (H a)) ∧ ArgOk K X H ks ds vs ∧ ∀ v H', Ex H H' → Rp K (hid X H') r v → Q v H'
def SpF (K : PySem.W.Frag) (ks : List Bool) (R : List D → D → Prop) : Sp := fun vs H Q _ => ∃ (X : Addr → Prop) (ds : List D) (r : D), R ds r ∧ (∀ a, X a → Nt (H a)) ∧ ArgOk K X H ks ds vs ∧
  ∀ a H1 H', H1 a = none → Ex H H1 → Ex H1 H' → Cell K (hid X H1) H' a r → Q (.ref a) H'
def SpM (K : PySem.W.Frag) (ks : List Bool) (R : D → List D → D → D → Prop) : Sp := fun vs H Q _ => ∃ (X : Addr → Prop) (a : Addr) (d : D) (ds : List D) (vs' : List V) (r d' : D), vs = .ref a :: vs' ∧ R d ds r d' ∧ (∀ a, X a → Nt (H a)) ∧ X a ∧
  Cell K (hid X H) H a d ∧ ArgOk K X H ks ds vs' ∧ ks.all id = true ∧ ∀ v H', Ex (hid (fun b => b = a) H) H' → Cell K (hid X H') H' a d' → Rp K (hid X H') r v → Q v H'
/-- .. that gives new objects, one within the other -/
def SpFT (K : PySem.W.Frag) (ks : List Bool) (R : List D → Tr → Prop) : Sp := fun vs H Q _ => ∃ (X : Addr → Prop) (ds : List D) (r : Tr), R ds r ∧ (∀ a, X a → Nt (H a)) ∧ ArgOk K X H ks ds vs ∧
  ∀ v as H', Ex H H' → as.Nodup → (∀ a ∈ as, H a = none) → Ow K (hid (fun b => X b ∨ b ∈ as) H') H' r v as → Q v H'
/-- .. that may raise -/
def SpPX (K : PySem.W.Frag) (ks : List Bool) (R : List D → D ⊕ Er → Prop) : Sp := fun vs H Q E => ∃ (X : Addr → Prop) (ds : List D) (r : D ⊕ Er), R ds r ∧ (∀ a, X a → Nt (H a)) ∧ ArgOk K X H ks ds vs ∧
  match r with
  | .inl r => ∀ v H', Ex H H' → Rp K (hid X H') r v → Q v H'
  | .inr e => ∀ cls d H', Ex H H' → ErOk K H' e cls d → E cls d H'
/-- .. whose first argument is one's own tree, changed -/
def SpT (K : PySem.W.Frag) (ks : List Bool) (R : Tr → List D → D → Tr → Prop) : Sp := fun vs H Q _ => ∃ (X : Addr → Prop) (v0 : V) (as : List Addr) (t : Tr) (ds : List D) (vs' : List V) (r : D) (t' : Tr), vs = v0 :: vs' ∧ R t ds r t' ∧ (∀ a, X a → Nt (H a)) ∧ (∀ a ∈ as, X a) ∧ as.Nodup ∧
  Ow K (hid X H) H t v0 as ∧ ArgOk K X H ks ds vs' ∧ ks.all id = true ∧ ∀ v as' H', Ex (hid (fun b => b ∈ as) H) H' → (∀ a, X a → Nt (H' a)) → as'.Nodup → (∀ a ∈ as', a ∈ as ∨ H a = none) → Ow K (hid (fun b => b ∈ as' ∨ X b) H') H' t' v0 as' →
    Rp K (hid (fun b => b ∈ as' ∨ X b) H') r v → Q v H'
/-- .. changed, and what may be raised -/
def SpTX (K : PySem.W.Frag) (ks : List Bool) (R : Tr → List D → D ⊕ Er → Tr → Prop) : Sp := fun vs H Q E => ∃ (X : Addr → Prop) (v0 : V) (as : List Addr) (t : Tr) (ds : List D) (vs' : List V) (r : D ⊕ Er) (t' : Tr), vs = v0 :: vs' ∧ R t ds r t' ∧ (∀ a, X a → Nt (H a)) ∧ (∀ a ∈ as, X a) ∧ as.Nodup ∧
  Ow K (hid X H) H t v0 as ∧ ArgOk K X H ks ds vs' ∧ ks.all id = true ∧ ∀ as' H', Ex (hid (fun b => b ∈ as) H) H' → (∀ a, X a → Nt (H' a)) → as'.Nodup → (∀ a ∈ as', a ∈ as ∨ H a = none) → Ow K (hid (fun b => b ∈ as' ∨ X b) H') H' t' v0 as' →
    match r with
    | .inl r => ∀ v, Rp K (hid (fun b => b ∈ as' ∨ X b) H') r v → Q v H'
    | .inr e => ∀ cls d, ErOk K H' e cls d → E cls d H'
/-- .. only read -/
def SpQ (K : PySem.W.Frag) (ks : List Bool) (R : Tr → List D → D → Prop) : Sp := fun vs H Q _ => ∃ (X : Addr → Prop) (v0 : V) (as : List Addr) (t : Tr) (ds : List D) (vs' : List V) (r : D), vs = v0 :: vs' ∧ R t ds r ∧ (∀ a, X a → Nt (H a)) ∧ (∀ a ∈ as, X a) ∧ as.Nodup ∧
  Ow K (hid X H) H t v0 as ∧ ArgOk K X H ks ds vs' ∧ ∀ v H', Ex H H' → Rp K (hid X H') r v → Q v H'
theorem SpFT.len {ks : List Bool} {R : List D → Tr → Prop} {n : Nat} (hk : ks.length = n) : ∀ vs H Q E, SpFT K ks R vs H Q E → vs.length = n := fun vs H Q E ⟨_, _, _, _, _, h, _⟩ => h.length.1.trans hk
theorem SpPX.len {ks : List Bool} {R : List D → D ⊕ Er → Prop} {n : Nat} (hk : ks.length = n) : ∀ vs H Q E, SpPX K ks R vs H Q E → vs.length = n := fun vs H Q E ⟨_, _, _, _, _, h, _⟩ => h.length.1.trans hk
theorem SpT.len {ks : List Bool} {R : Tr → List D → D → Tr → Prop} {n : Nat} (hk : ks.length + 1 = n) : ∀ vs H Q E, SpT K ks R vs H Q E → vs.length = n := fun vs H Q E ⟨_, _, _, _, _, _, _, _, e, _, _, _, _, _, h, _⟩ => by
  rw [e, List.length_cons, h.length.1, hk]
theorem SpTX.len {ks : List Bool} {R : Tr → List D → D ⊕ Er → Tr → Prop} {n : Nat} (hk : ks.length + 1 = n) : ∀ vs H Q E, SpTX K ks R vs H Q E → vs.length = n := fun vs H Q E ⟨_, _, _, _, _, _, _, _, e, _, _, _, _, _, h, _⟩ => by
  rw [e, List.length_cons, h.length.1, hk]
theorem SpQ.len {ks : List Bool} {R : Tr → List D → D → Prop} {n : Nat} (hk : ks.length + 1 = n) : ∀ vs H Q E, SpQ K ks R vs H Q E → vs.length = n := fun vs H Q E ⟨_, _, _, _, _, _, _, e, _, _, _, _, _, h, _⟩ => by
  rw [e, List.length_cons, h.length.1, hk]
theorem SpP.len {ks : List Bool} {R : List D → D → Prop} {n : Nat} (hk : ks.length = n) : ∀ vs H Q E, SpP K ks R vs H Q E → vs.length = n := fun vs H Q E ⟨_, _, _, _, _, h, _⟩ => h.length.1.trans hk
theorem SpF.len {ks : List Bool} {R : List D → D → Prop} {n : Nat} (hk : ks.length = n) : ∀ vs H Q E, SpF K ks R vs H Q E → vs.length = n := fun vs H Q E ⟨_, _, _, _, _, h, _⟩ => h.length.1.trans hk
theorem SpM.len {ks : List Bool} {R : D → List D → D → D → Prop} {n : Nat} (hk : ks.length + 1 = n) : ∀ vs H Q E, SpM K ks R vs H Q E → vs.length = n := fun vs H Q E ⟨_, _, _, _, _, _, _, e, _, _, _, _, h, _⟩ => by
  rw [e, List.length_cons, h.length.1, hk]
theorem argEnv_pin {a0 : Addr} {n : Nat} {ks : List Bool} {ds : List D} {j : Nat} : pinV a0 (argEnv ks ds ++ List.replicate n Bd.an)[j]? = none := by
  have rep : ∀ m : Nat, (List.replicate n Bd.an)[m]? = none ∨ (List.replicate n Bd.an)[m]? = some .an := fun m => by
    rw [List.getElem?_replicate]; split
    · exact .inr rfl
    · exact .inl rfl
  induction ks generalizing ds j with
  | nil =>
    have : argEnv [] ds = [] := by unfold argEnv; rfl
    rw [this, List.nil_append]
    rcases rep j with z | z <;> rw [z] <;> rfl
  | cons k ks ih =>
    cases ds with
    | nil =>
      have : argEnv (k :: ks) [] = [] := rfl
      rw [this, List.nil_append]
      rcases rep j with z | z <;> rw [z] <;> rfl
    | cons d ds =>
      cases j with
      | zero => cases k <;> rfl
      | succ j => exact ih (ds := ds) (j := j)
theorem argEnv_own {n : Nat} {ks : List Bool} {ds : List D} {j : Nat} : own (argEnv ks ds ++ List.replicate n Bd.an)[j]? = none ∧ ∀ t, (argEnv ks ds ++ List.replicate n Bd.an)[j]? ≠ some (.tq t) ∧ (argEnv ks ds ++ List.replicate n Bd.an)[j]? ≠ some (.tr t) ∧ (argEnv ks ds ++ List.replicate n Bd.an)[j]? ≠ some (.tm t) := by
  have rep : ∀ m : Nat, (List.replicate n Bd.an)[m]? = none ∨ (List.replicate n Bd.an)[m]? = some .an := fun m => by
    rw [List.getElem?_replicate]; split
    · exact .inr rfl
    · exact .inl rfl
  induction ks generalizing ds j with
  | nil =>
    have : argEnv [] ds = [] := by unfold argEnv; rfl
    rw [this, List.nil_append]
    rcases rep j with z | z <;> rw [z] <;> exact ⟨rfl, fun t => ⟨fun e => by simp at e, fun e => by simp at e, fun e => by simp at e⟩⟩
  | cons k ks ih =>
    cases ds with
    | nil =>
      have : argEnv (k :: ks) [] = [] := rfl
      rw [this, List.nil_append]
      rcases rep j with z | z <;> rw [z] <;> exact ⟨rfl, fun t => ⟨fun e => by simp at e, fun e => by simp at e, fun e => by simp at e⟩⟩
    | cons d ds =>
      cases j with
      | zero => cases k <;> exact ⟨rfl, fun t => ⟨fun e => by simp [argEnv] at e, fun e => by simp [argEnv] at e, fun e => by simp [argEnv] at e⟩⟩
      | succ j => exact ih (ds := ds) (j := j)
theorem ER.entry {ks : List Bool} {ds : List D} {vs : List V} {n : Nat} (hX : ∀ a, X a → Nt (H a)) (h : ArgOk K X H ks ds vs) : ER K X 0 H ⟨fun _ => False, fun _ => False, fun _ h => h⟩ (fun _ => []) (vs.map some ++ List.replicate n none) H (argEnv ks ds ++ List.replicate n .an) := by
  have hl := h.length
  have le := argEnv_length hl.2
  have get : ∀ (j : Nat) b, (argEnv ks ds ++ List.replicate n Bd.an)[j]? = some b → b = .an ∨ ∃ d v, (vs.map some ++ List.replicate n none)[j]? = some (some v) ∧ ((b = .im d ∧ Rp K (hid X H) d v) ∨ (b = .rd d ∧ Rp K H d v)) := fun j b e => by
    by_cases hj : j < (argEnv ks ds).length
    · rw [List.getElem?_append_left hj] at e
      obtain ⟨d, v, g1, g2⟩ := argEnv_get h e
      refine .inr ⟨d, v, ?_, g2⟩
      rw [List.getElem?_append_left (by simp; omega)]
      simp [g1]
    · rw [List.getElem?_append_right (by omega)] at e
      have := (List.getElem?_replicate ..).symm.trans e
      split at this
      · exact .inl (Option.some.inj this).symm
      · cases this
  refine ⟨by simp [le, hl.1], Ex.refl _, hX, fun a ha => ha.elim, fun a ha => ha.elim, fun j e q => ?_, fun j e q => ?_, fun j e q => ?_, fun j e q => absurd q (argEnv_own.2 e).2.1, fun j e q => absurd q (argEnv_own.2 e).1, fun j k _ q1 _ => absurd argEnv_own.1 q1, fun j e q => by rw [argEnv_pin] at q; cases q⟩
  · rcases get j _ q with z | ⟨d, v, g, z⟩
    · cases z
    · rcases z with ⟨z, r⟩ | ⟨z, r⟩
      · cases z; exact ⟨v, g, Rp.mono (hid_le fun a z => by rcases z with z | z; exact z.elim; exact z) _ _ r⟩
      · cases z
  · rcases get j _ q with z | ⟨d, v, g, z⟩
    · cases z
    · rcases z with ⟨z, r⟩ | ⟨z, r⟩
      · cases z
      · cases z; exact ⟨v, g, by rw [hid_no]; exact r⟩
  · rw [argEnv_own.1] at q; cases q
theorem start_of {N : List Str} {vs : List V} {n : Nat} (h : vs.length + n = N.length) : L2.start N vs = vs.map some ++ List.replicate n none := by
  unfold L2.start
  rw [show N.length - vs.length = n by omega]
/-- the def's body, at its entry -/
theorem run_P {ks : List Bool} {R : List D → D → Prop} {N : List Str} {n : Nat} {vs : List V} {Q : VK} {E : XK} (hn : ks.length + n = N.length) (h : SpP K ks R vs H Q E)
    (hb : ∀ ds r, R ds r → SD K (fun _ _ _ _ => False) ts (argEnv ks ds ++ List.replicate n .an) (.rx r)) : ts { nx := fun _ H' => Q .non H', rt := Q } (L2.start N vs) H := by
  obtain ⟨X, ds, r, hR, hX, ha, hQ⟩ := h
  rw [start_of (n := n) (by rw [ha.length.1]; exact hn)]
  exact hb ds r hR X 0 H _ _ _ H _ (ER.entry hX ha) fun env' M ad σ v H' E' rv => hQ v H' E'.ex rv
theorem run_N {ks : List Bool} {R : List D → D → Prop} {N : List Str} {n : Nat} {vs : List V} {Q : VK} {E : XK} (hn : ks.length + n = N.length) (h : SpP K ks R vs H Q E)
    (hb : ∀ ds r, R ds r → r = .non ∧ ∃ env', SD K (fun _ _ _ _ => False) ts (argEnv ks ds ++ List.replicate n .an) (.nx env')) : ts { nx := fun _ H' => Q .non H', rt := Q } (L2.start N vs) H := by
  obtain ⟨X, ds, r, hR, hX, ha, hQ⟩ := h
  obtain ⟨rfl, env', hs⟩ := hb ds r hR
  rw [start_of (n := n) (by rw [ha.length.1]; exact hn)]
  exact hs X 0 H _ _ _ H _ (ER.entry hX ha) fun M ad σ H' E' => hQ .non H' E'.ex rfl
theorem run_F {ks : List Bool} {R : List D → D → Prop} {N : List Str} {n : Nat} {vs : List V} {Q : VK} {E : XK} (hn : ks.length + n = N.length) (h : SpF K ks R vs H Q E)
    (hb : ∀ ds r, R ds r → SD K (fun _ _ _ _ => False) ts (argEnv ks ds ++ List.replicate n .an) (.rf r)) : ts { nx := fun _ H' => Q .non H', rt := Q } (L2.start N vs) H := by
  obtain ⟨X, ds, r, hR, hX, ha, hQ⟩ := h
  rw [start_of (n := n) (by rw [ha.length.1]; exact hn)]
  exact hb ds r hR X 0 H _ _ _ H _ (ER.entry hX ha) fun env' M ad σ a H1 H' h0 E' g rv => hQ a H1 H' h0 E'.ex g rv
end
end Pw
namespace Pw
open PySem L2

section
variable {K : PySem.W.Frag} {We : WX} {X : Addr → Prop} {a0 : Addr} {H0 : Hp} {M M' : Msk} {ad ad' : Nat → List Addr} {σ σ' : St} {H H' H1 : Hp} {env env' env'' : List Bd} {l l' : Lv} {p q : Bool} {d d' e : D} {ta tb te ti : TE} {t u : TT} {i j : Nat} {b c : Bool} {ts tu : TS} {o : Out} {Dn : Ends}
/-! ### a def that changes its first argument's object -/
theorem argEnv_im {n : Nat} {ks : List Bool} {ds : List D} {vs : List V} (h : ArgOk K X H ks ds vs) (hk : ks.all id = true) (j : Nat) (b : Bd) (e : (argEnv ks ds ++ List.replicate n Bd.an)[j]? = some b) :
    b = .an ∨ ∃ d v, (vs.map some ++ List.replicate n none)[j]? = some (some v) ∧ (b = .im d ∧ Rp K (hid X H) d v) := by
  have hl := h.length
  have le := argEnv_length hl.2
  have allT : ∀ {ks : List Bool} {ds : List D} {j : Nat} {e}, ks.all id = true → (argEnv ks ds)[j]? = some (.rd e) → False := fun {ks} => by
    induction ks with
    | nil => intro ds j e _ h; simp [argEnv] at h
    | cons k ks ih =>
      intro ds j e hk h
      cases ds with
      | nil => simp [argEnv] at h
      | cons d ds =>
        have hk' : k = true ∧ ks.all id = true := by simpa using hk
        cases j with
        | zero => rw [hk'.1] at h; simp [argEnv] at h
        | succ j => exact ih (ds := ds) (j := j) (e := e) hk'.2 (by simpa [argEnv] using h)
  by_cases hj : j < (argEnv ks ds).length
  · rw [List.getElem?_append_left hj] at e
    obtain ⟨d, v, g1, g2⟩ := argEnv_get h e
    refine .inr ⟨d, v, ?_, ?_⟩
    · rw [List.getElem?_append_left (by simp; omega)]
      simp [g1]
    · rcases g2 with g2 | ⟨z, _⟩
      · exact g2
      · rw [z] at e; exact (allT hk e).elim
  · rw [List.getElem?_append_right (by omega)] at e
    have := (List.getElem?_replicate ..).symm.trans e
    split at this
    · exact .inl (Option.some.inj this).symm
    · cases this
theorem cons_at {x : Bd} {es : List Bd} {j : Nat} {b : Bd} (e : (x :: es)[j]? = some b) : (j = 0 ∧ b = x) ∨ ∃ i, j = i + 1 ∧ es[i]? = some b := by
  cases j with
  | zero => simp at e; exact .inl ⟨rfl, e.symm⟩
  | succ i => exact .inr ⟨i, rfl, by simpa using e⟩
theorem cons_pin {a0 : Addr} {x : Bd} {es : List Bd} {j : Nat} {v : V} (e : pinV a0 (x :: es)[j]? = some v) : (j = 0 ∧ pinV a0 (some x) = some v) ∨ ∃ i, j = i + 1 ∧ pinV a0 es[i]? = some v := by
  cases j with
  | zero => exact .inl ⟨rfl, e⟩
  | succ i => exact .inr ⟨i, rfl, by simpa using e⟩
theorem cons_own {x : Bd} {n : Nat} {ks : List Bool} {ds : List D} {j : Nat} {t : Tr} (e : own (x :: (argEnv ks ds ++ List.replicate n Bd.an))[j]? = some t) : j = 0 ∧ own (some x) = some t := by
  cases j with
  | zero => simp at e; exact ⟨rfl, e⟩
  | succ i =>
    have e : own (argEnv ks ds ++ List.replicate n Bd.an)[i]? = some t := by simpa using e
    rw [argEnv_own.1] at e; cases e
/-- an own tree handed in, to be changed -/
theorem ER.entryT {ks : List Bool} {ds : List D} {vs : List V} {n : Nat} {as : List Addr} {t : Tr} {a : Addr} (hX : ∀ a, X a → Nt (H a)) (ha : ∀ a ∈ as, X a) (nd : as.Nodup) (w : Ow K (hid X H) H t (.ref a) as) (h : ArgOk K X H ks ds vs) (hk : ks.all id = true) :
    ER K X a (hid (fun b => b ∈ as) H) ⟨fun b => b ∈ as, fun b => b ∈ as, fun _ h => h⟩ (fun _ => as) (some (.ref a) :: (vs.map some ++ List.replicate n none)) H (.tm t :: (argEnv ks ds ++ List.replicate n .an)) := by
  have hl := h.length
  have le := argEnv_length hl.2
  have mX : ∀ b, (b ∈ as ∨ X b) → X b := fun b z => z.elim (ha b) id
  refine ⟨by simp [le, hl.1], hid_all, hX, fun b hb => hX b (ha b hb), fun b hb => hid_in (m := fun b => b ∈ as) hb, fun j e q => ?_, fun j e q => ?_, fun j u q => ?_, fun j u q => ?_, fun j u q => ?_, fun j k hjk q1 q2 => ?_, fun j u q => ?_⟩
  · rcases cons_at q with ⟨_, z⟩ | ⟨i, rfl, g⟩
    · cases z
    · rcases argEnv_im h hk i _ g with z | ⟨d, v, g, z, r⟩
      · cases z
      · cases z; exact ⟨v, by simpa using g, Rp.mono (hid_le mX) _ _ r⟩
  · rcases cons_at q with ⟨_, z⟩ | ⟨i, rfl, g⟩
    · cases z
    · rcases argEnv_im h hk i _ g with z | ⟨d, v, g, z, r⟩ <;> cases z
  · obtain ⟨z, y⟩ := cons_own q
    cases y
    subst z
    exact ⟨fun b hb => hb, nd, _, rfl, Ow.mono (hid_le mX) _ _ _ (fun _ _ => rfl) w⟩
  · rcases cons_at q with ⟨_, z⟩ | ⟨i, rfl, g⟩
    · cases z
    · exact absurd g (argEnv_own.2 u).2.1
  · rcases cons_at q with ⟨_, z⟩ | ⟨i, rfl, g⟩
    · cases z
    · exact absurd g (argEnv_own.2 u).1
  · obtain ⟨u1, q1⟩ := own_some q1
    obtain ⟨u2, q2⟩ := own_some q2
    exact absurd ((cons_own q1).1.trans (cons_own q2).1.symm) hjk
  · rcases cons_pin q with ⟨z, e⟩ | ⟨i, rfl, g⟩
    · rw [z, ← Option.some.inj e]; rfl
    · rw [argEnv_pin] at g; cases g
/-- .. to be read only -/
theorem ER.entryQ {ks : List Bool} {ds : List D} {vs : List V} {n : Nat} {as : List Addr} {t : Tr} {v0 : V} (hX : ∀ a, X a → Nt (H a)) (ha : ∀ a ∈ as, X a) (nd : as.Nodup) (w : Ow K (hid X H) H t v0 as) (h : ArgOk K X H ks ds vs) :
    ER K X 0 H ⟨fun _ => False, fun _ => False, fun _ h => h⟩ (fun _ => []) (some v0 :: (vs.map some ++ List.replicate n none)) H (.tq t :: (argEnv ks ds ++ List.replicate n .an)) := by
  have E0 := ER.entry (n := n) hX h
  have up : Ex (hid X H) (hid (fun b => False ∨ X b) H) := hid_le fun b z => z.elim False.elim id
  refine ⟨by simpa using E0.len, Ex.refl _, hX, fun b hb => hb.elim, fun b hb => hb.elim, fun j e q => ?_, fun j e q => ?_, fun j u q => ?_, fun j u q => ?_, fun j u q => ?_, fun j k hjk q1 q2 => ?_, fun j u q => ?_⟩
  · rcases cons_at q with ⟨_, z⟩ | ⟨i, rfl, g⟩
    · cases z
    · obtain ⟨v, g1, g2⟩ := E0.im i e g
      exact ⟨v, by simpa using g1, g2⟩
  · rcases cons_at q with ⟨_, z⟩ | ⟨i, rfl, g⟩
    · cases z
    · obtain ⟨v, g1, g2⟩ := E0.rd i e g
      exact ⟨v, by simpa using g1, g2⟩
  · have := (cons_own q).2
    cases this
  · rcases cons_at q with ⟨_, z⟩ | ⟨i, rfl, g⟩
    · cases z
    · exact absurd g (argEnv_own.2 u).2.1
  · rcases cons_at q with ⟨z, y⟩ | ⟨i, rfl, g⟩
    · cases y
      rw [z]
      exact ⟨v0, as, rfl, fun b hb => ⟨ha b hb, fun z => z⟩, nd, Ow.mono up _ _ _ (fun _ _ => rfl) w⟩
    · exact absurd g (argEnv_own.2 u).1
  · obtain ⟨u1, q1⟩ := own_some q1
    have := (cons_own q1).2
    cases this
  · rcases cons_pin q with ⟨_, z⟩ | ⟨i, rfl, g⟩
    · cases z
    · rw [argEnv_pin] at g; cases g
theorem run_M {ks : List Bool} {R : D → List D → D → D → Prop} {N : List Str} {n : Nat} {vs : List V} {Q : VK} {E : XK} (hn : ks.length + 1 + n = N.length) (h : SpM K ks R vs H Q E)
    (hb : ∀ d ds r d', R d ds r d' → SD K (fun _ _ _ _ => False) ts (.mu d :: (argEnv ks ds ++ List.replicate n .an)) (.rm r d')) : ts { nx := fun _ H' => Q .non H', rt := Q } (L2.start N vs) H := by
  obtain ⟨X, a, d, ds, vs', r, d', rfl, hR, hX, hXa, hc, ha, hk, hQ⟩ := h
  have hl := ha.length
  rw [start_of (n := n) (by rw [List.length_cons, hl.1]; exact hn)]
  refine hb d ds r d' hR X a _ _ _ _ H _ (ER.entryT (as := [a]) hX (fun b hb => by rw [List.mem_singleton.mp hb]; exact hXa) (List.pairwise_singleton ..) (Ow.cell.mpr ⟨a, rfl, rfl, hc⟩) ha hk) fun env' M ad σ v H' he E' rv => hQ v H' (Ex.trans (hid_le fun b z => List.mem_singleton.mp z) E'.ex) ?_ rv
  obtain ⟨_, h2, h3⟩ := E'.mu 0 d' he
  have := E'.t0 0 _ (by rw [he]; rfl)
  rw [h2] at this
  cases this
  exact h3.mono (hid_le fun b z => .inr z) rfl
/-- what a def wishes of an error -/
abbrev wE (E : XK) : WX := fun cls d _ H => E cls d H
theorem run_T {ks : List Bool} {R : Tr → List D → D → Tr → Prop} {N : List Str} {n : Nat} {vs : List V} {Q : VK} {E : XK} (hn : ks.length + 1 + n = N.length) (h : SpT K ks R vs H Q E) (hR0 : ∀ t ds r t', R t ds r t' → ∃ k ts, t = .n k ts)
    (hb : ∀ t ds r t', R t ds r t' → SD K (fun _ _ _ _ => False) ts (.tm t :: (argEnv ks ds ++ List.replicate n .an)) (.rs r t')) : ts { nx := fun _ H' => Q .non H', rt := Q } (L2.start N vs) H := by
  obtain ⟨X, v0, as, t, ds, vs', r, t', rfl, hR, hX, hXa, nd, w, ha, hk, hQ⟩ := h
  have hl := ha.length
  rw [start_of (n := n) (by rw [List.length_cons, hl.1]; exact hn)]
  obtain ⟨k, us, rfl⟩ := hR0 t ds r t' hR
  obtain ⟨a, xs, rest, rfl, e, w'⟩ := id w
  refine hb _ ds r t' hR X a _ _ _ _ H _ (ER.entryT hX hXa nd w ha hk) fun env' M ad σ v H' he E' rv => ?_
  obtain ⟨h1, h2, v1, h3, h4⟩ := E'.ws 0 t' (by rw [he]; rfl)
  have := E'.t0 0 _ (by rw [he]; rfl)
  rw [h3] at this
  cases this
  refine hQ v (ad 0) H' E'.ex E'.xin h2 (fun b hb => ?_) (Ow.mono (hid_le fun b z => z.imp (fun y => M.le b (h1 b y)) id) _ _ _ (fun _ _ => rfl) h4) (Rp.mono (hid_le fun b z => z.imp (fun y => M.le b (h1 b y)) id) _ _ rv)
  by_cases z : b ∈ as
  · exact .inl z
  · refine .inr ?_
    have := E'.mout b (M.le b (h1 b hb))
    rw [hid_out z] at this
    exact this
theorem run_TX {ks : List Bool} {R : Tr → List D → D ⊕ Er → Tr → Prop} {N : List Str} {n : Nat} {vs : List V} {Q : VK} {E : XK} (hn : ks.length + 1 + n = N.length) (h : SpTX K ks R vs H Q E) (hR0 : ∀ t ds r t', R t ds r t' → ∃ k ts, t = .n k ts)
    (hb : ∀ t ds r t', R t ds r t' → SD K (wE E) ts (.tm t :: (argEnv ks ds ++ List.replicate n .an)) (match r with | .inl r => .rs r t' | .inr e => .er e (.tm t' :: List.replicate (ks.length + n) .an))) : ts { nx := fun _ H' => Q .non H', rt := Q } (L2.start N vs) H := by
  obtain ⟨X, v0, as, t, ds, vs', r, t', rfl, hR, hX, hXa, nd, w, ha, hk, hQ⟩ := h
  have hl := ha.length
  rw [start_of (n := n) (by rw [List.length_cons, hl.1]; exact hn)]
  obtain ⟨k, us, rfl⟩ := hR0 t ds r t' hR
  obtain ⟨a, xs, rest, rfl, e, w'⟩ := id w
  have key : ∀ {M : Msk} {ad : Nat → List Addr} {σ : St} {H' : Hp} {env' : List Bd}, env'[0]? = some (.tm t') → ER K X a (hid (fun b => b ∈ as) H) M ad σ H' env' →
      Ow K (hid (fun b => b ∈ ad 0 ∨ X b) H') H' t' (.ref a) (ad 0) ∧ (ad 0).Nodup ∧ (∀ b ∈ ad 0, b ∈ as ∨ H b = none) ∧ Ex (hid (fun b => M.m b ∨ X b) H') (hid (fun b => b ∈ ad 0 ∨ X b) H') := fun {M ad σ H' env'} he E' => by
    obtain ⟨h1, h2, v1, h3, h4⟩ := E'.ws 0 t' (by rw [he]; rfl)
    have := E'.t0 0 _ (by rw [he]; rfl)
    rw [h3] at this
    cases this
    refine ⟨Ow.mono (hid_le fun b z => z.imp (fun y => M.le b (h1 b y)) id) _ _ _ (fun _ _ => rfl) h4, h2, fun b hb => ?_, hid_le fun b z => z.imp (fun y => M.le b (h1 b y)) id⟩
    by_cases z : b ∈ as
    · exact .inl z
    · refine .inr ?_
      have := E'.mout b (M.le b (h1 b hb))
      rw [hid_out z] at this
      exact this
  refine hb _ ds r t' hR X a _ _ _ _ H _ (ER.entryT hX hXa nd w ha hk) ?_
  cases r with
  | inl r =>
    intro env' M ad σ v H' he E' rv
    obtain ⟨k1, k2, k3, k4⟩ := key he E'
    exact hQ (ad 0) H' E'.ex E'.xin k2 k3 k1 v (Rp.mono k4 _ _ rv)
  | inr e =>
    intro M ad σ cls dd H' E' ok
    obtain ⟨k1, k2, k3, k4⟩ := key rfl E'
    exact hQ (ad 0) H' E'.ex E'.xin k2 k3 k1 cls dd ok
theorem run_Q {ks : List Bool} {R : Tr → List D → D → Prop} {N : List Str} {n : Nat} {vs : List V} {Q : VK} {E : XK} (hn : ks.length + 1 + n = N.length) (h : SpQ K ks R vs H Q E)
    (hb : ∀ t ds r, R t ds r → SD K (fun _ _ _ _ => False) ts (.tq t :: (argEnv ks ds ++ List.replicate n .an)) (.rx r)) : ts { nx := fun _ H' => Q .non H', rt := Q } (L2.start N vs) H := by
  obtain ⟨X, v0, as, t, ds, vs', r, rfl, hR, hX, hXa, nd, w, ha, hQ⟩ := h
  have hl := ha.length
  rw [start_of (n := n) (by rw [List.length_cons, hl.1]; exact hn)]
  exact hb _ ds r hR X 0 _ _ _ _ H _ (ER.entryQ hX hXa nd w ha) fun env' M ad σ v H' E' rv => hQ v H' E'.ex rv
theorem run_FT {ks : List Bool} {R : List D → Tr → Prop} {N : List Str} {n : Nat} {vs : List V} {Q : VK} {E : XK} (hn : ks.length + n = N.length) (h : SpFT K ks R vs H Q E)
    (hb : ∀ ds r, R ds r → SD K (fun _ _ _ _ => False) ts (argEnv ks ds ++ List.replicate n .an) (.rt r)) : ts { nx := fun _ H' => Q .non H', rt := Q } (L2.start N vs) H := by
  obtain ⟨X, ds, r, hR, hX, ha, hQ⟩ := h
  rw [start_of (n := n) (by rw [ha.length.1]; exact hn)]
  exact hb ds r hR X 0 H _ _ _ H _ (ER.entry hX ha) fun env' M ad σ v as H' E' nd hn w => hQ v as H' E'.ex nd (fun b hb => (hn b hb).1) w
theorem run_PX {ks : List Bool} {R : List D → D ⊕ Er → Prop} {N : List Str} {n : Nat} {vs : List V} {Q : VK} {E : XK} (hn : ks.length + n = N.length) (h : SpPX K ks R vs H Q E)
    (hb : ∀ ds r, R ds r → match r with
      | .inl r => SD K (wE E) ts (argEnv ks ds ++ List.replicate n .an) (.rx r) ∨ (r = .non ∧ ∃ env', SD K (wE E) ts (argEnv ks ds ++ List.replicate n .an) (.nx env'))
      | .inr e => ∃ env', SD K (wE E) ts (argEnv ks ds ++ List.replicate n .an) (.er e env')) : ts { nx := fun _ H' => Q .non H', rt := Q } (L2.start N vs) H := by
  obtain ⟨X, ds, r, hR, hX, ha, hQ⟩ := h
  rw [start_of (n := n) (by rw [ha.length.1]; exact hn)]
  have := hb ds r hR
  cases r with
  | inl r =>
    rcases this with this | ⟨rfl, env', this⟩
    · exact this X 0 H _ _ _ H _ (ER.entry hX ha) fun env' M ad σ v H' E' rv => hQ v H' E'.ex rv
    · exact this X 0 H _ _ _ H _ (ER.entry hX ha) fun M ad σ H' E' => hQ .non H' E'.ex rfl
  | inr e =>
    obtain ⟨env', this⟩ := this
    exact this X 0 H _ _ _ H _ (ER.entry hX ha) fun M ad σ cls d H' E' ok => hQ cls d H' E'.ex ok

/-! ### calls -/
def EvK (K : PySem.W.Frag) (l : Lv) (ta : TA) (env : List Bd) (ks : List Bool) (ds : List D) : Prop :=
  ∀ X a0 H0 M ad σ H (Q : List V → Hp → Prop), ER K X a0 H0 M ad σ H env → (∀ vs H', ER K X a0 H0 M ad σ H' env → Ex H H' → ArgOk K (mk l M X) H' ks ds vs → Q vs H') → ta σ H Q
theorem ek_nil : EvK K l tNil env [] [] := fun X a0 H0 M ad σ H Q E k => k [] H E (Ex.refl _) trivial
theorem ek_A {ts : TA} {ks : List Bool} {ds : List D} (h : EvD K l true te env env d) (hs : EvK K l ts env ks ds) : EvK K l (tCons te ts) env (true :: ks) (d :: ds) := fun X a0 H0 M ad σ H Q E k =>
  h X a0 H0 M ad σ H _ E fun v H1 E1 e1 p1 r1 => hs X a0 H0 M ad σ H1 _ E1 fun vs H2 E2 g a => k (v :: vs) H2 E2 ((p1 rfl).trans g) ⟨Rp.mono ((hid_ex g).trans (hid_le fun _ z => z.2)) _ _ r1, a⟩
theorem ek_R {ts : TA} {ks : List Bool} {ds : List D} (h : EvD K .l0 true te env env d) (hs : EvK K l ts env ks ds) : EvK K l (tCons te ts) env (false :: ks) (d :: ds) := fun X a0 H0 M ad σ H Q E k =>
  h X a0 H0 M ad σ H _ E fun v H1 E1 e1 p1 r1 => hs X a0 H0 M ad σ H1 _ E1 fun vs H2 E2 g a => k (v :: vs) H2 E2 ((p1 rfl).trans g) ⟨Rp.mono ((hid_ex g).trans (hid_le fun _ z => by cases z.1)) _ _ r1, a⟩
theorem ArgOk.ofL : ∀ {ks : List Bool} {ds : List D} {vs : List V} {m : Addr → Prop}, ks.length = ds.length → RpL K (hid m H) ds vs → ArgOk K m H ks ds vs
  | [], [], _, m, _, h => by cases h; trivial
  | k :: ks, d :: ds, _, m, hl, ⟨x, r, h1, h2, h3⟩ => by
    subst h1
    exact ⟨Rp.mono (hid_le fun a z => z.2) _ _ h2, ArgOk.ofL (by simpa using hl) h3⟩
  | [], _ :: _, _, _, hl, _ => by simp at hl
  | _ :: _, [], _, _, hl, _ => by simp at hl
theorem mk_dom (E : ER K X a0 H0 M ad σ H env) : ∀ a, mk l M X a → Nt (H a) := fun a h => by
  rcases mk_le a h with z | z
  · exact E.min a z
  · exact E.has z
theorem ev_callK {ta : TA} {ks : List Bool} {ds : List D} {R : List D → D → Prop} {r : D} {EK : XK} (h : EvK K l ta env ks ds) (hR : R ds r) : EvD K l true (tCall (SpP K ks R) [] EK ta) env env r := fun X a0 H0 M ad σ H Q E k =>
  h X a0 H0 M ad σ H _ E fun vs H1 E1 g a => ⟨mk l M X, ds, r, hR, mk_dom E1, by rw [List.append_nil]; exact a, fun v H' g' rv => k v H' (E1.grow g') (hid_ex (g.trans g')) (fun _ => g.trans g') rv⟩
theorem ev_callA {ta : TA} {ks : List Bool} {ds : List D} {R : List D → D → Prop} {r : D} {EK : XK} (hk : ks.length = ds.length) (h : EvA K l p ta env env' ds) (hR : R ds r) : EvD K l p (tCall (SpP K ks R) [] EK ta) env env' r := fun X a0 H0 M ad σ H Q E k =>
  h X a0 H0 M ad σ H _ E fun vs H1 E1 e1 p1 a => ⟨mk l M X, ds, r, hR, mk_dom E1, by rw [List.append_nil]; exact ArgOk.ofL hk a, fun v H' g' rv => k v H' (E1.grow g') (e1.trans (hid_ex g')) (fun z => (p1 z).trans g') rv⟩
theorem ef_callA {ta : TA} {ks : List Bool} {ds : List D} {R : List D → D → Prop} {r : D} {EK : XK} (hk : ks.length = ds.length) (h : EvA K .l2 p ta env env' ds) (hR : R ds r) : EvF K p (tCall (SpF K ks R) [] EK ta) env env' r := fun X a0 H0 M ad σ H Q E k =>
  h X a0 H0 M ad σ H _ E fun vs H1 E1 e1 p1 a => ⟨mk .l2 M X, ds, r, hR, mk_dom E1, by rw [List.append_nil]; exact ArgOk.ofL hk a, fun a H2 H' h0 g1 g2 rc =>
    k a H2 H' h0 (fun b o hb => by
      have := stays E E1 e1 b o hb
      cases q : H1 b with
      | none => exact absurd q this
      | some u => rw [g1 b u q]; simp) (E1.grow g1) g2 (e1.trans (hid_ex g1)) (fun z => (p1 z).trans g1) rc⟩
theorem ER.afterG {bd : Bd} (E : ER K X a0 H0 M ad σ H env) (hi : own env[i]? = some (Tr.of d)) (hb : own (some bd) = some (Tr.of d')) (hk : ∀ u, bd = .tr u → ∃ u0, env[i]? = some (.tr u0)) (hk0 : ∀ u, bd = .tm u → ∃ u0, env[i]? = some (.tm u0))
    (g : Ex (hid (fun b => b = rt ad i) H) H') (hc : Cell K (hid (fun b => M.m b ∨ X b) H') H' (rt ad i) d') : ER K X a0 H0 M ad σ H' (env.set i bd) := by
  obtain ⟨ea, hn, hσ, _⟩ := E.cl hi
  refine E.chg hi hb hk hk0 hσ (fun _ z => z) (fun _ z => .inl z) (fun _ z => z) (fun _ _ => rfl) (fun b hb => ⟨(E.ws i _ hi).1 b hb, .inl hb⟩) (E.ws i _ hi).2.1 (fun b u hb q => ?_) (fun b hb => ?_) (Ow.cell.mpr ⟨_, rfl, ea, hc⟩)
  · exact g b u (by rw [hid1 fun z => hb (by rw [ea, z]; exact List.mem_singleton.mpr rfl)]; exact q)
  · rw [ea] at hb
    rw [List.mem_singleton.mp hb]; exact hc.some
/-- a call that changes one's own object at slot i -/
theorem ev_callMo {ta : TA} {ks : List Bool} {ds : List D} {R : D → List D → D → D → Prop} {r : D} {EK : XK} (hk : ks.length = ds.length) (hk1 : ks.all id = true) (h0 : ∃ d0, env[i]? = some (.ow d0)) (h : EvA K .l2 p ta env env' ds) (hi : env'[i]? = some (.ow d)) (hR : R d ds r d') :
    EvD K .l2 false (tCall (SpM K ks R) [] EK (tCons (tVar i) ta)) env (env'.set i (.ow d')) r := fun X a0 H0 M ad σ H Q E k => by
  obtain ⟨d0, h0⟩ := h0
  refine ⟨_, (E.ow i d0 h0).2.1, h X a0 H0 M ad σ H _ E fun vs H1 E1 e1 p1 a => ?_⟩
  obtain ⟨g1, g2, g3⟩ := E1.ow i d hi
  refine ⟨fun b => M.m b ∨ X b, rt ad i, d, ds, vs, r, d', by rw [List.append_nil], hR, mk_dom (l := .l2) E1, .inl (M.le _ g1), g3, ArgOk.ofL hk a, hk1, fun v H' g hc rv => ?_⟩
  exact k v H' (E1.afterG (by rw [hi]; rfl) rfl (fun _ _ => ⟨_, hi⟩) (fun _ z => nomatch z) g hc) (e1.trans (hid_two fun b o h1 h2 => ⟨h1, g b o (by rw [hid1 fun z => h1 (by rw [z]; exact g1)]; exact h2)⟩)) (fun z => by cases z) rv
theorem ev_callMm {ta : TA} {ks : List Bool} {ds : List D} {R : D → List D → D → D → Prop} {r : D} {EK : XK} (hk : ks.length = ds.length) (hk1 : ks.all id = true) (h0 : ∃ d0, env[i]? = some (.mu d0)) (h : EvA K .l2 p ta env env' ds) (hi : env'[i]? = some (.mu d)) (hR : R d ds r d') :
    EvD K .l2 false (tCall (SpM K ks R) [] EK (tCons (tVar i) ta)) env (env'.set i (.mu d')) r := fun X a0 H0 M ad σ H Q E k => by
  obtain ⟨d0, h0⟩ := h0
  refine ⟨_, (E.mu i d0 h0).2.1, h X a0 H0 M ad σ H _ E fun vs H1 E1 e1 p1 a => ?_⟩
  obtain ⟨g1, g2, g3⟩ := E1.mu i d hi
  refine ⟨fun b => M.m b ∨ X b, rt ad i, d, ds, vs, r, d', by rw [List.append_nil], hR, mk_dom (l := .l2) E1, .inl (M.le _ g1), g3, ArgOk.ofL hk a, hk1, fun v H' g hc rv => ?_⟩
  exact k v H' (E1.afterG (by rw [hi]; rfl) rfl (fun _ z => nomatch z) (fun _ _ => ⟨_, hi⟩) g hc) (e1.trans (hid_two fun b o h1 h2 => ⟨h1, g b o (by rw [hid1 fun z => h1 (by rw [z]; exact g1)]; exact h2)⟩)) (fun z => by cases z) rv
end
end Pw
namespace Pw
open PySem L2

section
variable {K : PySem.W.Frag} {We : WX} {X : Addr → Prop} {a0 : Addr} {H0 : Hp} {M M' : Msk} {ad ad' : Nat → List Addr} {σ σ' : St} {H H' H1 : Hp} {env env' env'' : List Bd} {l l' : Lv} {p q : Bool} {d d' e : D} {ta tb te ti : TE} {t u : TT} {i j : Nat} {b c : Bool} {ts tu : TS} {o : Out} {Dn : Ends}
/-! ### the entry moved -/
theorem ER.rebase (E : ER K X a0 H0 M ad σ H env) : ER K X a0 (hid M.m H) M ad σ H env :=
  ⟨E.len, hid_all, E.xin, E.min, fun a ha => hid_in ha, E.im, E.rd, E.ws, E.xt, E.tq, E.dj, E.t0⟩
theorem ER.back (E : ER K X a0 H0 M ad σ H env) (E' : ER K X a0 (hid M.m H) M' ad' σ' H' env') : ER K X a0 H0 M' ad' σ' H' env' := by
  have up : Ex H0 (hid M.m H) := fun a o h => by
    have m : ¬ M.m a := fun z => by rw [E.mout a z] at h; cases h
    rw [hid_out m]; exact E.ex a o h
  refine ⟨E'.len, up.trans E'.ex, E'.xin, E'.min, fun a ha => ?_, E'.im, E'.rd, E'.ws, E'.xt, E'.tq, E'.dj, E'.t0⟩
  have := E'.mout a ha
  cases q : H0 a with
  | none => rfl
  | some o => rw [up a o q] at this; cases this
theorem ER.backN (E : ER K X a0 H0 M ad σ H env) {a : Addr} (h : (hid M.m H) a = none) : H0 a = none := by
  cases q : H0 a with
  | none => rfl
  | some o =>
    have m : ¬ M.m a := fun z => by rw [E.mout a z] at q; cases q
    rw [hid_out m, E.ex a o q] at h; cases h
theorem OK.rebase (E : ER K X a0 H0 M ad σ H env) (k : OK K We X a0 H0 Dn o) : OK K We X a0 (hid M.m H) Dn o := by
  cases o with
  | nx env1 => exact fun M' ad' σ' H' E' => k M' ad' σ' H' (E.back E')
  | bk env1 => exact fun M' ad' σ' H' E' => k M' ad' σ' H' (E.back E')
  | ct env1 => exact fun M' ad' σ' H' E' => k M' ad' σ' H' (E.back E')
  | rx d => exact fun env1 M' ad' σ' v H' E' r => k env1 M' ad' σ' v H' (E.back E') r
  | rm d d' => exact fun env1 M' ad' σ' v H' h E' r => k env1 M' ad' σ' v H' h (E.back E') r
  | rf d => exact fun env1 M' ad' σ' a H1 H' h E' g r => k env1 M' ad' σ' a H1 H' h (E.back E') g r
  | er e env1 => exact fun M' ad' σ' cls dd H' E' r => k M' ad' σ' cls dd H' (E.back E') r
  | rt t => exact fun env1 M' ad' σ' v as H' E' nd hn w => k env1 M' ad' σ' v as H' (E.back E') nd (fun b hb => ⟨E.backN (hn b hb).1, (hn b hb).2⟩) w
  | rs d t => exact fun env1 M' ad' σ' v H' h E' r => k env1 M' ad' σ' v H' h (E.back E') r

theorem OK.ret {D1 D2 : Ends} (h : o.ret = true) (k : OK K We X a0 H0 D1 o) (e : D2.rt = D1.rt := by rfl) : OK K We X a0 H0 D2 o := by
  cases o with
  | rx d => exact fun env1 M' ad' σ' v H' E' r => by rw [e]; exact k env1 M' ad' σ' v H' E' r
  | rm d d' => exact fun env1 M' ad' σ' v H' h E' r => by rw [e]; exact k env1 M' ad' σ' v H' h E' r
  | rf d => exact fun env1 M' ad' σ' a H1 H' h E' g r => by rw [e]; exact k env1 M' ad' σ' a H1 H' h E' g r
  | er e1 env1 => exact k
  | rt t => exact fun env1 M' ad' σ' v as H' E' nd hn w => by rw [e]; exact k env1 M' ad' σ' v as H' E' nd hn w
  | rs d t => exact fun env1 M' ad' σ' v H' h E' r => by rw [e]; exact k env1 M' ad' σ' v H' h E' r
  | _ => cases h

/-! ### what is walked -/
theorem mk_nt (E : ER K X a0 H0 M ad σ H env) : ∀ a, mk l M X a → Nt (H a) := fun a z => by
  rcases mk_le a z with z | z
  · exact E.min a z
  · exact E.has z
def mx (l : Lv) (X : Addr → Prop) : Addr → Prop := match l with
  | .l2 => X
  | _ => fun _ => False
def Lv.lp : Lv → Bool
  | .l1 => true
  | .l2 => true
  | _ => false
/-- a key that is a tuple of scalars, or a new pair of a key and data -/
def ItKey (K : PySem.W.Frag) (H H' : Hp) (x : V) (d : D) (B : Hp) : Prop :=
  (H' = H ∧ ∃ q xs es, x = .ref q ∧ H q = some (.tup xs) ∧ d = .tup es ∧ es.all scl = true ∧ ∀ B', RpL K B' es xs) ∨
  (∃ T k y dk dy, x = .ref T ∧ H T = none ∧ H' = upd H T (.tup [k, y]) ∧ d = .tup [dk, dy] ∧ (∀ B', Rp K B' dk k) ∧ Rp K B dy y) ∨
  ∃ T q y xs es dy, x = .ref T ∧ H T = none ∧ H' = upd H T (.tup [.ref q, y]) ∧ H q = some (.tup xs) ∧ d = .tup [.tup es, dy] ∧ (∀ B', RpL K B' es xs) ∧ Rp K B dy y
def ItOk (K : PySem.W.Frag) (J : It) (ds : List D) (m : Addr → Prop) (Hs : Hp) : Prop := ∀ (i : Nat) H, Ex Hs H →
  (∀ d, ds[i]? = some d → J.go i H ∧ ∀ x H', J.yld i H x H' → (H' = H ∧ Rp K (hid m Hs) d x) ∨
    (∃ T y dy, x = .ref T ∧ H T = none ∧ H' = upd H T (.tup [.int (i : Nat), y]) ∧ d = .tup [.int (i : Nat), dy] ∧ Rp K (hid m Hs) dy y) ∨ ItKey K H H' x d (hid m Hs)) ∧ (ds.length ≤ i → J.stop i H)
def EvI (K : PySem.W.Frag) (l : Lv) (p : Bool) (wi : TI) (env env' : List Bd) (ds : List D) : Prop :=
  ∀ X a0 H0 M ad σ H (R : It → Hp → Prop), ER K X a0 H0 M ad σ H env →
    (∀ J H', ER K X a0 H0 M ad σ H' env' → Ex (hid M.n H) (hid M.n H') → (p = true → Ex H H') → ItOk K J ds (mx l X) (hid M.m H') → R J H') → wi σ H R
theorem mk_mx (hl : l.lp = true) : ∀ a, mk l M X a ↔ M.m a ∨ mx l X a := fun a => by
  cases l with
  | l1 => exact ⟨.inl, fun h => h.elim id False.elim⟩
  | l2 => exact Iff.rfl
  | l0 => cases hl
  | l3 => cases hl
theorem hid_mx (hl : l.lp = true) : hid (mk l M X) H = hid (mx l X) (hid M.m H) := by
  funext a
  by_cases h1 : M.m a
  · rw [hid_in ((mk_mx hl a).mpr (.inl h1))]
    by_cases h2 : mx l X a
    · rw [hid_in h2]
    · rw [hid_out h2, hid_in h1]
  · by_cases h2 : mx l X a
    · rw [hid_in ((mk_mx hl a).mpr (.inr h2)), hid_in h2]
    · rw [hid_out fun z => ((mk_mx hl a).mp z).elim h1 h2, hid_out h2, hid_out h1]
theorem ei_list (hl : l.lp = true) {ds : List D} (h : EvD K l p te env env' (.lst ds)) : EvI K l p (iList K te) env env' ds := fun X a0 H0 M ad σ H R E k =>
  h X a0 H0 M ad σ H _ E fun x H1 E1 e1 p1 r1 => by
    obtain ⟨a, xs, rfl, h1, h2⟩ := r1
    refine ⟨a, rfl, ⟨xs, ex_l hid_all h1⟩, k _ H1 E1 e1 p1 fun i H2 g => ?_⟩
    have h3 : SqL K H2 a xs := ex_l ((by rw [hid_mx hl]; exact hid_all.trans g : Ex (hid (mk l M X) H1) H2)) h1
    refine ⟨fun d hd => ?_, fun hi => ⟨xs, h3, by rw [h2.length]; exact hi⟩⟩
    obtain ⟨v, hv, rv⟩ := h2.get hd
    refine ⟨⟨xs, v, h3, hv⟩, fun x H' y => .inl ⟨y.1, ?_⟩⟩
    have := y.2 xs h3
    rw [hv] at this
    cases this
    rw [← hid_mx hl]; exact rv
theorem ei_tup (hl : l.lp = true) {ds : List D} (h : EvD K l p te env env' (.tup ds)) : EvI K l p (iTup K te) env env' ds := fun X a0 H0 M ad σ H R E k =>
  h X a0 H0 M ad σ H _ E fun x H1 E1 e1 p1 r1 => by
    obtain ⟨a, xs, rfl, h1, h2⟩ := r1
    refine ⟨a, rfl, ⟨xs, ex_s hid_all h1⟩, k _ H1 E1 e1 p1 fun i H2 g => ?_⟩
    have h3 : SqT K H2 a xs := ex_s ((by rw [hid_mx hl]; exact hid_all.trans g : Ex (hid (mk l M X) H1) H2)) h1
    refine ⟨fun d hd => ?_, fun hi => ⟨xs, h3, by rw [h2.length]; exact hi⟩⟩
    obtain ⟨v, hv, rv⟩ := h2.get hd
    refine ⟨⟨xs, v, h3, hv⟩, fun x H' y => .inl ⟨y.1, ?_⟩⟩
    have := y.2 xs h3
    rw [hv] at this
    cases this
    rw [← hid_mx hl]; exact rv
def rng (lo : Int) (n : Nat) : List Int := (List.range n).map fun (i : Nat) => lo + (i : Int)
theorem rng_get {lo : Int} {n i : Nat} {d : D} (h : ((rng lo n).map D.int)[i]? = some d) : i < n ∧ d = .int (lo + (i : Int)) := by
  unfold rng at h
  rw [List.getElem?_map, List.getElem?_map] at h
  by_cases hi : i < n
  · rw [List.getElem?_range hi] at h
    exact ⟨hi, (Option.some.inj h).symm⟩
  · rw [List.getElem?_eq_none (by simp; omega)] at h
    cases h
theorem it_rng {lo : Int} {n : Nat} {m : Addr → Prop} {Hs : Hp} : ItOk K (Itr lo n) ((rng lo n).map D.int) m Hs := fun i H2 g => by
  refine ⟨fun d hd => ?_, fun hi => ?_⟩
  · obtain ⟨h1, h2⟩ := rng_get hd
    refine ⟨h1, fun x H' y => .inl ⟨y.1, ?_⟩⟩
    rw [h2, y.2]
    rfl
  · show n ≤ i
    unfold rng at hi
    simpa using hi
theorem ei_rng1 {ta : TA} {n : Int} (h : EvA K l' p ta env env' [.int n]) (hn : -(2 ^ 62) ≤ n ∧ n < 2 ^ 62) : EvI K l p (iRng1 ta) env env' ((rng 0 n.toNat).map D.int) := fun X a0 H0 M ad σ H R E k =>
  h X a0 H0 M ad σ H _ E fun xs H1 E1 e1 p1 r1 => by
    obtain ⟨x, rfl, hx⟩ := r1.one'
    have hx : x = V.int n := hx
    exact ⟨n, by rw [hx], hn.1, hn.2, k _ H1 E1 e1 p1 it_rng⟩
theorem ei_rng2 {ta : TA} {m n : Int} (h : EvA K l' p ta env env' [.int m, .int n]) (hm : -(2 ^ 62) ≤ m ∧ m < 2 ^ 62) (hn : -(2 ^ 62) ≤ n ∧ n < 2 ^ 62) : EvI K l p (iRng2 ta) env env' ((rng m (n - m).toNat).map D.int) := fun X a0 H0 M ad σ H R E k =>
  h X a0 H0 M ad σ H _ E fun xs H1 E1 e1 p1 r1 => by
    obtain ⟨x, r, h1, h2, h3⟩ := r1
    obtain ⟨y, h4, h5⟩ := h3.one'
    have h2 : x = V.int m := h2
    have h5 : y = V.int n := h5
    exact ⟨m, n, by rw [h1, h4, h2, h5], ⟨hm.1, hm.2, hn.1, hn.2⟩, k _ H1 E1 e1 p1 it_rng⟩
/-- i, x of each item -/
def enumD (ds : List D) : List D := ds.mapIdx fun i d => .tup [.int (i : Nat), d]
theorem ei_enumL (hl : l.lp = true) {ds : List D} {ts : TA} (h : EvA K l p ts env env' [.lst ds]) : EvI K l p (iEnum K ts) env env' (enumD ds) := fun X a0 H0 M ad σ H R E k =>
  h X a0 H0 M ad σ H _ E fun ys H1 E1 e1 p1 r1 => by
    obtain ⟨x, rfl, a, xs, rfl, h1, h2⟩ := r1.one'
    refine ⟨a, xs, rfl, ex_l hid_all h1, k _ H1 E1 e1 p1 fun i H2 g => ?_⟩
    have h3 : SqL K H2 a xs := ex_l ((by rw [hid_mx hl]; exact hid_all.trans g : Ex (hid (mk l M X) H1) H2)) h1
    refine ⟨fun d hd => ?_, fun hi => ⟨xs, h3, by rw [h2.length]; simpa [enumD] using hi⟩⟩
    unfold enumD at hd
    rw [List.getElem?_mapIdx] at hd
    obtain ⟨d0, hd0, rfl⟩ := Option.map_eq_some_iff.mp hd
    obtain ⟨v, hv, rv⟩ := h2.get hd0
    refine ⟨⟨xs, v, h3, hv⟩, fun x H' y => .inr ?_⟩
    obtain ⟨T, y', hx, hT, hH, hy⟩ := y
    have := hy xs h3
    rw [hv] at this
    cases this
    exact .inl ⟨T, v, d0, hx, hT, hH, rfl, by rw [← hid_mx hl]; exact rv⟩

/-! ### for -/
def SDt (K : PySem.W.Frag) (We : WX) (l : Lv) (g : TG) (tb : TS) (d : D) (env : List Bd) (o : Out) : Prop :=
  ∀ X a0 H0 M ad σ H Dn v, ER K X a0 H0 M ad σ H env → Rp K (hid (mk l M X) H) d v → OK K We X a0 H0 Dn o → g v σ H fun σ2 H2 => tb Dn σ2 H2
theorem sdt {g : TG} (hg : TgD K l g d env env') (hb : SD K We ts env' o) : SDt K We l g ts d env o := fun X a0 H0 M ad σ H Dn v E r k =>
  hg X a0 H0 M ad σ H v _ E r fun σ' E' => hb X a0 H0 M ad σ' H Dn E' k
def Loop (B : D → List Bd → Out → Prop) : List D → List Bd → Out → Prop
  | [], env, o => o = .nx env
  | d :: ds, env, o => (∃ env1, (B d env (.nx env1) ∨ B d env (.ct env1)) ∧ Loop B ds env1 o) ∨ (∃ env1, B d env (.bk env1) ∧ o = .nx env1) ∨ (o.ret = true ∧ B d env o)
/-- an item met in a turn -/
theorem turn_in (hl : l.lp = true) {Hs : Hp} {x : V} {i : Nat} (E : ER K X a0 Hs M ad σ H env)
    (y : (H' = H ∧ Rp K (hid (mx l X) Hs) d x) ∨ (∃ T y dy, x = .ref T ∧ H T = none ∧ H' = upd H T (.tup [.int (i : Nat), y]) ∧ d = .tup [.int (i : Nat), dy] ∧ Rp K (hid (mx l X) Hs) dy y) ∨ ItKey K H H' x d (hid (mx l X) Hs)) :
    Ex H H' ∧ ER K X a0 Hs M ad σ H' env ∧ Rp K (hid (mk l M X) H') d x := by
  have up : Ex (hid (mx l X) Hs) (hid (mk l M X) H) := fun a o h => by
    obtain ⟨h1, h2⟩ := of_hid h
    have m : ¬ M.m a := fun z => by rw [E.mout a z] at h2; cases h2
    rw [hid_out fun z => ((mk_mx hl a).mp z).elim m h1]
    exact E.ex a o h2
  rcases y with ⟨rfl, r⟩ | ⟨T, y, dy, rfl, hT, rfl, rfl, r⟩ | (⟨rfl, q, xs, es, rfl, hq, rfl, hs, r⟩ | ⟨T, k, y, dk, dy, rfl, hT, rfl, rfl, rk, r⟩ | ⟨T, q, y, xs, es, dy, rfl, hT, rfl, hq, rfl, rk, r⟩)
  · exact ⟨Ex.refl _, E, Rp.mono up _ _ r⟩
  · have g : Ex H (upd H T (.tup [.int (i : Nat), y])) := Ex.new hT
    refine ⟨g, E.grow g, T, _, rfl, ?_, ⟨_, _, rfl, rfl, _, _, rfl, Rp.mono (up.trans (hid_ex g)) _ _ r, rfl⟩⟩
    rw [hid_out (fresh_mk E hT), upd_same]
  · refine ⟨Ex.refl _, E, q, xs, rfl, ?_, r _⟩
    rw [hid_out fun z => (mk_nt E _ z).2 xs hq]; exact hq
  · have g : Ex H (upd H T (.tup [k, y])) := Ex.new hT
    refine ⟨g, E.grow g, T, _, rfl, ?_, ⟨_, _, rfl, rk _, _, _, rfl, Rp.mono (up.trans (hid_ex g)) _ _ r, rfl⟩⟩
    rw [hid_out (fresh_mk E hT), upd_same]
  · have g : Ex H (upd H T (.tup [.ref q, y])) := Ex.new hT
    refine ⟨g, E.grow g, T, _, rfl, ?_, ⟨_, _, rfl, ⟨q, xs, rfl, ?_, rk _⟩, _, _, rfl, Rp.mono (up.trans (hid_ex g)) _ _ r, rfl⟩⟩
    · rw [hid_out (fresh_mk E hT), upd_same]
    · rw [hid_out fun z => (mk_nt E _ z).2 xs hq]; exact g q _ hq
theorem sd_for (hl : l.lp = true) {wi : TI} {g : TG} {ds : List D} (hi : EvI K l p wi env env' ds) (h : Loop (SDt K We l g ts) ds env' o) : SD K We (tFor wi g ts) env o := fun X a0 H0 M ad σ H Dn E k =>
  hi X a0 H0 M ad σ H _ E fun J H1 E1 _ _ it => by
    have k' := OK.rebase E1 k
    refine ⟨fun i m σ' H' => m = ds.length - i ∧ i ≤ ds.length ∧ ∃ env M' ad', ER K X a0 (hid M.m H1) M' ad' σ' H' env ∧ Loop (SDt K We l g ts) (ds.drop i) env o, ⟨ds.length, by simp, Nat.zero_le _, env', M, ad, E1.rebase, h⟩, ?_⟩
    rintro i m σ' H' ⟨rfl, hle, env, M', ad', E', L⟩
    obtain ⟨it1, it2⟩ := it i H' E'.ex
    by_cases hlt : i < ds.length
    · refine .inr ?_
      have hd : ds[i]? = some ds[i] := List.getElem?_eq_getElem hlt
      rw [List.drop_eq_getElem_cons hlt] at L
      obtain ⟨go, yl⟩ := it1 _ hd
      refine ⟨go, ?_⟩
      rcases L with ⟨env1, hB, L⟩ | ⟨env1, hB, ho⟩ | ⟨ho, hB⟩
      · refine ⟨fun σ2 H2 => ∃ env M' ad', ER K X a0 (hid M.m H1) M' ad' σ2 H2 env ∧ Loop (SDt K We l g ts) (ds.drop (i + 1)) env o, fun σ2 H2 n => ⟨ds.length - (i + 1), by omega, rfl, hlt, n⟩, fun x H2 y => ?_⟩
        obtain ⟨_, E2, r2⟩ := turn_in hl E' (yl x H2 y)
        rcases hB with hB | hB
        · exact hB X a0 _ M' ad' σ' H2 _ x E2 r2 fun M3 ad3 σ3 H3 E3 => ⟨env1, M3, ad3, E3, L⟩
        · exact hB X a0 _ M' ad' σ' H2 _ x E2 r2 fun M3 ad3 σ3 H3 E3 => ⟨env1, M3, ad3, E3, L⟩
      · subst ho
        refine ⟨fun _ _ => False, fun _ _ z => z.elim, fun x H2 y => ?_⟩
        obtain ⟨_, E2, r2⟩ := turn_in hl E' (yl x H2 y)
        exact hB X a0 _ M' ad' σ' H2 _ x E2 r2 fun M3 ad3 σ3 H3 E3 => k' M3 ad3 σ3 H3 E3
      · refine ⟨fun _ _ => False, fun _ _ z => z.elim, fun x H2 y => ?_⟩
        obtain ⟨_, E2, r2⟩ := turn_in hl E' (yl x H2 y)
        exact hB X a0 _ M' ad' σ' H2 _ x E2 r2 (OK.ret ho k')
    · have e : i = ds.length := by omega
      subst e
      rw [List.drop_length] at L
      have L : o = .nx env := L
      subst L
      exact .inl ⟨it2 (Nat.le_refl _), k' M' ad' σ' H' E'⟩
theorem loop_fold {α S : Type} {B : D → List Bd → Out → Prop} {f : S → α → Option S} {en : α → D} {ev : S → List Bd} (h : ∀ x s s1, f s x = some s1 → B (en x) (ev s) (.nx (ev s1)) ∨ B (en x) (ev s) (.ct (ev s1))) :
    ∀ (xs : List α) s s', xs.foldlM f s = some s' → Loop B (xs.map en) (ev s) (.nx (ev s'))
  | [], s, s', q => by
    have q : some s = some s' := q
    cases q; rfl
  | x :: xs, s, s', q => by
    rw [List.foldlM_cons] at q
    obtain ⟨s1, h1, h2⟩ := Option.bind_eq_some_iff.mp q
    exact .inl ⟨ev s1, h x s s1 h1, loop_fold h xs s1 s' h2⟩

/-! ### while -/
def WLoop (C : List Bd → List Bd → Bool → Prop) (B : List Bd → Out → Prop) : Nat → List Bd → Out → Prop
  | 0, _, _ => False
  | n + 1, env, o => ∃ env1 b, C env env1 b ∧ (b = false → o = .nx env1) ∧ (b = true → (∃ env2, (B env1 (.nx env2) ∨ B env1 (.ct env2)) ∧ WLoop C B n env2 o) ∨ (∃ env2, B env1 (.bk env2) ∧ o = .nx env2) ∨ (o.ret = true ∧ B env1 o))
theorem sd_while {n : Nat} (h : WLoop (EvB K p t) (SD K We ts) n env o) : SD K We (tWhile t ts) env o := fun X a0 H0 M ad σ H Dn E k => by
  refine ⟨fun m σ' H' => ∃ env M' ad', ER K X a0 H0 M' ad' σ' H' env ∧ WLoop (EvB K p t) (SD K We ts) m env o, ⟨n, env, M, ad, E, h⟩, ?_⟩
  rintro m σ' H' ⟨env, M', ad', E', L⟩
  cases m with
  | zero => exact L.elim
  | succ m =>
    obtain ⟨env1, b, hC, h0, h1⟩ := L
    refine hC X a0 H0 M' ad' σ' H' _ E' fun H2 E2 _ _ => ?_
    cases b with
    | false =>
      have := h0 rfl
      subst this
      exact k M' ad' σ' H2 E2
    | true =>
      show ∃ N : St → Hp → Prop, _
      rcases h1 rfl with ⟨env2, hB, L⟩ | ⟨env2, hB, ho⟩ | ⟨ho, hB⟩
      · refine ⟨fun σ3 H3 => ∃ env M' ad', ER K X a0 H0 M' ad' σ3 H3 env ∧ WLoop (EvB K p t) (SD K We ts) m env o, fun σ3 H3 z => ⟨m, Nat.lt_succ_self _, z⟩, ?_⟩
        rcases hB with hB | hB
        · exact hB X a0 H0 M' ad' σ' H2 _ E2 fun M3 ad3 σ3 H3 E3 => ⟨env2, M3, ad3, E3, L⟩
        · exact hB X a0 H0 M' ad' σ' H2 _ E2 fun M3 ad3 σ3 H3 E3 => ⟨env2, M3, ad3, E3, L⟩
      · subst ho
        exact ⟨fun _ _ => False, fun _ _ z => z.elim, hB X a0 H0 M' ad' σ' H2 _ E2 fun M3 ad3 σ3 H3 E3 => k M3 ad3 σ3 H3 E3⟩
      · exact ⟨fun _ _ => False, fun _ _ z => z.elim, hB X a0 H0 M' ad' σ' H2 _ E2 (OK.ret ho k)⟩
end
end Pw
namespace Pw
open PySem L2

section
variable {K : PySem.W.Frag} {We : WX} {X : Addr → Prop} {a0 : Addr} {H0 : Hp} {M M' : Msk} {ad ad' : Nat → List Addr} {σ σ' : St} {H H' H1 : Hp} {env env' env'' : List Bd} {l l' : Lv} {p q : Bool} {d d' e : D} {ta tb te ti : TE} {t u : TT} {i j : Nat} {b c : Bool} {ts tu : TS} {o : Out} {Dn : Ends}
/-! ### comprehensions -/
def wipeE (env : List Bd) : List Nat → List Bd
  | [] => env
  | v :: vs => (wipeE env vs).set v .an
theorem wipeE_len : ∀ {vs : List Nat}, (wipeE env vs).length = env.length
  | [] => rfl
  | v :: vs => by unfold wipeE; rw [List.length_set, wipeE_len]
theorem wipeE_at : ∀ {vs : List Nat} {j : Nat}, j ∈ vs → j < env.length → (wipeE env vs)[j]? = some .an
  | v :: vs, j, h, hl => by
    unfold wipeE
    by_cases e : j = v
    · subst e; rw [List.getElem?_set_self (by rw [wipeE_len]; exact hl)]
    · rw [List.getElem?_set_ne (Ne.symm e)]
      exact wipeE_at ((List.mem_cons.mp h).resolve_left e) hl
theorem ER.setAn (E : ER K X a0 H0 M ad σ H env) {x : Option V} (hm : isMu env[i]? = false) : ER K X a0 H0 M ad (σ.set i x) H (env.set i .an) := E.setB rfl (fun _ z => nomatch z) (fun _ z => nomatch z) (fun _ z => nomatch z)
/-- slots where nothing is known may hold anything -/
theorem ER.anyAt (E : ER K X a0 H0 M ad σ H env) (hl : σ'.length = σ.length) (h : ∀ (j : Nat) b, env[j]? = some b → b = .an ∨ σ'[j]? = σ[j]?) : ER K X a0 H0 M ad σ' H env := by
  refine ⟨hl.trans E.len, E.ex, E.xin, E.min, E.mout, fun j e q => ?_, fun j e q => ?_, fun j u q => ?_, E.xt, fun j u q => ?_, E.dj, fun j u q => ?_⟩
  · rcases h j _ q with z | z
    · cases z
    · rw [z]; exact E.im j e q
  · rcases h j _ q with z | z
    · cases z
    · rw [z]; exact E.rd j e q
  · cases e : env[j]? with
    | none => rw [e] at q; cases q
    | some b =>
      rcases h j _ e with z | z
      · rw [e, z] at q; cases q
      · rw [z]; exact E.ws j u q
  · rcases h j _ q with z | z
    · cases z
    · rw [z]; exact E.tq j u q
  · obtain ⟨b, q, hc⟩ := pin_some q
    rcases h j _ q with z | z
    · rcases hc with ⟨t, e, _⟩ | e <;> rw [e] at z <;> cases z
    · rw [z]; exact E.t0 j u (by rw [q]; rcases hc with ⟨t, rfl, rfl⟩ | rfl <;> rfl)
theorem ER.updHid {τ : L2.St} {Dl : Addr} (E : ER K X a0 H0 (M.hide Dl) ad τ H env) (hb : H0 Dl = none) (nM : ¬ M.m Dl) {o : HO} (ho : ∀ xs, o ≠ .tup xs) : ER K X a0 H0 (M.hide Dl) ad τ (upd H Dl o) env := by
  have hm1 : hid (fun b => (M.hide Dl).m b ∨ X b) (upd H Dl o) = hid (fun b => (M.hide Dl).m b ∨ X b) H := hid_upd (.inl (.inr rfl))
  have hm2 : hid (M.hide Dl).m (upd H Dl o) = hid (M.hide Dl).m H := hid_upd (.inr rfl)
  have nt : ∀ b, Nt (H b) → Nt ((upd H Dl o) b) := fun b h => by
    by_cases z : b = Dl
    · rw [z, upd_same]; exact ⟨by simp, fun xs e => ho xs (Option.some.inj e)⟩
    · rw [upd_ne z]; exact h
  refine ⟨E.len, fun b u h => ?_, fun b h => nt b (E.xin b h), fun b h => nt b (E.min b h), E.mout, fun j e q => ?_, fun j e q => ?_, fun j u q => ?_, E.xt, fun j u q => ?_, E.dj, E.t0⟩
  · rw [upd_ne fun (z : b = Dl) => by rw [z, hb] at h; cases h]; exact E.ex b u h
  · rw [hm1]; exact E.im j e q
  · rw [hm2]; exact E.rd j e q
  · obtain ⟨g1, g2, x, g3, g4⟩ := E.ws j u q
    rw [hm1]
    exact ⟨g1, g2, x, g3, Ow.mono (Ex.refl _) _ _ _ (fun b hb => upd_ne fun z => nM (M.le _ (by rw [← z]; exact g1 b hb))) g4⟩
  · obtain ⟨x, as, h1, h2, h3, h4⟩ := E.tq j u q
    rw [hm1]
    exact ⟨x, as, h1, h2, h3, Ow.mono (Ex.refl _) _ _ _ (fun b hb => upd_ne fun z => (h2 b hb).2 (.inr z)) h4⟩
theorem hid_hide {Dl : Addr} (nM : ¬ M.m Dl) (nX : ¬ X Dl) : hid (fun b => (M.hide Dl).m b ∨ X b) H = hid (fun b => M.m b ∨ X b) (hid (fun b => b = Dl) H) := by
  funext a
  by_cases h1 : a = Dl
  · subst h1
    rw [hid_in (.inl (.inr rfl)), hid_out (m := fun b => M.m b ∨ X b) (fun z => z.elim nM nX), hid_in (m := fun b => b = a) rfl]
  · by_cases h2 : M.m a ∨ X a
    · rw [hid_in (m := fun b => M.m b ∨ X b) h2, hid_in (m := fun b => (M.hide Dl).m b ∨ X b) (h2.imp .inl id)]
    · rw [hid_out (m := fun b => M.m b ∨ X b) h2, hid1 h1, hid_out (m := fun b => (M.hide Dl).m b ∨ X b) fun z => by
        rcases z with (z | z) | z
        · exact h2 (.inl z)
        · exact h1 z
        · exact h2 (.inr z)]
theorem hid_hide1 {Dl : Addr} (nM : ¬ M.m Dl) : hid (M.hide Dl).m H = hid M.m (hid (fun b => b = Dl) H) := by
  funext a
  by_cases h1 : a = Dl
  · subst h1
    rw [hid_in (m := (M.hide a).m) (.inr rfl), hid_out (m := M.m) nM, hid_in (m := fun b => b = a) rfl]
  · by_cases h2 : M.m a
    · rw [hid_in (m := M.m) h2, hid_in (m := (M.hide Dl).m) (.inl h2)]
    · rw [hid_out (m := M.m) h2, hid1 h1, hid_out (m := (M.hide Dl).m) fun z => z.elim h2 h1]
/-- the new object forgotten again -/
theorem ER.unhide {τ : L2.St} {Dl : Addr} (E : ER K X a0 H0 (M.hide Dl) ad τ H env) (hb : H0 Dl = none) (nM : ¬ M.m Dl) (nX : ¬ X Dl) : ER K X a0 H0 M ad τ (hid (fun b => b = Dl) H) env := by
  have nD : ∀ b, M.m b → b ≠ Dl := fun b h z => nM (z ▸ h)
  refine ⟨E.len, fun b u h => ?_, fun b h => ?_, fun b h => ?_, fun b h => E.mout b (.inl h), fun j e q => ?_, fun j e q => ?_, fun j u q => ?_, E.xt, fun j u q => ?_, E.dj, E.t0⟩
  · rw [hid1 fun (z : b = Dl) => by rw [z, hb] at h; cases h]; exact E.ex b u h
  · rw [hid1 fun (z : b = Dl) => nX (z ▸ h)]; exact E.xin b h
  · rw [hid1 (nD b h)]; exact E.min b (.inl h)
  · rw [← hid_hide nM nX]; exact E.im j e q
  · rw [← hid_hide1 nM]; exact E.rd j e q
  · obtain ⟨g1, g2, x, g3, g4⟩ := E.ws j u q
    rw [← hid_hide nM nX]
    exact ⟨g1, g2, x, g3, Ow.mono (Ex.refl _) _ _ _ (fun b hb => hid1 (nD _ (M.le _ (g1 b hb)))) g4⟩
  · obtain ⟨x, as, h1, h2, h3, h4⟩ := E.tq j u q
    rw [← hid_hide nM nX]
    exact ⟨x, as, h1, fun b hb => ⟨(h2 b hb).1, fun z => (h2 b hb).2 (.inl z)⟩, h3, Ow.mono (Ex.refl _) _ _ _ (fun b hb => hid1 fun (z : b = Dl) => nX (z ▸ (h2 b hb).1)) h4⟩
theorem nomus : ∀ {vs : List Nat} {v : Nat}, (vs.all fun v => !isMu env[v]?) = true → v ∈ vs → isMu env[v]? = false := fun {vs v} h hv => by
  have := List.all_eq_true.mp h v hv
  simpa using this
theorem ER.wipe (E : ER K X a0 H0 M ad σ H env) : ∀ {vs : List Nat}, (vs.all fun v => !isMu env[v]?) = true → ER K X a0 H0 M ad (wipe σ vs) H (wipeE env vs) ∧ ∀ j : Nat, isMu env[j]? = false → isMu (wipeE env vs)[j]? = false
  | [], _ => ⟨E, fun _ h => h⟩
  | v :: vs, h => by
    have h' : (!isMu env[v]?) = true ∧ (vs.all fun v => !isMu env[v]?) = true := by simpa using h
    obtain ⟨E1, h1⟩ := ER.wipe E h'.2
    have hv : isMu env[v]? = false := by simpa using h'.1
    refine ⟨E1.setAn (h1 v hv), fun j hj => ?_⟩
    cases q : isMu (wipeE env (v :: vs))[j]? with
    | false => rfl
    | true =>
      have := (set_mu (env := wipeE env vs) rfl q).2
      rw [h1 j hj] at this; cases this
theorem wipe_get {vs : List Nat} {j : Nat} : (wipe σ vs)[j]? = if j ∈ vs ∧ j < σ.length then some none else σ[j]? := by
  induction vs with
  | nil => simp [L2.wipe]
  | cons v vs ih =>
    unfold L2.wipe
    by_cases e : j = v
    · subst e
      by_cases hl : j < σ.length
      · rw [List.getElem?_set_self (by rw [wipe_length]; exact hl), if_pos ⟨List.mem_cons_self, hl⟩]
      · rw [List.getElem?_eq_none (by simp [wipe_length]; omega), if_neg fun z => hl z.2, List.getElem?_eq_none (by omega)]
    · rw [List.getElem?_set_ne (Ne.symm e), ih]
      by_cases hl : j ∈ vs ∧ j < σ.length
      · rw [if_pos hl, if_pos ⟨List.mem_cons_of_mem _ hl.1, hl.2⟩]
      · rw [if_neg hl, if_neg fun z => hl ⟨(List.mem_cons.mp z.1).resolve_left e, z.2⟩]
theorem wipe_set {vs : List Nat} {x : Option V} (h : i ∈ vs) : wipe (σ.set i x) vs = wipe σ vs := by
  apply List.ext_getElem?
  intro j
  rw [wipe_get, wipe_get, List.length_set]
  by_cases hl : j ∈ vs ∧ j < σ.length
  · rw [if_pos hl, if_pos hl]
  · rw [if_neg hl, if_neg hl]
    by_cases e : j = i
    · subst e
      have : ¬ j < σ.length := fun z => hl ⟨h, z⟩
      rw [List.getElem?_eq_none (by simp; omega), List.getElem?_eq_none (by omega)]
    · rw [List.getElem?_set_ne (Ne.symm e)]
theorem wipe_wipe {vs : List Nat} : wipe (wipe σ vs) vs = wipe σ vs := by
  apply List.ext_getElem?
  intro j
  rw [wipe_get, wipe_length]
  by_cases hl : j ∈ vs ∧ j < σ.length
  · rw [if_pos hl, wipe_get, if_pos hl]
  · rw [if_neg hl]
structure TgW (g : TG) (vs : List Nat) : Prop where
  mono : ∀ v σ H (Q Q' : St → Hp → Prop), (∀ s h, Q s h → Q' s h) → g v σ H Q → g v σ H Q'
  w : ∀ v σ H (Q : St → Hp → Prop), g v σ H Q → g v σ H fun σ2 H2 => wipe σ2 vs = wipe σ vs ∧ Q σ2 H2
structure TgsW (g : TGs) (vs : List Nat) : Prop where
  mono : ∀ v σ H (Q Q' : St → Hp → Prop), (∀ s h, Q s h → Q' s h) → g v σ H Q → g v σ H Q'
  w : ∀ v σ H (Q : St → Hp → Prop), g v σ H Q → g v σ H fun σ2 H2 => wipe σ2 vs = wipe σ vs ∧ Q σ2 H2
theorem tw_name {vs : List Nat} (h : i ∈ vs) : TgW (gName i) vs := ⟨fun v σ H Q Q' k q => k _ _ q, fun v σ H Q q => ⟨wipe_set h, q⟩⟩
theorem tws_nil {vs : List Nat} : TgsW gNil vs := ⟨fun v σ H Q Q' k q => ⟨q.1, k _ _ q.2⟩, fun v σ H Q q => ⟨q.1, rfl, q.2⟩⟩
theorem tws_cons {vs : List Nat} {g : TG} {gs : TGs} (h : TgW g vs) (hs : TgsW gs vs) : TgsW (gCons g gs) vs := by
  refine ⟨fun v σ H Q Q' k ⟨x, r, e, q⟩ => ⟨x, r, e, h.mono _ _ _ _ _ (fun s h z => hs.mono _ _ _ _ _ k z) q⟩, fun v σ H Q q => ?_⟩
  obtain ⟨x, r, e, q⟩ := q
  refine ⟨x, r, e, h.mono _ _ _ _ _ (fun s1 h1 z => ?_) (h.w _ _ _ _ q)⟩
  exact hs.mono _ _ _ _ _ (fun s2 h2 y => ⟨y.1.trans z.1, y.2⟩) (hs.w _ _ _ _ z.2)
theorem tw_tup {vs : List Nat} {gs : TGs} {n : Nat} (h : TgsW gs vs) : TgW (gTup K n gs) vs :=
  ⟨fun v σ H Q Q' k ⟨a, xs, h1, h2, h3, q⟩ => ⟨a, xs, h1, h2, h3, h.mono _ _ _ _ _ k q⟩, fun v σ H Q ⟨a, xs, h1, h2, h3, q⟩ => ⟨a, xs, h1, h2, h3, h.w _ _ _ _ q⟩⟩

/-- one turn: the item, what is known, the new item or none, what is known behind -/
structure Turn (K : PySem.W.Frag) (l : Lv) (p : Bool) (g : TG) (tt : TT) (te : TE) (vs : List Nat) (d : D) (env : List Bd) (r : Option D) (env' : List Bd) : Prop where
  an : ∀ v ∈ vs, env'[v]? = some .an ∨ env'[v]? = none
  go : ∃ envt env1, TgD K l g d env envt ∧ ∃ b, EvB K p tt envt env1 b ∧ (vs.all fun v => !isMu env1[v]?) = true ∧
    (b = true → ∃ env2 y, EvD K .l2 p te env1 env2 y ∧ (vs.all fun v => !isMu env2[v]?) = true ∧ r = some y ∧ env' = wipeE env2 vs) ∧ (b = false → r = none ∧ env' = wipeE env1 vs)
def CLoop (B : D → List Bd → Option D → List Bd → Prop) : List D → List Bd → List D → List Bd → Prop
  | [], env, out, env' => out = [] ∧ env' = env
  | d :: ds, env, out, env' => ∃ r env1 out', B d env r env1 ∧ out = r.toList ++ out' ∧ CLoop B ds env1 out' env'
theorem CLoop.len {B : D → List Bd → Option D → List Bd → Prop} : ∀ {ds : List D} {env env' : List Bd} {out : List D}, CLoop B ds env out env' → out.length ≤ ds.length
  | [], _, _, _, h => by rw [h.1]; exact Nat.le_refl _
  | d :: ds, _, _, _, ⟨r, env1, out', _, h2, h3⟩ => by
    have := h3.len
    rw [h2]
    cases r <;> simp <;> omega
theorem ef_lc (hl : l.lp = true) {wi : TI} {g : TG} {tt : TT} {vs : List Nat} {ds out : List D} (hi : EvI K l p wi env env' ds) (hw : TgW g vs) (han : ∀ v ∈ vs, env'[v]? = some .an) (hn : ds.length ≤ 100000)
    (h : CLoop (Turn K l p g tt te vs) ds env' out env'') : EvF K p (tLc wi g tt te vs) env env'' (.lst out) := fun X a0 H0 M ad σ H Q E k =>
  hi X a0 H0 M ad σ H _ E fun J H1 E1 e1 p1 it => fun Dl hD => by
    have g0 : Ex H1 (upd H1 Dl (.lst [])) := Ex.new hD
    have nM : ¬ M.m Dl := fun z => (E1.min _ z).1 hD
    have nX : ¬ X Dl := fun z => (E1.has z).1 hD
    have σan : ∀ (j : Nat) b, env'[j]? = some b → b = .an ∨ (wipe σ vs)[j]? = σ[j]? := fun j b hb => by
      by_cases m : j ∈ vs
      · rw [han j m] at hb; exact .inl (Option.some.inj hb).symm
      · rw [wipe_get, if_neg fun z => m z.1]; exact .inr rfl
    have E1w : ER K X a0 (hid M.m H1) M ad (wipe σ vs) H1 env' := (E1.rebase).anyAt (wipe_length _ _) σan
    have ES : ER K X a0 (hid M.m H1) (M.hide Dl) ad (wipe σ vs) (upd H1 Dl (.lst [])) env' := E1w.mask hD g0 (by rw [upd_same]; exact ⟨by simp, by simp⟩)
    have ne1 : ∀ b o, H1 b = some o → b ≠ Dl := fun b o h z => by rw [z, hD] at h; cases h
    have keepD : ∀ {H2 H3 : Hp} {xs : List V}, Ex (hid M.n H2) (hid M.n H3) → H2 Dl = some (.lst xs) → H3 Dl = some (.lst xs) := fun {H2 H3 xs} e h => (of_hid (e Dl _ (by rw [hid_out fun z => nM (M.le _ z)]; exact h))).2
    have hb0 : (hid M.m H1) Dl = none := by
      cases q : (hid M.m H1) Dl with
      | none => rfl
      | some o => rw [(of_hid q).2] at hD; cases hD
    have updE : ∀ {H2 : Hp} {env2 : List Bd} {o : HO}, (∀ xs, o ≠ .tup xs) → ER K X a0 (hid M.m H1) (M.hide Dl) ad (wipe σ vs) H2 env2 → ER K X a0 (hid M.m H1) (M.hide Dl) ad (wipe σ vs) (upd H2 Dl o) env2 := fun {H2 env2 o} ho E2 => E2.updHid hb0 nM ho
    refine ⟨fun i m H' => m = ds.length - i ∧ i ≤ ds.length ∧ ∃ envi acc xs rest, ER K X a0 (hid M.m H1) (M.hide Dl) ad (wipe σ vs) H' envi ∧ (p = true → Ex H1 H') ∧ (∀ b o, ¬ M.n b → H1 b = some o → H' b = some o) ∧ H' Dl = some (.lst xs) ∧
      RpL K (hid (fun b => (M.hide Dl).m b ∨ X b) H') acc xs ∧ CLoop (Turn K l p g tt te vs) (ds.drop i) envi rest env'' ∧ out = acc ++ rest ∧ (∀ v ∈ vs, envi[v]? = some .an ∨ envi[v]? = none),
      ⟨ds.length, by simp, Nat.zero_le _, env', [], [], out, ES, fun _ => g0, fun b o _ hb => g0 b o hb, upd_same, rfl, h, rfl, fun v hv => .inl (han v hv)⟩, ?_⟩
    rintro i m H' ⟨rfl, hle, envi, acc, xs, rest, E', pe, un', hDl, hacc, L, hout, hani⟩
    obtain ⟨it1, it2⟩ := it i H' E'.ex
    by_cases hlt : i < ds.length
    · refine .inr ?_
      have hd : ds[i]? = some ds[i] := List.getElem?_eq_getElem hlt
      rw [List.drop_eq_getElem_cons hlt] at L
      obtain ⟨go, yl⟩ := it1 _ hd
      obtain ⟨r, env1, out', hB, hr, L⟩ := L
      obtain ⟨han1, envt, env2, hT, b, hC, hmu, hyes, hno⟩ := hB
      refine ⟨go, fun H2 => ∃ envi acc xs rest, ER K X a0 (hid M.m H1) (M.hide Dl) ad (wipe σ vs) H2 envi ∧ (p = true → Ex H1 H2) ∧ (∀ b o, ¬ M.n b → H1 b = some o → H2 b = some o) ∧ H2 Dl = some (.lst xs) ∧
        RpL K (hid (fun b => (M.hide Dl).m b ∨ X b) H2) acc xs ∧ CLoop (Turn K l p g tt te vs) (ds.drop (i + 1)) envi rest env'' ∧ out = acc ++ rest ∧ (∀ v ∈ vs, envi[v]? = some .an ∨ envi[v]? = none), fun H2 n => ⟨ds.length - (i + 1), by omega, rfl, hlt, n⟩, fun x H2 y => ?_⟩
      obtain ⟨gx, E2, r2⟩ := turn_in hl E' (yl x H2 y)
      have hDl2 : H2 Dl = some (.lst xs) := gx _ _ hDl
      have hlen : acc.length ≤ 100000 := by
        have a2 : out.length ≤ ds.length := h.len
        rw [hout] at a2
        simp at a2
        omega
      refine hw.mono _ _ _ _ _ (fun σ3 H3 z => ⟨z.1.trans wipe_wipe, z.2 (z.1.trans wipe_wipe)⟩) (hw.w x (L2.wipe σ vs) H2 (fun σ3 H3 => L2.wipe σ3 vs = L2.wipe σ vs → _) ?_)
      refine hT X a0 _ _ ad _ H2 x _ E2 r2 fun σ3 E3 hσ => ?_
      refine hC X a0 _ _ ad σ3 H2 _ E3 fun H3 E4 e4 p4 => ?_
      have hDl3 : H3 Dl = some (.lst xs) := keepD e4 hDl2
      have up3 : Ex (hid (fun b => (M.hide Dl).m b ∨ X b) H') (hid (fun b => (M.hide Dl).m b ∨ X b) H3) := (hid_ex gx).trans (keepL (l := .l2) (M := M.hide Dl) (q := false) rfl e4 fun z => by cases z)
      cases b with
      | true =>
        obtain ⟨env3, y0, hE, hmu3, hr1, henv⟩ := hyes rfl
        refine hE X a0 _ _ ad σ3 H3 _ E4 fun v H4 E5 e5 p5 r5 => ?_
        have up4 : Ex (hid (fun b => (M.hide Dl).m b ∨ X b) H3) (hid (fun b => (M.hide Dl).m b ∨ X b) H4) := keepL (l := .l2) (M := M.hide Dl) (q := false) rfl e5 fun z => by cases z
        have hDl4 : H4 Dl = some (.lst xs) := keepD e5 hDl3
        have E6 := (E5.wipe hmu3).1
        rw [hσ, ← henv] at E6
        have hm1 : ∀ o, hid (fun b => (M.hide Dl).m b ∨ X b) (upd H4 Dl o) = hid (fun b => (M.hide Dl).m b ∨ X b) H4 := fun o => hid_upd (.inl (.inr rfl))
        have hlx : xs.length < sizeLine := by
          rw [hacc.length]
          exact Nat.lt_of_le_of_lt hlen (by decide)
        refine ⟨xs, hDl4, hlx, env1, acc ++ [y0], xs ++ [v], out', updE (fun _ z => nomatch z) E6, fun z b o hb => ?_, fun b o hnb hb => ?_, upd_same, ?_, L, ?_, han1⟩
        · rw [upd_ne (ne1 b o hb)]
          exact p5 z b o (p4 z b o (gx b o (pe z b o hb)))
        · rw [upd_ne (ne1 b o hb)]
          have w3 := (of_hid (e4 b o (by rw [hid_out (m := (M.hide Dl).n) hnb]; exact gx b o (un' b o hnb hb)))).2
          exact (of_hid (e5 b o (by rw [hid_out (m := (M.hide Dl).n) hnb]; exact w3))).2
        · rw [hm1]
          exact RpL.append (RpL.mono (up3.trans up4) _ _ hacc) (RpL.one r5)
        · rw [hout, hr, hr1]; simp
      | false =>
        obtain ⟨hr1, henv⟩ := hno rfl
        have E6 := (E4.wipe hmu).1
        rw [hσ, ← henv] at E6
        refine ⟨env1, acc, xs, out', E6, fun z => (pe z).trans (gx.trans (p4 z)), fun b o hnb hb => (of_hid (e4 b o (by rw [hid_out (m := (M.hide Dl).n) hnb]; exact gx b o (un' b o hnb hb)))).2, hDl3, RpL.mono up3 _ _ hacc, L, ?_, han1⟩
        rw [hout, hr, hr1]; rfl
    · have e : i = ds.length := by omega
      subst e
      rw [List.drop_length] at L
      obtain ⟨hL1, hL2⟩ := L
      subst hL1 hL2
      refine .inl ⟨it2 (Nat.le_refl _), ?_⟩
      have hacc' : acc = out := by rw [hout]; simp
      subst hacc'
      have hh : hid (fun b => (M.hide Dl).m b ∨ X b) H' = hid (fun b => M.m b ∨ X b) (hid (fun b => b = Dl) H') := hid_hide nM nX
      have nD : ∀ b, M.m b → b ≠ Dl := fun b hb z => nM (z ▸ hb)
      have up1 : Ex (hid M.m H1) (hid (fun b => b = Dl) H') := fun b o hb => by
        rw [hid1 (ne1 b o (of_hid hb).2)]; exact E'.ex b o hb
      have EF : ER K X a0 (hid M.m H1) M ad σ (hid (fun b => b = Dl) H') env'' := by
        have back : ER K X a0 (hid M.m H1) M ad (wipe σ vs) (hid (fun b => b = Dl) H') env'' := E'.unhide hb0 nM nX
        refine back.anyAt (wipe_length _ _).symm fun j b hb => ?_
        by_cases m : j ∈ vs
        · rcases hani j m with z | z
          · rw [z] at hb; exact .inl (Option.some.inj hb).symm
          · rw [z] at hb; cases hb
        · rw [wipe_get, if_neg fun z => m z.1]; exact .inr rfl
      have un : Ex (hid M.n H1) (hid M.n (hid (fun b => b = Dl) H')) := fun b o hb => by
        obtain ⟨h1, h2⟩ := of_hid hb
        rw [hid_out h1, hid1 (ne1 b o h2)]
        exact un' b o h1 h2
      refine k Dl (hid (fun b => b = Dl) H') H' (hid_in (m := fun b => b = Dl) rfl) (fun b o hb => ?_) (E1.back EF) hid_all (e1.trans un) (fun z b o hb => ?_) ⟨xs, hDl, by rw [← hh]; exact hacc⟩
      · exact stays E (E1.back EF) (e1.trans un) b o hb
      · have := p1 z b o hb
        rw [hid1 (ne1 b o this)]; exact pe z b o this
end
end Pw
/-! PwH: built-ins over data: max, min, sorted, set of ints, > of tuples, tuple * 1 (rules by values, over the layer). -/
namespace Pw
open PySem L2
section
variable {X : Cx}
/-- max(xs), min(xs) over data -/
def rMaxD (K : PySem.W.Frag) : List V → Hp → VK → Prop := fun vs H Q => ∃ (a : Addr) (xs : List V) (x : PyData) (ds : List PyData), vs = [V.ref a] ∧ SqL K H a xs ∧ DpAll K H xs (x :: ds) ∧ PySem.W.AlikeAll (x :: ds) ∧ PyData.depthAll (x :: ds) ≤ 60 ∧
  (∀ d ∈ x :: ds, d.canLay0 = true) ∧ ∀ (i : Nat) v, xs[i]? = some v → (x :: ds)[i]? = some (PySem.W.maxD x ds) → Q v H
def rMinD (K : PySem.W.Frag) : List V → Hp → VK → Prop := fun vs H Q => ∃ (a : Addr) (xs : List V) (x : PyData) (ds : List PyData), vs = [V.ref a] ∧ SqL K H a xs ∧ DpAll K H xs (x :: ds) ∧ PySem.W.AlikeAll (x :: ds) ∧ PyData.depthAll (x :: ds) ≤ 60 ∧
  (∀ d ∈ x :: ds, d.canLay0 = true) ∧ ∀ (i : Nat) v, xs[i]? = some v → (x :: ds)[i]? = some (PySem.W.minD x ds) → Q v H
theorem dpall_get {K : PySem.W.Frag} {H : Hp} : ∀ {xs : List V} {ds : List PyData} {i : Nat} {v : V}, DpAll K H xs ds → xs[i]? = some v → ∃ d, ds[i]? = some d ∧ Dp K H v d
  | [], _, i, v, _, h => by simp at h
  | x :: xs, _, 0, v, .cons h1 h2, h => by simp at h; subst h; exact ⟨_, rfl, h1⟩
  | x :: xs, _, i + 1, v, .cons h1 h2, h => by
    obtain ⟨d, q1, q2⟩ := dpall_get (i := i) h2 (by simpa using h)
    exact ⟨d, by simpa using q1, q2⟩
theorem u62 {A : Around} (hu : A.units + 64 < cLine) {n : Nat} (h : n ≤ 60) : A.units + 1 + n < cLine := by omega
theorem cr_maxDt (hc : X.calm = true) (hu : X.A.units + 64 < cLine) : CallR X (.builtin "max") (rMaxD X.K) := by
  intro pins s σ H vs us Q I r h
  obtain ⟨a, xs, x, ds, rfl, hs, hd, hal, hdp, hcl, q⟩ := h
  obtain ⟨its, rv, hl, _⟩ := I.list hs
  rw [Vals.ref1 r]
  obtain ⟨as, hr⟩ := Dp.readsAll I _ _ _ hd rv
  refine PySem.W.max_list_data (I.ok.hd hc) hl.isList (by simpa using hr) hal (u62 hu hdp) fun i v h' tk bs hv rd hk => ?_
  have hv' : its[i]? = some v := by simpa using hv
  have hi : i < xs.length := by
    rw [rv.length]
    exact (List.getElem?_eq_some_iff.mp hv').1
  have hx : xs[i]? = some xs[i] := List.getElem?_eq_getElem hi
  obtain ⟨u, hu1, ru⟩ := rv.get hx
  rw [hv'] at hu1
  cases hu1
  obtain ⟨d, hd1, hd2⟩ := dpall_get hd hx
  obtain ⟨cs, hcs⟩ := Dp.reads I d _ _ hd2 ru
  have e := PySem.SeqAt.Reads.unique d _ v cs bs (hcl d (List.mem_of_getElem? hd1)) (PyProof.Rows.Reads.keeps hk hcs) rd
  subst e
  exact ⟨xs[i], H, I.kept hk, ru, q i _ hx hd1⟩
theorem cr_minDt (hc : X.calm = true) (hu : X.A.units + 64 < cLine) : CallR X (.builtin "min") (rMinD X.K) := by
  intro pins s σ H vs us Q I r h
  obtain ⟨a, xs, x, ds, rfl, hs, hd, hal, hdp, hcl, q⟩ := h
  obtain ⟨its, rv, hl, _⟩ := I.list hs
  rw [Vals.ref1 r]
  obtain ⟨as, hr⟩ := Dp.readsAll I _ _ _ hd rv
  refine PySem.W.min_list_data (I.ok.hd hc) hl.isList (by simpa using hr) hal (u62 hu hdp) fun i v h' tk bs hv rd hk => ?_
  have hv' : its[i]? = some v := by simpa using hv
  have hi : i < xs.length := by
    rw [rv.length]
    exact (List.getElem?_eq_some_iff.mp hv').1
  have hx : xs[i]? = some xs[i] := List.getElem?_eq_getElem hi
  obtain ⟨u, hu1, ru⟩ := rv.get hx
  rw [hv'] at hu1
  cases hu1
  obtain ⟨d, hd1, hd2⟩ := dpall_get hd hx
  obtain ⟨cs, hcs⟩ := Dp.reads I d _ _ hd2 ru
  have e := PySem.SeqAt.Reads.unique d _ v cs bs (hcl d (List.mem_of_getElem? hd1)) (PyProof.Rows.Reads.keeps hk hcs) rd
  subst e
  exact ⟨xs[i], H, I.kept hk, ru, q i _ hx hd1⟩
/-- t > u of alike data -/
def rGtD (K : PySem.W.Frag) : R2 := fun x y H Q => ∃ d e, Dp K H x d ∧ Dp K H y e ∧ PySem.W.alike d e = true ∧ d ≠ .none ∧ d.depth ≤ 60 ∧ Q (.bl (PySem.W.dataLt e d)) H
theorem op_gtD (hu : X.A.units + 64 < cLine) : OpR X (compareOp .Gt) (rGtD X.K) := by
  intro pins s σ H x y v u Q I rx ry h
  obtain ⟨d, e, hd, he, hal, hn, hdp, q⟩ := h
  obtain ⟨as, r1⟩ := Dp.reads I d x v hd rx
  obtain ⟨bs, r2⟩ := Dp.reads I e y u he ry
  exact PySem.W.gt_data r1 r2 hal hn (by have := Nat.min_le_left d.depth e.depth; omega) ⟨.bl _, H, I, rfl, q⟩
def rLtD (K : PySem.W.Frag) : R2 := fun x y H Q => ∃ d e, Dp K H x d ∧ Dp K H y e ∧ PySem.W.alike d e = true ∧ d ≠ .none ∧ d.depth ≤ 60 ∧ Q (.bl (PySem.W.dataLt d e)) H
theorem op_ltD (hu : X.A.units + 64 < cLine) : OpR X (compareOp .Lt) (rLtD X.K) := by
  intro pins s σ H x y v u Q I rx ry h
  obtain ⟨d, e, hd, he, hal, hn, hdp, q⟩ := h
  obtain ⟨as, r1⟩ := Dp.reads I d x v hd rx
  obtain ⟨bs, r2⟩ := Dp.reads I e y u he ry
  exact PySem.W.lt_data r1 r2 hal hn (by have := Nat.min_le_left d.depth e.depth; omega) ⟨.bl _, H, I, rfl, q⟩
/-- sorted(xs) over data -/
def rSortD (K : PySem.W.Frag) : List V → Hp → VK → Prop := fun vs H Q => ∃ (a : Addr) (xs : List V) (ds : List PyData), vs = [V.ref a] ∧ SqL K H a xs ∧ DpAll K H xs ds ∧ PySem.W.AllAlike ds ∧ PySem.W.Sortable ds ∧ (∀ d ∈ ds, d.depth ≤ 60) ∧ ds.length ≤ 100000 ∧
  ∀ p, H p = none → Q (.ref p) (upd H p (.lst (((xs.zip ds).mergeSort (PySem.W.dataLe false (·.2))).map (·.1))))
theorem eachV {xs : List V} {ds : List PyData} {its : List Value} (r : Vals xs its) (hl : xs.length = ds.length) : PySem.W.EachIs (fun (v : Value) (b : V × PyData) => RelV b.1 v) its (xs.zip ds) := by
  induction r generalizing ds with
  | nil => exact .nil
  | cons h t ih =>
    cases ds with
    | nil => simp at hl
    | cons d ds => exact .cons h (ih (by simpa using hl))
theorem eachR {K : PySem.W.Frag} {H : Hp} {h : Heap} {pins : List (Addr × Obj)} {σ : St} {s : Shared} (I : Inv X pins σ H s) {xs : List V} {ds : List PyData} {its : List Value} (r : Vals xs its) (hd : DpAll X.K H xs ds) :
    PySem.W.EachIs (fun (v : Value) (b : V × PyData) => ∃ as, Reads s.heap v b.2 as) its (xs.zip ds) := by
  induction r generalizing ds with
  | nil => cases hd; exact .nil
  | cons h t ih =>
    cases hd with
    | cons h1 h2 => exact .cons (Dp.reads I _ _ _ h1 h) (ih h2)
theorem valsOf : ∀ {bs : List (V × PyData)} {out : List Value}, PySem.W.EachIs (fun (v : Value) (b : V × PyData) => RelV b.1 v) out bs → Vals (bs.map (·.1)) out
  | [], _, .nil => .nil
  | _ :: _, _, .cons h t => .cons h (valsOf t)
theorem dpall_len {K : PySem.W.Frag} {H : Hp} : ∀ {xs : List V} {ds : List PyData}, DpAll K H xs ds → xs.length = ds.length
  | _, _, .nil => rfl
  | _, _, .cons _ h => by simp [dpall_len h]
theorem cr_sortDt (hu : X.A.units + 64 < cLine) : CallR X (.builtin "sorted") (rSortD X.K) := by
  intro pins s σ H vs us Q I r h
  obtain ⟨a, xs, ds, rfl, hs, hd, hal, hk, hdp, hn, q⟩ := h
  obtain ⟨its, rv, hl, _⟩ := I.list hs
  rw [Vals.ref1 r]
  have hlen := dpall_len hd
  have e1 : (xs.zip ds).map (·.2) = ds := by
    rw [List.map_snd_zip]
    omega
  have hz : (xs.zip ds).length = ds.length := by simp [hlen]
  refine PySem.W.sorted_data (enc := (·.2)) hl.isList (eachV rv hlen) (eachR (K := X.K) (h := s.heap) I rv hd) (by rw [e1]; exact hal) (by rw [e1]; exact hk) (by rw [hz]; exact Nat.le_trans hn (by decide)) (fun b hb => ?_) fun out ho eo => ?_
  · have := hdp b.2 (by rw [← e1]; exact List.mem_map.mpr ⟨b, hb, rfl⟩)
    omega
  · obtain ⟨ep, he'⟩ := PyProof.Rows.sortedAll_at s.heap its out.toArray
    have hlo : (((xs.zip ds).mergeSort (PySem.W.dataLe false (·.2))).map (·.1)).length ≤ sizeLine := by
      rw [List.length_map, List.length_mergeSort, hz]
      exact Nat.le_trans hn (by decide)
    exact ⟨.ref _, upd H (s.heap.objs.size + 1) (.lst _), I.laid (t' := s.toks) (fun _ _ => PyProof.Rows.sortedAll_old) (Nat.le_succ _) ⟨hlo, out, ep, valsOf eo, he'⟩, rfl, q _ (I.hok.fresh (Nat.le_succ _))⟩
/-- set(xs) of a list of ints -/
def rSetLI (X : Cx) : List V → Hp → VK → Prop := fun vs H Q => ∃ (a : Addr) (ns : List Int), vs = [V.ref a] ∧ SqL X.K H a (ns.map V.int) ∧ ns.length ≤ 60 ∧
  ∀ p c, c ≤ ns.length → H p = none → Q (.ref p) (upd H p (SetO X.w p (fun j => decide (j ∈ ns)) c))
theorem cr_setLI (hc : X.calm = true) : CallR X (.type "set") (rSetLI X) := by
  intro pins s σ H vs us Q I r h
  obtain ⟨a, ns, rfl, hs, hn, q⟩ := h
  obtain ⟨its, rv, hl, _⟩ := I.list hs
  rw [Vals.ref1 r]
  refine set_of_list ns (I.ok.hd hc) hl.isList (by simpa using rv.ints) (by unfold scanBound; omega) fun h' tk c hS hc' hk => ?_
  exact ⟨.ref _, upd H s.heap.objs.size (SetO X.w s.heap.objs.size (fun j => decide (j ∈ ns)) c), I.laid (t' := tk) hk (Nat.le_refl _) (setO_new hS), rfl, q _ c hc' (I.hok.fresh (Nat.le_refl _))⟩
end
end Pw
/-! PwK: the built-ins' answers as data. -/
namespace Pw
open PySem L2
/-! ### order and equality of tuples of whole numbers -/
def lexI : List Int → List Int → Bool
  | [], [] => false
  | [], _ :: _ => true
  | _ :: _, [] => false
  | x :: xs, y :: ys => if x = y then lexI xs ys else decide (x < y)
def pI (k : List Int) : PyData := .tuple (k.map .int)
def tI (k : List Int) : D := .tup (k.map .int)
theorem toks_one (a b : Int) (r t : List (Int ⊕ List Nat)) : PyProof.Rows.lexLt PyProof.Rows.itemOrd (.inl a :: r) (.inl b :: t) = if a = b then PyProof.Rows.lexLt PyProof.Rows.itemOrd r t else decide (a < b) := by
  rw [PyProof.Rows.lex_cons]
  show (decide (a < b) || (!decide (b < a) && _)) = _
  by_cases e : a = b
  · subst e; simp
  · rw [if_neg e]
    by_cases h : a < b
    · simp [h]
    · have h2 : b < a := by omega
      simp [h, h2]
theorem toks_ints : ∀ xs ys : List Int, PyProof.Rows.lexLt PyProof.Rows.itemOrd (PySem.W.keyToksAll (xs.map .int)) (PySem.W.keyToksAll (ys.map .int)) = lexI xs ys
  | [], [] => by simp only [List.map_nil, PySem.W.keyToksAll]; rw [toks_one]; rfl
  | [], y :: ys => by simp only [List.map_nil, List.map_cons, PySem.W.keyToksAll]; rw [toks_one]; rfl
  | x :: xs, [] => by simp only [List.map_nil, List.map_cons, PySem.W.keyToksAll]; rw [toks_one]; rfl
  | x :: xs, y :: ys => by
    simp only [List.map_cons, PySem.W.keyToksAll, PySem.W.keyToks, List.singleton_append, List.cons_append, List.nil_append]
    rw [toks_one, if_pos rfl, toks_one, toks_ints xs ys]
    rfl
theorem dataLt_ints (xs ys : List Int) : PySem.W.dataLt (pI xs) (pI ys) = lexI xs ys := by
  unfold PySem.W.dataLt pI
  simp only [PySem.W.keyToks]
  exact toks_ints xs ys
theorem alike_pI (xs ys : List Int) : PySem.W.alike (pI xs) (pI ys) = true := by
  unfold pI
  rw [PySem.W.alike]
  exact PySem.W.alike_ints xs ys
theorem depth_ints : ∀ xs : List Int, PyData.depthAll (xs.map .int) ≤ 1
  | [] => by simp [PyData.depthAll]
  | x :: xs => by
    have := depth_ints xs
    simp only [List.map_cons, PyData.depthAll, PyData.depth]
    omega
theorem depth_pI (xs : List Int) : (pI xs).depth ≤ 2 := by
  have := depth_ints xs
  unfold pI
  simp only [PyData.depth]
  omega
theorem depth_pIs : ∀ ks : List (List Int), PyData.depthAll (ks.map pI) ≤ 3
  | [] => by simp [PyData.depthAll]
  | k :: ks => by
    have h1 := depth_pIs ks
    have h2 := depth_pI k
    simp only [List.map_cons, PyData.depthAll]
    omega
theorem lay_ints : ∀ xs : List Int, PyData.canLayAll0 (xs.map .int) = true
  | [] => rfl
  | x :: xs => by simp only [List.map_cons, PyData.canLayAll0, PyData.canLay0, lay_ints xs, Bool.and_self]
theorem lay_pI (xs : List Int) : (pI xs).canLay0 = true := lay_ints xs
theorem eqv_ints : ∀ xs ys : List Int, PyData.eqvAll (xs.map .int) (ys.map .int) = decide (xs = ys)
  | [], [] => by simp [PyData.eqvAll]
  | [], y :: ys => by simp [PyData.eqvAll]
  | x :: xs, [] => by simp [PyData.eqvAll]
  | x :: xs, y :: ys => by
    simp only [List.map_cons, PyData.eqvAll, PyData.eqv, eqv_ints xs ys]
    by_cases h : x = y <;> by_cases h2 : xs = ys <;> simp [h, h2]

section
variable {K : PySem.W.Frag} {We : WX} {X : Addr → Prop} {a0 : Addr} {H0 : Hp} {M : Msk} {ad : Nat → List Addr} {σ : St} {H H' H1 : Hp} {env env' env'' : List Bd} {l l' : Lv} {p q : Bool} {d d' e : D} {ta tb te ti : TE} {t u : TT} {i j : Nat} {b c : Bool} {ts tu : TS} {o : Out} {Dn : Ends} {tsA : TA}
theorem dp_ints : ∀ {ns : List Int} {xs : List V}, RpL K H (ns.map D.int) xs → DpAll K H xs (ns.map .int)
  | [], _, h => by cases h; exact .nil
  | n :: ns, _, ⟨x, r, h1, h2, h3⟩ => by
    subst h1
    have h2 : x = V.int n := h2
    subst h2
    exact .cons (.int n) (dp_ints h3)
theorem dp_tI {k : List Int} {v : V} (h : Rp K H (tI k) v) : Dp K H v (pI k) := by
  obtain ⟨a, xs, rfl, h1, h2⟩ := h
  exact .tup (SqT.of h1) (dp_ints h2)
theorem dp_tIs : ∀ {ks : List (List Int)} {xs : List V}, RpL K H (ks.map tI) xs → DpAll K H xs (ks.map pI)
  | [], _, h => by cases h; exact .nil
  | n :: ns, _, ⟨x, r, h1, h2, h3⟩ => by
    subst h1
    exact .cons (dp_tI h2) (dp_tIs h3)
theorem DpM (e : Ex H H') : ∀ {v : V} {d : PyData}, Dp K H v d → Dp K H' v d := by
  intro v d h
  refine Dp.rec (motive_1 := fun v d _ => Dp K H' v d) (motive_2 := fun vs ds _ => DpAll K H' vs ds) ?_ ?_ ?_ ?_ ?_ ?_ ?_ ?_ h
  · exact .non
  · exact fun b => .bl b
  · exact fun i => .int i
  · exact fun x => .str x
  · exact fun h _ ih => .lst (ex_l e h) ih
  · exact fun h _ ih => .tup (ex_t e h) ih
  · exact .nil
  · exact fun _ _ h1 h2 => .cons h1 h2
theorem DpAM (e : Ex H H') : ∀ {vs : List V} {ds : List PyData}, DpAll K H vs ds → DpAll K H' vs ds
  | _, _, .nil => .nil
  | _, _, .cons h1 h2 => .cons (DpM e h1) (DpAM e h2)
/-- t > u, t < u of tuples of whole numbers -/
theorem rv_gtI {xs ys : List Int} : RV K l l' (rGtD K) (tI xs) (tI ys) (.bl (lexI ys xs)) := fun X a0 H0 M ad σ H env x y Q E rx ry k =>
  ⟨pI xs, pI ys, DpM hid_all (dp_tI rx), DpM hid_all (dp_tI ry), alike_pI _ _, (by unfold pI; simp), Nat.le_trans (depth_pI xs) (by decide), by rw [dataLt_ints]; exact k _ H E (Ex.refl _) rfl⟩
theorem rv_ltI {xs ys : List Int} : RV K l l' (rLtD K) (tI xs) (tI ys) (.bl (lexI xs ys)) := fun X a0 H0 M ad σ H env x y Q E rx ry k =>
  ⟨pI xs, pI ys, DpM hid_all (dp_tI rx), DpM hid_all (dp_tI ry), alike_pI _ _, (by unfold pI; simp), Nat.le_trans (depth_pI xs) (by decide), by rw [dataLt_ints]; exact k _ H E (Ex.refl _) rfl⟩
theorem rv_eqTI {xs ys : List Int} : RV K l l' (rEqD K) (tI xs) (tI ys) (.bl (decide (xs = ys))) := fun X a0 H0 M ad σ H env x y Q E rx ry k =>
  ⟨pI xs, pI ys, DpM hid_all (dp_tI rx), DpM hid_all (dp_tI ry), by unfold SeqAt.shaped; rw [lay_pI]; simpa using Nat.le_trans (depth_pI xs) (by decide), by unfold SeqAt.shaped; rw [lay_pI]; simpa using Nat.le_trans (depth_pI ys) (by decide), by
    show Q (.bl (PyData.eqvAll (xs.map .int) (ys.map .int))) H
    rw [eqv_ints]; exact k _ H E (Ex.refl _) rfl⟩
theorem rv_neTI {xs ys : List Int} : RV K l l' (rNeD K) (tI xs) (tI ys) (.bl (!decide (xs = ys))) := fun X a0 H0 M ad σ H env x y Q E rx ry k =>
  ⟨pI xs, pI ys, DpM hid_all (dp_tI rx), DpM hid_all (dp_tI ry), by unfold SeqAt.shaped; rw [lay_pI]; simpa using Nat.le_trans (depth_pI xs) (by decide), by unfold SeqAt.shaped; rw [lay_pI]; simpa using Nat.le_trans (depth_pI ys) (by decide), by
    show Q (.bl (!PyData.eqvAll (xs.map .int) (ys.map .int))) H
    rw [eqv_ints]; exact k _ H E (Ex.refl _) rfl⟩
/-- max, min of a list of such -/
def maxK (k : List Int) (r : List (List Int)) : List Int := r.foldl (fun a y => if lexI a y = true then y else a) k
def minK (k : List Int) (r : List (List Int)) : List Int := r.foldl (fun a y => if lexI y a = true then y else a) k
theorem maxD_tI : ∀ (r : List (List Int)) (k : List Int), PySem.W.maxD (pI k) (r.map pI) = pI (maxK k r)
  | [], k => rfl
  | y :: r, k => by
    unfold PySem.W.maxD maxK
    rw [List.map_cons, List.foldl_cons, List.foldl_cons, dataLt_ints]
    have e : (if lexI k y = true then pI y else pI k) = pI (if lexI k y = true then y else k) := by split <;> rfl
    rw [e]
    exact maxD_tI r _
theorem minD_tI : ∀ (r : List (List Int)) (k : List Int), PySem.W.minD (pI k) (r.map pI) = pI (minK k r)
  | [], k => rfl
  | y :: r, k => by
    unfold PySem.W.minD minK
    rw [List.map_cons, List.foldl_cons, List.foldl_cons, dataLt_ints]
    have e : (if lexI y k = true then pI y else pI k) = pI (if lexI y k = true then y else k) := by split <;> rfl
    rw [e]
    exact minD_tI r _
theorem pI_inj {x y : List Int} (h : pI x = pI y) : x = y := by
  unfold pI at h
  injection h with h
  exact List.map_inj_right (fun a b e => by injection e) |>.mp h
theorem alikes (ks : List (List Int)) : PySem.W.AlikeAll (ks.map pI) := ⟨fun x hx y hy => by
  obtain ⟨a, _, rfl⟩ := List.mem_map.mp hx
  obtain ⟨b, _, rfl⟩ := List.mem_map.mp hy
  exact alike_pI a b, fun x hx => by
  obtain ⟨a, _, rfl⟩ := List.mem_map.mp hx
  unfold pI; simp⟩
theorem rc_maxI {k0 : List Int} {r : List (List Int)} : RC K l l (rMaxD K) [.lst ((k0 :: r).map tI)] (tI (maxK k0 r)) := fun X a0 H0 M ad σ H env xs Q E rx k => by
  obtain ⟨x, rfl, a, ys, rfl, h1, h2⟩ := rx.one'
  refine ⟨a, ys, pI k0, r.map pI, rfl, ex_l hid_all h1, DpAM hid_all (dp_tIs h2), alikes (k0 :: r), Nat.le_trans (depth_pIs (k0 :: r)) (by decide), fun d hd => ?_, fun i v hv he => ?_⟩
  · obtain ⟨z, _, rfl⟩ := List.mem_map.mp (show d ∈ (k0 :: r).map pI from hd)
    exact lay_pI z
  · obtain ⟨d, hd1, hd2⟩ := h2.get' hv
    rw [List.getElem?_map] at hd1
    obtain ⟨z, hz, rfl⟩ := Option.map_eq_some_iff.mp hd1
    have he' : ((k0 :: r).map pI)[i]? = some (pI (maxK k0 r)) := by rw [← maxD_tI]; exact he
    rw [List.getElem?_map, hz] at he'
    have := pI_inj (Option.some.inj he')
    exact k v H E (Ex.refl _) (by rw [← this]; exact hd2)
theorem rc_minI {k0 : List Int} {r : List (List Int)} : RC K l l (rMinD K) [.lst ((k0 :: r).map tI)] (tI (minK k0 r)) := fun X a0 H0 M ad σ H env xs Q E rx k => by
  obtain ⟨x, rfl, a, ys, rfl, h1, h2⟩ := rx.one'
  refine ⟨a, ys, pI k0, r.map pI, rfl, ex_l hid_all h1, DpAM hid_all (dp_tIs h2), alikes (k0 :: r), Nat.le_trans (depth_pIs (k0 :: r)) (by decide), fun d hd => ?_, fun i v hv he => ?_⟩
  · obtain ⟨z, _, rfl⟩ := List.mem_map.mp (show d ∈ (k0 :: r).map pI from hd)
    exact lay_pI z
  · obtain ⟨d, hd1, hd2⟩ := h2.get' hv
    rw [List.getElem?_map] at hd1
    obtain ⟨z, hz, rfl⟩ := Option.map_eq_some_iff.mp hd1
    have he' : ((k0 :: r).map pI)[i]? = some (pI (minK k0 r)) := by rw [← minD_tI]; exact he
    rw [List.getElem?_map, hz] at he'
    have := pI_inj (Option.some.inj he')
    exact k v H E (Ex.refl _) (by rw [← this]; exact hd2)
/-- min of one's own list of such -/
theorem ev_minOw {k0 : List Int} {r : List (List Int)} (h : env[i]? = some (.ow (.lst ((k0 :: r).map tI)))) : EvD K l true (tCB (rMinD K) (tCons (tVar i) tNil)) env env (tI (minK k0 r)) := fun X a0 H0 M ad σ H Q E k => by
  obtain ⟨_, h2, ys, h3, h4⟩ := E.ow i _ h
  refine ⟨_, h2, rt ad i, ys, pI k0, r.map pI, rfl, SqL.of h3, DpAM hid_all (dp_tIs h4), alikes (k0 :: r), Nat.le_trans (depth_pIs (k0 :: r)) (by decide), fun d hd => ?_, fun j v hv he => ?_⟩
  · obtain ⟨z, _, rfl⟩ := List.mem_map.mp (show d ∈ (k0 :: r).map pI from hd)
    exact lay_pI z
  · obtain ⟨d, hd1, hd2⟩ := h4.get' hv
    rw [List.getElem?_map] at hd1
    obtain ⟨z, hz, rfl⟩ := Option.map_eq_some_iff.mp hd1
    have he' : ((k0 :: r).map pI)[j]? = some (pI (minK k0 r)) := by rw [← minD_tI]; exact he
    rw [List.getElem?_map, hz] at he'
    have := pI_inj (Option.some.inj he')
    exact k v H E (Ex.refl _) (fun _ => Ex.refl _) (Rp.mono (hid_le mk_le) _ _ (by rw [← this]; exact hd2))

/-! ### sorted -/
def leI (a b : List Int) : Bool := !lexI b a
theorem dataLe_pI (a b : List Int) : PySem.W.dataLe false (fun z : V × PyData => z.2) (V.non, pI a) (V.non, pI b) = leI a b := by
  show (!PyProof.Rows.lexLt PyProof.Rows.itemOrd (PySem.W.keyToks (pI b)) (PySem.W.keyToks (pI a))) = _
  unfold leI
  rw [← dataLt_ints]
  rfl
theorem rp_fst : ∀ (bs : List (V × List Int)), (∀ b ∈ bs, Rp K H (tI b.2) b.1) → RpL K H (bs.map fun b => tI b.2) (bs.map (·.1))
  | [], _ => rfl
  | b :: bs, h => ⟨b.1, bs.map (·.1), rfl, h b List.mem_cons_self, rp_fst bs fun c hc => h c (List.mem_cons_of_mem _ hc)⟩
theorem rp_zip : ∀ {ks : List (List Int)} {xs : List V}, RpL K H (ks.map tI) xs → ∀ b ∈ xs.zip ks, Rp K H (tI b.2) b.1
  | [], _, h, b, hb => by cases h; simp at hb
  | k :: ks, _, ⟨x, r, h1, h2, h3⟩, b, hb => by
    subst h1
    rw [List.zip_cons_cons] at hb
    rcases List.mem_cons.mp hb with rfl | hb
    · exact h2
    · exact rp_zip h3 b hb
theorem ef_sortI {ks : List (List Int)} (h : EvA K .l2 p tsA env env' [.lst (ks.map tI)]) (hn : ks.length ≤ 100000) (h0 : ∀ k ∈ ks, k ≠ []) : EvF K p (tCB (rSortD K) tsA) env env' (.lst ((ks.mergeSort leI).map tI)) := fun X a0 H0 M ad σ H Q E k =>
  h X a0 H0 M ad σ H _ E fun xs H1 E1 e1 p1 r1 => by
    obtain ⟨x, rfl, a, ys, rfl, h1, h2⟩ := r1.one'
    have hl : ys.length = ks.length := by rw [h2.length]; simp
    refine ⟨a, ys, ks.map pI, rfl, ex_l hid_all h1, DpAM hid_all (dp_tIs h2), ?_, .inl fun d hd => ?_, fun d hd => ?_, by simpa using hn, fun c hc => ?_⟩
    · intro x hx y hy
      obtain ⟨a, _, rfl⟩ := List.mem_map.mp hx
      obtain ⟨b, _, rfl⟩ := List.mem_map.mp hy
      exact alike_pI a b
    · obtain ⟨z, hz, rfl⟩ := List.mem_map.mp hd
      have := h0 z hz
      cases z with
      | nil => exact absurd rfl this
      | cons n z => exact ⟨_, _, rfl⟩
    · obtain ⟨z, _, rfl⟩ := List.mem_map.mp hd
      exact Nat.le_trans (depth_pI z) (by decide)
    · refine k c H1 _ hc (stays E E1 e1) E1 (Ex.new hc) e1 p1 ⟨_, upd_same, ?_⟩
      -- the pairs, sorted by what they hold
      have z1 : ys.zip (ks.map pI) = (ys.zip ks).map fun b => (b.1, pI b.2) := by
        rw [List.zip_map_right]
        rfl
      have s1 : ((ys.zip (ks.map pI)).mergeSort (PySem.W.dataLe false (·.2))) = ((ys.zip ks).mergeSort fun b c => leI b.2 c.2).map fun b => (b.1, pI b.2) := by
        rw [z1, List.map_mergeSort]
        intro b _ c _
        exact (dataLe_pI b.2 c.2).symm
      have s2 : ((ys.zip ks).mergeSort fun b c => leI b.2 c.2).map (·.2) = ks.mergeSort leI := by
        rw [List.map_mergeSort (s := leI) (fun b _ c _ => rfl), List.map_snd_zip (by omega)]
      have s3 : ((ys.zip (ks.map pI)).mergeSort (PySem.W.dataLe false (·.2))).map (·.1) = ((ys.zip ks).mergeSort fun b c => leI b.2 c.2).map (·.1) := by
        rw [s1, List.map_map]
        rfl
      have s4 : (ks.mergeSort leI).map tI = ((ys.zip ks).mergeSort fun b c => leI b.2 c.2).map fun b => tI b.2 := by
        rw [← s2, List.map_map]
        rfl
      rw [s3, s4]
      exact rp_fst _ fun b hb => rp_zip h2 b ((List.mergeSort_perm _ _).mem_iff.mp hb)
end
end Pw
/-! PwL: sets of ints sorted, in, dicts, isinstance, None, slices, lists joined. -/
namespace Pw
open PySem L2
/-! ### sorted(set(xs)) -/
def insI (k : Int) : List Int → List Int
  | [] => [k]
  | x :: xs => if k < x then k :: x :: xs else if k = x then x :: xs else x :: insI k xs
def ssetI : List Int → List Int
  | [] => []
  | x :: xs => insI x (ssetI xs)
theorem mem_ins (k j : Int) : ∀ xs : List Int, j ∈ insI k xs ↔ j = k ∨ j ∈ xs
  | [] => by simp [insI]
  | x :: xs => by
    unfold insI
    by_cases h : k < x
    · rw [if_pos h]; simp
    · rw [if_neg h]
      by_cases e : k = x
      · rw [if_pos e]; subst e; simp
      · rw [if_neg e, List.mem_cons, mem_ins k j xs, List.mem_cons]
        constructor
        · rintro (h | h | h)
          · exact .inr (.inl h)
          · exact .inl h
          · exact .inr (.inr h)
        · rintro (h | h | h)
          · exact .inr (.inl h)
          · exact .inl h
          · exact .inr (.inr h)
theorem up_ins (k : Int) : ∀ xs : List Int, xs.Pairwise (· < ·) → (insI k xs).Pairwise (· < ·)
  | [], _ => by simp [insI]
  | x :: xs, h => by
    obtain ⟨h1, h2⟩ := List.pairwise_cons.mp h
    unfold insI
    by_cases g : k < x
    · rw [if_pos g]
      refine List.pairwise_cons.mpr ⟨fun y hy => ?_, h⟩
      rcases List.mem_cons.mp hy with rfl | hy
      · exact g
      · exact Int.lt_trans g (h1 y hy)
    · rw [if_neg g]
      by_cases e : k = x
      · rw [if_pos e]; exact h
      · rw [if_neg e]
        refine List.pairwise_cons.mpr ⟨fun y hy => ?_, up_ins k xs h2⟩
        rcases (mem_ins k y xs).mp hy with rfl | hy
        · omega
        · exact h1 y hy
theorem mem_sset (j : Int) : ∀ xs : List Int, j ∈ ssetI xs ↔ j ∈ xs
  | [] => by simp [ssetI]
  | x :: xs => by rw [ssetI, mem_ins, mem_sset j xs, List.mem_cons]
theorem up_sset : ∀ xs : List Int, (ssetI xs).Pairwise (· < ·)
  | [] => by simp [ssetI]
  | x :: xs => up_ins x _ (up_sset xs)
theorem up_same : ∀ {xs ys : List Int}, xs.Pairwise (· < ·) → ys.Pairwise (· < ·) → (∀ k, k ∈ xs ↔ k ∈ ys) → xs = ys
  | [], [], _, _, _ => rfl
  | [], y :: ys, _, _, h => by have := (h y).mpr List.mem_cons_self; simp at this
  | x :: xs, [], _, _, h => by have := (h x).mp List.mem_cons_self; simp at this
  | x :: xs, y :: ys, hx, hy, h => by
    obtain ⟨x1, x2⟩ := List.pairwise_cons.mp hx
    obtain ⟨y1, y2⟩ := List.pairwise_cons.mp hy
    have e : x = y := by
      rcases List.mem_cons.mp ((h x).mp List.mem_cons_self) with z | z
      · exact z
      · rcases List.mem_cons.mp ((h y).mpr List.mem_cons_self) with w | w
        · exact w.symm
        · have := y1 x z; have := x1 y w; omega
    subst e
    rw [up_same x2 y2 fun k => ?_]
    constructor
    · intro hk
      rcases List.mem_cons.mp ((h k).mp (List.mem_cons_of_mem _ hk)) with z | z
      · have := x1 k hk; omega
      · exact z
    · intro hk
      rcases List.mem_cons.mp ((h k).mpr (List.mem_cons_of_mem _ hk)) with z | z
      · have := y1 k hk; omega
      · exact z
section
variable {K : PySem.W.Frag} {We : WX} {X : Addr → Prop} {a0 : Addr} {H0 : Hp} {M : Msk} {ad : Nat → List Addr} {σ : St} {H H' H1 : Hp} {env env' env'' : List Bd} {l l' : Lv} {p q : Bool} {d d' e : D} {ta tb te ti tx : TE} {t u : TT} {i j : Nat} {b c : Bool} {ts tu : TS} {o : Out} {Dn : Ends} {tsA : TA}
theorem ef_sset {Xc : Cx} {ns : List Int} (h : EvA Xc.K .l2 p tsA env env' [.lst (ns.map .int)]) (hn : ns.length ≤ 60) : EvF Xc.K p (tCB (rSortedSet Xc.w) (tCons (tCB (rSetLI Xc) tsA) tNil)) env env' (.lst ((ssetI ns).map .int)) := fun X a0 H0 M ad σ H Q E k =>
  h X a0 H0 M ad σ H _ E fun xs H1 E1 e1 p1 r1 => by
    obtain ⟨x, rfl, a, ys, rfl, h1, h2⟩ := r1.one'
    have hy := h2.ints
    subst hy
    refine ⟨a, ns, rfl, ex_l hid_all h1, hn, fun c m hm hc => ?_⟩
    refine ⟨c, _, m, rfl, upd_same, by omega, fun ms f hup hmem _ hf => ?_⟩
    have e : ms = ssetI ns := up_same hup (up_sset ns) fun z => by rw [hmem, mem_sset, decide_eq_true_iff]
    subst e
    have g1 : Ex H1 (upd H1 c (SetO Xc.w c (fun j => decide (j ∈ ns)) m)) := Ex.new hc
    refine k f _ _ hf (fun b o hb => ?_) (E1.grow g1) (Ex.new hf) (e1.trans (hid_ex g1)) (fun z => (p1 z).trans g1) ⟨_, upd_same, RpL.ofInts _⟩
    have := stays E E1 e1 b o hb
    cases q : H1 b with
    | none => exact absurd q this
    | some u => rw [g1 b u q]; simp

/-! ### in -/
theorem inV_ints (n : Int) : ∀ ns : List Int, inV (.int n) (ns.map V.int) = decide (n ∈ ns)
  | [] => by simp [inV]
  | k :: ns => by
    have ih := inV_ints n ns
    unfold inV at ih ⊢
    rw [List.map_cons, List.any_cons, ih]
    show (eqV (.int k) (.int n) || _) = _
    have : eqV (.int k) (.int n) = decide (n = k) := by
      unfold eqV
      by_cases h : n = k
      · subst h; simp
      · simp [h, Ne.symm h]
    rw [this]
    by_cases h : n = k <;> simp [h]
theorem flat_ints : ∀ ns : List Int, (ns.map V.int).all flatV = true
  | [] => rfl
  | k :: ns => by rw [List.map_cons, List.all_cons, flat_ints ns]; rfl
theorem rv_inL {n : Int} {ns : List Int} {neg : Bool} : RV K l l' (rIn K neg) (.int n) (.lst (ns.map .int)) (.bl (if neg then !decide (n ∈ ns) else decide (n ∈ ns))) := fun X a0 H0 M ad σ H env x y Q E rx ry k => by
  obtain ⟨a, xs, rfl, h1, h2⟩ := ry
  have hy := h2.ints
  have rx : x = V.int n := rx
  subst hy rx
  exact ⟨a, _, rfl, .inl (ex_l hid_all h1), rfl, flat_ints ns, by rw [inV_ints]; exact k _ H E (Ex.refl _) rfl⟩
theorem rv_inT {n : Int} {ns : List Int} {neg : Bool} : RV K l l' (rIn K neg) (.int n) (.tup (ns.map .int)) (.bl (if neg then !decide (n ∈ ns) else decide (n ∈ ns))) := fun X a0 H0 M ad σ H env x y Q E rx ry k => by
  obtain ⟨a, xs, rfl, h1, h2⟩ := ry
  have hy := h2.ints
  have rx : x = V.int n := rx
  subst hy rx
  exact ⟨a, _, rfl, .inr (ex_s hid_all h1), rfl, flat_ints ns, by rw [inV_ints]; exact k _ H E (Ex.refl _) rfl⟩

/-! ### None, scalars -/
def isN : D → Bool
  | .non => true
  | _ => false
theorem isN_of {v : V} {B : Hp} (h : Rp K B d v) : decide (v = .non) = isN d := by
  cases d with
  | non => have h : v = V.non := h; subst h; rfl
  | bl b => have h : v = V.bl b := h; subst h; rfl
  | int b => have h : v = V.int b := h; subst h; rfl
  | str b => have h : v = V.str b := h; subst h; rfl
  | byt b => have h : v = V.byt b := h; subst h; rfl
  | ob C ns b => obtain ⟨a, dx, xs, rfl, _⟩ := h; rfl
  | lst b => obtain ⟨a, xs, rfl, _⟩ := h; rfl
  | tup b => obtain ⟨a, xs, rfl, _⟩ := h; rfl
  | dk b c => obtain ⟨a, xs, rfl, _⟩ := h; rfl
  | dt b c => obtain ⟨a, xs, rfl, _⟩ := h; rfl
theorem rv_isN : RV K l l' (fun x y H Q => y = .non ∧ Q (.bl (decide (x = .non))) H) d .non (.bl (isN d)) := fun X a0 H0 M ad σ H env x y Q E rx ry k =>
  ⟨ry, by rw [isN_of rx]; exact k _ H E (Ex.refl _) rfl⟩
theorem rv_notN : RV K l l' (fun x y H Q => y = .non ∧ Q (.bl (!decide (x = .non))) H) d .non (.bl (!isN d)) := fun X a0 H0 M ad σ H env x y Q E rx ry k =>
  ⟨ry, by rw [isN_of rx]; exact k _ H E (Ex.refl _) rfl⟩
theorem rv_eqI {m n : Int} : RV K l l' rEq (.int m) (.int n) (.bl (decide (m = n))) := fun X a0 H0 M ad σ H env x y Q E rx ry k => by
  have rx : x = V.int m := rx
  have ry : y = V.int n := ry
  subst rx ry
  exact ⟨rfl, k _ H E (Ex.refl _) (by show V.bl _ = V.bl _; rw [decide_eq_decide.mpr]; exact ⟨fun h => by injection h, fun h => by rw [h]⟩)⟩
theorem rv_neI {m n : Int} : RV K l l' rNe (.int m) (.int n) (.bl (!decide (m = n))) := fun X a0 H0 M ad σ H env x y Q E rx ry k => by
  have rx : x = V.int m := rx
  have ry : y = V.int n := ry
  subst rx ry
  exact ⟨rfl, k _ H E (Ex.refl _) (by show V.bl (!_) = V.bl (!_); rw [decide_eq_decide.mpr]; exact ⟨fun h => by injection h, fun h => by rw [h]⟩)⟩

/-! ### isinstance -/
def tyN : D → String
  | .non => "NoneType"
  | .bl _ => "bool"
  | .int _ => "int"
  | .str _ => "str"
  | .lst _ => "list"
  | .tup _ => "tuple"
  | .dk _ _ => "dict"
  | .dt _ _ => "dict"
  | .byt _ => "bytes"
  | .ob _ _ _ => "object"
theorem rp_ty {v : V} (hd : ∀ ks ds, d ≠ .dt ks ds) (ho : ∀ C ns ds, d ≠ .ob C ns ds) (h : Rp K H d v) : TyX K H v (.type (tyN d)) := by
  cases d with
  | non => have h : v = V.non := h; subst h; exact .base .non
  | bl b => have h : v = V.bl b := h; subst h; exact .base (.bl _)
  | int b => have h : v = V.int b := h; subst h; exact .base (.int _)
  | str b => have h : v = V.str b := h; subst h; exact .base (.str _)
  | byt b => have h : v = V.byt b := h; subst h; exact .byt _
  | ob C ns b => exact absurd rfl (ho C ns b)
  | lst b =>
    obtain ⟨a, xs, rfl, h1, _⟩ := h
    rcases h1 with (h1 | ⟨o, h1⟩) | ⟨o, _, _, h1, h2, _⟩
    · exact .base (.lst h1)
    · exact .base (.frz h1)
    · exact .kList h1 h2
  | tup b =>
    obtain ⟨a, xs, rfl, h1, _⟩ := h
    exact .base (.tup h1)
  | dk b c =>
    obtain ⟨a, xs, rfl, h1, _⟩ := h
    rcases h1 with h1 | ⟨o, h1⟩
    · exact .base (.dK h1)
    · exact .fDict h1
  | dt b c => exact absurd rfl (hd b c)
theorem ev_isi {n : String} (h : EvD K l p ta env env' d) (hk : kitB (tyN d) n = some b) (hd : ∀ ks ds, d ≠ .dt ks ds := by intros; exact fun h => by cases h) (ho : ∀ C ns ds, d ≠ .ob C ns ds := by intros; exact fun h => by cases h) : EvD K l' p (tCB (rIsi K) (tCons ta (tCons (tC (.ty n)) tNil))) env env' (.bl b) := fun X a0 H0 M ad σ H Q E k =>
  h X a0 H0 M ad σ H _ E fun x H1 E1 e1 p1 r1 => ⟨x, .ty n, _, _, b, rfl, .ty n, rp_ty hd ho (Rp.mono hid_all _ _ r1), kit_ty hk, k _ H1 E1 e1 p1 rfl⟩

/-! ### slices of tuples and lists from the front -/
theorem sIx_front {n m : Nat} (h : m ≤ n) : HT.sIx n n (some (m : Int)) = m := by
  rw [HT.sIx_nat]; omega
theorem ev_slT {ds : List D} {m : Nat} (h : EvD K l p te env env' (.tup ds)) (h2 : EvD K l true ti env' env' (.int (m : Int))) (hm : m < ds.length) : EvD K l p (tSl (rSlT K) te tNoPart (tPart ti)) env env' (.tup (ds.take m)) := fun X a0 H0 M ad σ H Q E k =>
  h X a0 H0 M ad σ H _ E fun x H1 E1 e1 p1 r1 => h2 X a0 H0 M ad σ H1 _ E1 fun y H2 E2 e2 p2 r2 => by
    obtain ⟨a, xs, rfl, h3, h4⟩ := r1
    have hl : xs.length = ds.length := h4.length
    have ec : cutV xs none (some (m : Int)) = xs.take m := by
      unfold cutV
      rw [HT.sIx_none, sIx_front (by omega), List.drop_zero, Nat.sub_zero]
    refine ⟨_, r2, a, xs, rfl, ex_s (hid_all.trans (p2 rfl)) h3, fun z => ?_, fun c hc => ?_⟩
    · have := z.2
      rw [sIx_front (by omega)] at this
      omega
    · rw [ec]
      have g : Ex H2 (upd H2 c (.tup (xs.take m))) := Ex.new hc
      refine k _ _ (E2.grow g) ((e1.trans e2).trans (hid_ex g)) (fun z => ((p1 z).trans (p2 rfl)).trans g) ⟨c, _, rfl, ?_, RpL.mono ((hid_ex (p2 rfl)).trans (hid_ex g)) _ _ (h4.take m)⟩
      rw [hid_out (fresh_mk E2 hc), upd_same]
end

/-! ### lists joined -/
open AutoSeq1 (wpAny_loadPart') in
theorem list_add_any (l : Addr) (xs : Array Value) (n : Nat) (sl : Array (Option Value)) (b : Addr) (ys : Array Value) (n2 : Nat) (sl2 : Array (Option Value)) (hz : xs.size + ys.size ≤ sizeLine) :
    Meets (Builtin.«list.__add__» ⟨[.ref l, .ref b], []⟩) (fun _ R s => s.heap.get? l = some { cls := .type "list", dict := none, data := .seq xs n, slots := sl } ∧ s.heap.get? b = some { cls := .type "list", dict := none, data := .seq ys n2, slots := sl2 } ∧
      R (.ok (.ret (Value.ref s.heap.objs.size))) { s with heap := s.heap.push { cls := .type "list", data := .seq (xs ++ ys) } }) :=
  .of_wp fun prog w A R s h => by
    obtain ⟨hp, g, d, tk, os⟩ := s
    obtain ⟨hl, hb, h⟩ := h
    have f1 := AutoSeq1.idx_int
    have f2 := AutoSeq1.sub_list_list
    wp_walk using wpAny_loadPart' hl, wpAny_loadPart' hb
    exact ⟨_, rfl, h⟩
def rCatL (K : PySem.W.Frag) : R2 := fun x y H Q => ∃ l b xs zs, x = .ref l ∧ y = .ref b ∧ SqL K H l xs ∧ SqL K H b zs ∧ xs.length + zs.length ≤ sizeLine ∧ ∀ p, H p = none → Q (.ref p) (upd H p (.lst (xs ++ zs)))
theorem op_catL {X : Cx} : OpR X (binaryOp .Add) (rCatL X.K) := by
  intro pins s σ H x y v u Q I rx ry h
  obtain ⟨l, b, xs, zs, rfl, rfl, hH, hB, hz, q⟩ := h
  cases rx
  cases ry
  obtain ⟨its, r, ⟨⟨c1, e1, f1, g1⟩, n, ho, hc, hd, hx⟩, hs⟩ := I.list hH
  obtain ⟨its2, r2, ⟨⟨c2, e2, f2, g2⟩, n2, ho2, hc2, hd2, hx2⟩, hs2⟩ := I.list hB
  simp only at hc hd hx hc2 hd2 hx2
  subst hc hd hx hc2 hd2 hx2
  have hsz : its.toArray.size + its2.toArray.size ≤ sizeLine := by rw [List.size_toArray, List.size_toArray, ← r.length, ← r2.length]; exact hz
  refine concat_meets ⟨_, ho, rfl⟩ ⟨_, ho2, rfl⟩ noFill_list_add seq_list_add PySem.F.slot_list_add PySem.F.entry_list_add (PySem.F.args_list_add_2 _ _) (list_add_any l its.toArray n g1 b its2.toArray n2 g2 hsz) ⟨ho, ho2, ?_⟩
  have ea : its.toArray ++ its2.toArray = (its ++ its2).toArray := by simp
  rw [ea]
  exact ⟨.ref _, _, I.lnew (t' := s.toks) (r.append r2) (by rw [List.length_append]; omega), rfl, q _ I.fresh⟩
section
variable {K : PySem.W.Frag} {We : WX} {X : Addr → Prop} {a0 : Addr} {H0 : Hp} {M : Msk} {ad : Nat → List Addr} {σ : St} {H H' H1 : Hp} {env env' env'' : List Bd} {l l' : Lv} {p q : Bool} {d d' e : D} {ta tb te ti tx : TE} {t u : TT} {i j : Nat} {b c : Bool} {ts tu : TS} {o : Out} {Dn : Ends} {tsA : TA}
theorem ef_catL {ds es : List D} (h1 : EvD K .l2 p ta env env' (.lst ds)) (h2 : EvD K .l2 q tb env' env'' (.lst es)) (hn : ds.length + es.length ≤ 100000) : EvF K (p && q) (tOp (rCatL K) ta tb) env env'' (.lst (ds ++ es)) := fun X a0 H0 M ad σ H Q E k =>
  h1 X a0 H0 M ad σ H _ E fun x H1 E1 e1 p1 r1 => h2 X a0 H0 M ad σ H1 _ E1 fun y H2 E2 e2 p2 r2 => by
    obtain ⟨a, xs, rfl, g1, g2⟩ := r1
    obtain ⟨b, ys, rfl, g3, g4⟩ := r2
    have up : Ex (hid (mk .l2 M X) H1) (hid (mk .l2 M X) H2) := keepL (q := q) (by rfl) e2 p2
    have l1 := g2.length
    have l2 := g4.length
    refine ⟨a, b, xs, ys, rfl, rfl, ex_l (up.trans hid_all) g1, ex_l hid_all g3, by rw [l1, l2]; exact Nat.le_trans hn (by decide), fun c hc => ?_⟩
    exact k c H2 _ hc (stays E E2 (e1.trans e2)) E2 (Ex.new hc) (e1.trans e2) (seqP p1 p2) ⟨_, upd_same, RpL.append (RpL.mono up _ _ g2) g4⟩

/-! ### dicts -/
section
variable {κ α β : Type} [DecidableEq κ]
def getA (l : List (κ × α)) (k : κ) : Option α := (l.find? fun kv => decide (kv.1 = k)).map (·.2)
def putA (l : List (κ × α)) (k : κ) (v : α) : List (κ × α) :=
  if (l.any fun kv => decide (kv.1 = k)) = true then l.map (fun kv => if kv.1 = k then (kv.1, v) else kv) else l ++ [(k, v)]
end
def dkL (l : List (Key × D)) : D := .dk (l.map (·.1)) (l.map (·.2))
def dtL (l : List (List Key × D)) : D := .dt (l.map (·.1)) (l.map (·.2))
/-- the pairs at V and at D, side by side -/
def RpK {κ : Type} (K : PySem.W.Frag) (H : Hp) : List (κ × V) → List (κ × D) → Prop
  | [], [] => True
  | a :: as, b :: bs => a.1 = b.1 ∧ Rp K H b.2 a.2 ∧ RpK K H as bs
  | _, _ => False
theorem rpk_of {κ : Type} : ∀ {l : List (κ × D)} {xs : List V}, RpL K H (l.map (·.2)) xs → RpK K H ((l.map (·.1)).zip xs) l
  | [], _, h => by cases h; trivial
  | b :: bs, _, ⟨x, r, h1, h2, h3⟩ => by subst h1; exact ⟨rfl, h2, rpk_of h3⟩
theorem of_rpk {κ : Type} : ∀ {kvs : List (κ × V)} {l : List (κ × D)}, RpK K H kvs l → ∃ xs, kvs = (l.map (·.1)).zip xs ∧ RpL K H (l.map (·.2)) xs
  | [], [], _ => ⟨[], rfl, rfl⟩
  | a :: as, b :: bs, ⟨h1, h2, h3⟩ => by
    obtain ⟨xs, e, r⟩ := of_rpk h3
    exact ⟨a.2 :: xs, by rw [List.map_cons, List.zip_cons_cons, ← e, ← h1], a.2, xs, rfl, h2, r⟩
  | [], _ :: _, h => h.elim
  | _ :: _, [], h => h.elim
theorem rpk_len {κ : Type} : ∀ {kvs : List (κ × V)} {l : List (κ × D)}, RpK K H kvs l → kvs.length = l.length
  | [], [], _ => rfl
  | _ :: _, _ :: _, ⟨_, _, h⟩ => by simp [rpk_len h]
  | [], _ :: _, h => h.elim
  | _ :: _, [], h => h.elim
theorem rpk_get {κ : Type} [DecidableEq κ] {k : κ} : ∀ {kvs : List (κ × V)} {l : List (κ × D)}, RpK K H kvs l → (∀ d, getA l k = some d → ∃ v, valV kvs k = some v ∧ Rp K H d v) ∧ (getA l k = none → valV kvs k = none)
  | [], [], _ => ⟨fun d h => by simp [getA] at h, fun _ => rfl⟩
  | a :: as, b :: bs, ⟨h1, h2, h3⟩ => by
    have ih := rpk_get (k := k) h3
    unfold getA valV at ih ⊢
    rw [List.find?_cons, List.find?_cons, h1]
    by_cases e : b.1 = k
    · rw [decide_eq_true e]
      exact ⟨fun d hd => ⟨a.2, rfl, by have : b.2 = d := Option.some.inj hd; rw [← this]; exact h2⟩, fun h => by cases h⟩
    · rw [decide_eq_false e]
      exact ih
  | [], _ :: _, h => h.elim
  | _ :: _, [], h => h.elim
theorem rpk_any {κ : Type} [DecidableEq κ] {k : κ} : ∀ {kvs : List (κ × V)} {l : List (κ × D)}, RpK K H kvs l → (kvs.any fun kv => decide (kv.1 = k)) = (l.any fun kv => decide (kv.1 = k))
  | [], [], _ => rfl
  | a :: as, b :: bs, ⟨h1, _, h3⟩ => by rw [List.any_cons, List.any_cons, rpk_any h3, h1]
  | [], _ :: _, h => h.elim
  | _ :: _, [], h => h.elim
theorem rpk_map {κ : Type} [DecidableEq κ] {k : κ} {v : V} (hv : Rp K H d v) : ∀ {kvs : List (κ × V)} {l : List (κ × D)}, RpK K H kvs l → RpK K H (kvs.map fun kv => if kv.1 = k then (kv.1, v) else kv) (l.map fun kv => if kv.1 = k then (kv.1, d) else kv)
  | [], [], _ => trivial
  | a :: as, b :: bs, ⟨h1, h2, h3⟩ => by
    obtain ⟨k1, v1⟩ := a
    obtain ⟨k2, v2⟩ := b
    have h1 : k1 = k2 := h1
    subst h1
    show (if k1 = k then (k1, v) else (k1, v1)).1 = (if k1 = k then (k1, d) else (k1, v2)).1 ∧ Rp K H (if k1 = k then (k1, d) else (k1, v2)).2 (if k1 = k then (k1, v) else (k1, v1)).2 ∧ _
    by_cases e : k1 = k
    · rw [if_pos e, if_pos e]; exact ⟨rfl, hv, rpk_map hv h3⟩
    · rw [if_neg e, if_neg e]; exact ⟨rfl, h2, rpk_map hv h3⟩
  | [], _ :: _, h => h.elim
  | _ :: _, [], h => h.elim
theorem rpk_app {κ : Type} {a : κ × V} {b : κ × D} (e : a.1 = b.1) (hv : Rp K H b.2 a.2) : ∀ {kvs : List (κ × V)} {l : List (κ × D)}, RpK K H kvs l → RpK K H (kvs ++ [a]) (l ++ [b])
  | [], [], _ => ⟨e, hv, trivial⟩
  | _ :: _, _ :: _, ⟨h1, h2, h3⟩ => ⟨h1, h2, rpk_app e hv h3⟩
  | [], _ :: _, h => h.elim
  | _ :: _, [], h => h.elim
theorem rpk_put {κ : Type} [DecidableEq κ] {k : κ} {v : V} {kvs : List (κ × V)} {l : List (κ × D)} (hv : Rp K H d v) (h : RpK K H kvs l) : RpK K H (putK kvs k v) (putA l k d) := by
  unfold putK putA
  rw [rpk_any h]
  by_cases e : (l.any fun kv => decide (kv.1 = k)) = true
  · rw [if_pos e, if_pos e]; exact rpk_map hv h
  · rw [if_neg e, if_neg e]; exact rpk_app (a := (k, v)) (b := (k, d)) rfl hv h
theorem putA_len {κ α : Type} [DecidableEq κ] {l : List (κ × α)} {k : κ} {v : α} : (putA l k v).length ≤ l.length + 1 := by
  unfold putA
  split <;> simp
/-- d[n] of a dict by numbers; d[a, b] by pairs made on the spot -/
theorem ev_dgetK {l1 : List (Key × D)} {n : Int} (h : EvD K l p ta env env' (dkL l1)) (hi : EvD K l true ti env' env' (.int n)) (hg : getA l1 (.inl n) = some d) : EvD K l p (tDGet ta ti) env env' d := fun X a0 H0 M ad σ H Q E k =>
  h X a0 H0 M ad σ H _ E fun x H1 E1 e1 p1 r1 => hi X a0 H0 M ad σ H1 _ E1 fun y H2 E2 e2 p2 r2 => by
    obtain ⟨a, xs, rfl, g1, _, g2⟩ := r1
    obtain ⟨v, q1, q2⟩ := (rpk_get (rpk_of g2)).1 d hg
    have r2 : y = V.int n := r2
    subst r2
    exact ⟨a, v, rfl, .inl ⟨_, .inl n, ex_rd (hid_all.trans (p2 rfl)) g1, rfl, q1.symm⟩, k v H2 E2 (e1.trans e2) (fun z => (p1 z).trans (p2 rfl)) (Rp.mono (hid_ex (p2 rfl)) _ _ q2)⟩
theorem rpl_keys : ∀ {ks : List Key} {vs : List V}, RpL K H (ks.map fun k => match k with | .inl n => D.int n | .inr s => D.str s) vs → vs = ks.map kV
  | [], _, h => h
  | .inl n :: ks, _, ⟨x, r, h1, h2, h3⟩ => by
    have h2 : x = V.int n := h2
    rw [h1, h2, rpl_keys h3]; rfl
  | .inr n :: ks, _, ⟨x, r, h1, h2, h3⟩ => by
    have h2 : x = V.str n := h2
    rw [h1, h2, rpl_keys h3]; rfl
theorem ev_dgetT {l1 : List (List Key × D)} {ns : List Int} (h : EvD K l p ta env env' (dtL l1)) (hi : EvA K .l2 true tsA env' env' (ns.map .int)) (hn : ns.length ≤ 1000) (hg : getA l1 (ns.map Sum.inl) = some d) : EvD K l p (tDGet ta (tTup tsA)) env env' d := fun X a0 H0 M ad σ H Q E k =>
  h X a0 H0 M ad σ H _ E fun x H1 E1 e1 p1 r1 => hi X a0 H0 M ad σ H1 _ E1 fun ys H2 E2 e2 p2 r2 => by
    obtain ⟨a, xs, rfl, g1, _, g2⟩ := r1
    obtain ⟨v, q1, q2⟩ := (rpk_get (rpk_of g2)).1 d hg
    have hy := r2.ints
    subst hy
    refine ⟨by rw [List.length_map]; exact Nat.le_trans hn (by decide), fun c hc => ?_⟩
    have g : Ex H2 (upd H2 c (.tup (ns.map V.int))) := Ex.new hc
    refine ⟨a, v, rfl, .inr ⟨_, ns.map Sum.inl, c, ex_rd ((hid_all.trans (p2 rfl)).trans g) g1, rfl, ?_, q1.symm⟩, k v _ (E2.grow g) ((e1.trans e2).trans (hid_ex g)) (fun z => ((p1 z).trans (p2 rfl)).trans g) (Rp.mono ((hid_ex (p2 rfl)).trans (hid_ex g)) _ _ q2)⟩
    rw [upd_same, List.map_map]
    rfl
/-- d.get(n, x), d.get((a, b), x) of one's own dict -/
theorem ev_dget2K {l1 : List (Key × D)} {n : Int} (h : env[i]? = some (.ow (dkL l1))) (hi : EvD K .l2 true ti env env (.int n)) (hx : EvD K .l2 true tx env env e) : EvD K l true (tDGet2 (tVar i) ti tx) env env ((getA l1 (.inl n)).getD e) := fun X a0 H0 M ad σ H Q E k => by
  obtain ⟨_, h2, ys, h3, h0, h4⟩ := E.ow i _ h
  refine ⟨_, h2, rt ad i, rfl, .inl ⟨_, .inl h3⟩, hi X a0 H0 M ad σ H _ E fun y H1 E1 e1 p1 r1 => hx X a0 H0 M ad σ H1 _ E1 fun z H2 E2 e2 p2 r2 => ?_⟩
  have r1 : y = V.int n := r1
  subst r1
  obtain ⟨_, _, ys2, h5, _, h6⟩ := E2.ow i _ h
  have gg := rpk_get (k := (.inl n : Key)) (rpk_of h6)
  cases hg : getA l1 (.inl n) with
  | none => exact ⟨none, .inl ⟨_, .inl n, .inl h5, rfl, (gg.2 hg).symm⟩, k z H2 E2 (e1.trans e2) (fun _ => (p1 rfl).trans (p2 rfl)) (by rw [hg]; exact Rp.mono (hid_le mk_le) _ _ r2)⟩
  | some d =>
    obtain ⟨v, q1, q2⟩ := gg.1 d hg
    exact ⟨some v, .inl ⟨_, .inl n, .inl h5, rfl, q1.symm⟩, k v H2 E2 (e1.trans e2) (fun _ => (p1 rfl).trans (p2 rfl)) (by rw [hg]; exact Rp.mono (hid_le mk_le) _ _ q2)⟩
theorem ev_dget2T {l1 : List (List Key × D)} {ns : List Int} (h : env[i]? = some (.ow (dtL l1))) (hi : EvA K .l2 true tsA env env (ns.map .int)) (hn : ns.length ≤ 1000) (hx : EvD K .l2 true tx env env e) : EvD K l true (tDGet2 (tVar i) (tTup tsA) tx) env env ((getA l1 (ns.map Sum.inl)).getD e) := fun X a0 H0 M ad σ H Q E k => by
  obtain ⟨_, h2, ys, h3, h0, h4⟩ := E.ow i _ h
  refine ⟨_, h2, rt ad i, rfl, .inr ⟨_, .inl h3⟩, hi X a0 H0 M ad σ H _ E fun ys H1 E1 e1 p1 r1 => ?_⟩
  have hy := r1.ints
  subst hy
  refine ⟨by rw [List.length_map]; exact Nat.le_trans hn (by decide), fun c hc => ?_⟩
  have g : Ex H1 (upd H1 c (.tup (ns.map V.int))) := Ex.new hc
  refine hx X a0 H0 M ad σ _ _ (E1.grow g) fun z H2 E2 e2 p2 r2 => ?_
  have hck : H2 c = some (.tup ((ns.map Sum.inl).map kV)) := by
    rw [p2 rfl c _ upd_same, List.map_map]
    rfl
  obtain ⟨_, _, ys2, h5, _, h6⟩ := E2.ow i _ h
  have gg := rpk_get (k := (ns.map Sum.inl : List Key)) (rpk_of h6)
  have w1 : Ex (hid M.n H) (hid M.n H2) := (e1.trans (hid_ex g)).trans e2
  have w2 : Ex H H2 := ((p1 rfl).trans g).trans (p2 rfl)
  cases hg : getA l1 (ns.map Sum.inl) with
  | none => exact ⟨none, .inr ⟨_, _, c, .inl h5, rfl, hck, (gg.2 hg).symm⟩, k z H2 E2 w1 (fun _ => w2) (by rw [hg]; exact Rp.mono (hid_le mk_le) _ _ r2)⟩
  | some d =>
    obtain ⟨v, q1, q2⟩ := gg.1 d hg
    exact ⟨some v, .inr ⟨_, _, c, .inl h5, rfl, hck, q1.symm⟩, k v H2 E2 w1 (fun _ => w2) (by rw [hg]; exact Rp.mono (hid_le mk_le) _ _ q2)⟩
/-- d[n] = e, d[a, b] = e of one's own dict -/
theorem sd_dputK {l1 : List (Key × D)} {n : Int} (h : env'[i]? = some (.ow (dkL l1))) (he : EvD K .l2 p te env env' d) (hi : EvD K .l2 true ti env' env' (.int n)) (hn : l1.length < 100000) : SD K We (sDPut (tVar i) ti te) env (.nx (env'.set i (.ow (dkL (putA l1 (.inl n) d))))) := fun X a0 H0 M ad σ H Dn E k =>
  he X a0 H0 M ad σ H _ E fun v H1 E1 _ _ r => by
    obtain ⟨_, h2, _⟩ := E1.ow i _ h
    refine ⟨_, h2, hi X a0 H0 M ad σ H1 _ E1 fun y H2 E2 e2 p2 r2 => ?_⟩
    have r2 : y = V.int n := r2
    subst r2
    obtain ⟨_, _, xs, h4, h0, h5⟩ := E2.ow i _ h
    have hp := rpk_of h5
    have hz : (((l1.map (·.1)).zip xs : List (Key × V))).length < sizeLine := by rw [rpk_len hp]; exact Nat.lt_of_lt_of_le hn (by decide)
    obtain ⟨zs, z1, z2⟩ := of_rpk (rpk_put (k := (.inl n : Key)) (Rp.mono (hid_ex (p2 rfl)) _ _ r) hp)
    refine ⟨rt ad i, _, rfl, DPut.k (k := .inl n) h4 hz, k M ad σ _ (E2.cellOw h ⟨zs, ?_, by simp, z2⟩)⟩
    rw [upd_same, z1]
theorem sd_dputT {l1 : List (List Key × D)} {ns : List Int} (h : env'[i]? = some (.ow (dtL l1))) (he : EvD K .l2 p te env env' d) (hi : EvA K .l2 true tsA env' env' (ns.map .int)) (hns : ns.length ≤ 1000) (hn : l1.length < 100000) : SD K We (sDPut (tVar i) (tTup tsA) te) env (.nx (env'.set i (.ow (dtL (putA l1 (ns.map Sum.inl) d))))) := fun X a0 H0 M ad σ H Dn E k =>
  he X a0 H0 M ad σ H _ E fun v H1 E1 _ _ r => by
    obtain ⟨_, h2, _⟩ := E1.ow i _ h
    refine ⟨_, h2, hi X a0 H0 M ad σ H1 _ E1 fun ys H2 E2 e2 p2 r2 => ?_⟩
    have hy := r2.ints
    subst hy
    refine ⟨by rw [List.length_map]; exact Nat.le_trans hns (by decide), fun c hc => ?_⟩
    have g : Ex H2 (upd H2 c (.tup (ns.map V.int))) := Ex.new hc
    have E3 := E2.grow g
    obtain ⟨_, _, xs, h4, h0, h5⟩ := E3.ow i _ h
    have hp := rpk_of h5
    have hz : (((l1.map (·.1)).zip xs : List (List Key × V))).length < sizeLine := by rw [rpk_len hp]; exact Nat.lt_of_lt_of_le hn (by decide)
    obtain ⟨zs, z1, z2⟩ := of_rpk (rpk_put (k := (ns.map Sum.inl : List Key)) (Rp.mono (hid_ex ((p2 rfl).trans g)) _ _ r) hp)
    refine ⟨rt ad i, _, rfl, DPut.t (k := ns.map Sum.inl) h4 (by rw [upd_same, List.map_map]; rfl) hz, k M ad σ _ (E3.cellOw h ⟨zs, ?_, by simp, z2⟩)⟩
    rw [upd_same, z1]
end
end Pw
/-! PwM: what the printed readings use: folds that may fail, comprehensions, ranges, typed lists. -/
namespace Pw
open PySem L2
theorem ifT {α : Type} {b : Bool} {x y z : α} (hb : b = true) (h : (if b = true then x else y) = z) : x = z := by rw [if_pos hb] at h; exact h
theorem ifF {α : Type} {b : Bool} {x y z : α} (hb : b = false) (h : (if b = true then x else y) = z) : y = z := by rw [hb, if_neg Bool.false_ne_true] at h; exact h
/-- a fold that may be left with an answer -/
def foldR {α S R : Type} (f : S → α → Option (S ⊕ R)) : List α → S → Option (S ⊕ R)
  | [], s => some (.inl s)
  | x :: xs, s => (f s x).bind fun r => match r with
    | .inl s1 => foldR f xs s1
    | .inr r => some (.inr r)
/-- turns until one says that it is the end -/
def whileO {S : Type} (f : S → Option (S ⊕ S)) : Nat → S → Option S
  | 0, _ => none
  | n + 1, s => (f s).bind fun r => match r with
    | .inl s1 => whileO f n s1
    | .inr s1 => some s1
def compL {α β : Type} (f : α → Option (Option β)) : List α → Option (List β)
  | [] => some []
  | x :: xs => (f x).bind fun r => (compL f xs).bind fun ys => some (r.toList ++ ys)
def compO {α β : Type} (f : α → Option (Option β)) (xs : List α) : Option (List β) := if xs.length ≤ 100000 then compL f xs else none
/-- a comprehension whose parts change a state -/
def compSL {α β S : Type} (f : S → α → Option (Option β × S)) : List α → S → Option (List β × S)
  | [], s => some ([], s)
  | x :: xs, s => (f s x).bind fun r => (compSL f xs r.2).bind fun ys => some (r.1.toList ++ ys.1, ys.2)
def compS {α β S : Type} (f : S → α → Option (Option β × S)) (xs : List α) (s : S) : Option (List β × S) := if xs.length ≤ 100000 then compSL f xs s else none
def inR (n : Int) : Bool := decide (-(2 ^ 62) ≤ n) && decide (n < 2 ^ 62)
def rngO (lo hi : Int) : Option (List Int) := if (inR lo && inR hi) = true then some (rng lo (hi - lo).toNat) else none
def enumT {α : Type} (xs : List α) : List (Int × α) := xs.mapIdx fun i x => ((i : Int), x)
def encO {α : Type} (f : α → D) : Option α → D
  | none => .non
  | some a => f a
def okL (n : Nat) : Option Unit := if n < 100000 then some () else none
def mulO (i j : Int) : Option Int := if i.natAbs < 2 ^ 499 ∧ j.natAbs < 2 ^ 499 then some (i * j) else none
def divO (i j : Int) : Option Int := if 0 < j ∧ j < 2 ^ 62 then some (i / j) else none
def modO (i j : Int) : Option Int := if 0 < j then some (i % j) else none
theorem okL_of {n : Nat} {u : Unit} (h : okL n = some u) : n < 100000 := by
  unfold okL at h
  by_cases g : n < 100000
  · exact g
  · rw [if_neg g] at h; cases h
theorem mulO_of {i j k : Int} (h : mulO i j = some k) : CMulW i j ∧ k = i * j := by
  unfold mulO at h
  by_cases g : i.natAbs < 2 ^ 499 ∧ j.natAbs < 2 ^ 499
  · rw [if_pos g] at h; exact ⟨wide_mul g.1 g.2 (by decide) (by decide) (by decide), (Option.some.inj h).symm⟩
  · rw [if_neg g] at h; cases h
theorem divO_of {i j k : Int} (h : divO i j = some k) : CDivW i j ∧ k = i / j := by
  unfold divO at h
  by_cases g : 0 < j ∧ j < 2 ^ 62
  · rw [if_pos g] at h; exact ⟨wide_div (b := 62) g.1 (by omega) (by decide) (by decide), (Option.some.inj h).symm⟩
  · rw [if_neg g] at h; cases h
theorem modO_of {i j k : Int} (h : modO i j = some k) : 0 < j ∧ k = i % j := by
  unfold modO at h
  by_cases g : 0 < j
  · rw [if_pos g] at h; exact ⟨g, (Option.some.inj h).symm⟩
  · rw [if_neg g] at h; cases h
theorem rngO_of {lo hi : Int} {xs : List Int} (h : rngO lo hi = some xs) : (-(2 ^ 62) ≤ lo ∧ lo < 2 ^ 62) ∧ (-(2 ^ 62) ≤ hi ∧ hi < 2 ^ 62) ∧ xs = rng lo (hi - lo).toNat := by
  unfold rngO at h
  by_cases g : (inR lo && inR hi) = true
  · rw [if_pos g] at h
    unfold inR at g
    simp only [Bool.and_eq_true, decide_eq_true_eq] at g
    exact ⟨g.1, g.2, (Option.some.inj h).symm⟩
  · rw [if_neg g] at h; cases h
theorem atI_map {α β : Type} (f : α → β) (xs : List α) (i : Int) : atI (xs.map f) i = (atI xs i).map f := by
  unfold atI
  rw [List.length_map]
  cases ixN xs.length i with
  | none => rfl
  | some j => simp
theorem getA_map {κ κ' α β : Type} [DecidableEq κ] [DecidableEq κ'] (f : κ → κ') (g : α → β) (hf : ∀ a b, f a = f b → a = b) (k : κ) : ∀ l : List (κ × α), getA (l.map fun z => (f z.1, g z.2)) (f k) = (getA l k).map g
  | [] => rfl
  | a :: l => by
    have ih := getA_map f g hf k l
    unfold getA at ih ⊢
    rw [List.map_cons, List.find?_cons, List.find?_cons]
    by_cases e : a.1 = k
    · rw [decide_eq_true (show f a.1 = f k by rw [e]), decide_eq_true e]
      rfl
    · rw [decide_eq_false (fun z => e (hf _ _ z)), decide_eq_false e]
      exact ih
theorem putA_map {κ κ' α β : Type} [DecidableEq κ] [DecidableEq κ'] (f : κ → κ') (g : α → β) (hf : ∀ a b, f a = f b → a = b) (k : κ) (v : α) (l : List (κ × α)) : putA (l.map fun z => (f z.1, g z.2)) (f k) (g v) = (putA l k v).map fun z => (f z.1, g z.2) := by
  have e1 : ∀ z : κ × α, decide (f z.1 = f k) = decide (z.1 = k) := fun z => by
    by_cases e : z.1 = k
    · rw [e]; simp
    · rw [decide_eq_false e, decide_eq_false fun y => e (hf _ _ y)]
  have e2 : ((l.map fun z => (f z.1, g z.2)).any fun kv => decide (kv.1 = f k)) = l.any fun kv => decide (kv.1 = k) := by
    rw [List.any_map]
    congr 1
    funext z
    exact e1 z
  unfold putA
  rw [e2]
  by_cases h : (l.any fun kv => decide (kv.1 = k)) = true
  · rw [if_pos h, if_pos h, List.map_map, List.map_map]
    apply List.map_congr_left
    intro z _
    show (if f z.1 = f k then (f z.1, g v) else (f z.1, g z.2)) = _
    by_cases e : z.1 = k
    · rw [if_pos (by rw [e])]
      show _ = (f (if z.1 = k then (z.1, v) else z).1, g (if z.1 = k then (z.1, v) else z).2)
      rw [if_pos e]
    · rw [if_neg fun y => e (hf _ _ y)]
      show _ = (f (if z.1 = k then (z.1, v) else z).1, g (if z.1 = k then (z.1, v) else z).2)
      rw [if_neg e]
  · rw [if_neg h, if_neg h, List.map_append]
    rfl
theorem inl_inj : ∀ a b : Int, (Sum.inl a : Key) = Sum.inl b → a = b := fun a b h => by injection h
theorem inls_inj : ∀ a b : List Int, (a.map Sum.inl : List Key) = b.map Sum.inl → a = b := fun a b h => List.map_inj_right (fun x y e => by injection e) |>.mp h
/-- the least, the greatest, by lists of numbers -/
def maxT {α : Type} (key : α → List Int) (x : α) (r : List α) : α := r.foldl (fun a y => if lexI (key a) (key y) = true then y else a) x
def minT {α : Type} (key : α → List Int) (x : α) (r : List α) : α := r.foldl (fun a y => if lexI (key y) (key a) = true then y else a) x
def maxO {α : Type} (key : α → List Int) : List α → Option α
  | [] => none
  | x :: r => some (maxT key x r)
def minO {α : Type} (key : α → List Int) : List α → Option α
  | [] => none
  | x :: r => some (minT key x r)
theorem maxK_key {α : Type} (key : α → List Int) : ∀ (r : List α) (x : α), maxK (key x) (r.map key) = key (maxT key x r)
  | [], x => rfl
  | y :: r, x => by
    unfold maxK maxT
    rw [List.map_cons, List.foldl_cons, List.foldl_cons]
    have e : (if lexI (key x) (key y) = true then key y else key x) = key (if lexI (key x) (key y) = true then y else x) := by split <;> rfl
    rw [e]
    exact maxK_key key r _
theorem minK_key {α : Type} (key : α → List Int) : ∀ (r : List α) (x : α), minK (key x) (r.map key) = key (minT key x r)
  | [], x => rfl
  | y :: r, x => by
    unfold minK minT
    rw [List.map_cons, List.foldl_cons, List.foldl_cons]
    have e : (if lexI (key y) (key x) = true then key y else key x) = key (if lexI (key y) (key x) = true then y else x) := by split <;> rfl
    rw [e]
    exact minK_key key r _
def sortT {α : Type} (key : α → List Int) (xs : List α) : List α := xs.mergeSort fun a b => leI (key a) (key b)
def sortO {α : Type} (key : α → List Int) (xs : List α) : Option (List α) := if xs.length ≤ 100000 then some (sortT key xs) else none
def ssetO (ns : List Int) : Option (List Int) := if ns.length ≤ 60 then some (ssetI ns) else none
def catO {α : Type} (xs ys : List α) : Option (List α) := if xs.length + ys.length ≤ 100000 then some (xs ++ ys) else none
/-! ### data that can be compared at all -/
def Pl (n : Nat) (d : D) : Prop := ∃ pd : PyData, (∀ K H v, Rp K H d v → Dp K H v pd) ∧ pd.canLay0 = true ∧ pd.depth ≤ n
def PlL (n : Nat) (ds : List D) : Prop := ∃ pds : List PyData, (∀ K H vs, RpL K H ds vs → DpAll K H vs pds) ∧ PyData.canLayAll0 pds = true ∧ PyData.depthAll pds ≤ n
theorem pl_int (i : Int) : Pl 3 (.int i) := ⟨.int i, fun K H v h => by have h : v = V.int i := h; subst h; exact .int i, rfl, by simp [PyData.depth]⟩
theorem pl_bl (i : Bool) : Pl 3 (.bl i) := ⟨.bool i, fun K H v h => by have h : v = V.bl i := h; subst h; exact .bl i, rfl, by simp [PyData.depth]⟩
theorem pl_non : Pl 3 .non := ⟨.none, fun K H v h => by have h : v = V.non := h; subst h; exact .non, rfl, by simp [PyData.depth]⟩
theorem pl_tI (k : List Int) : Pl 3 (tI k) := ⟨pI k, fun K H v h => dp_tI h, lay_pI k, Nat.le_trans (depth_pI k) (by decide)⟩
theorem pl_up {n m : Nat} {d : D} (h : n ≤ m) : Pl n d → Pl m d := fun ⟨pd, h1, h2, h3⟩ => ⟨pd, h1, h2, Nat.le_trans h3 h⟩
theorem pll_nil (n : Nat) : PlL n [] := ⟨[], fun K H v h => by cases h; exact .nil, rfl, by simp [PyData.depthAll]⟩
theorem pll_cons {n : Nat} {d : D} {ds : List D} : Pl n d → PlL n ds → PlL n (d :: ds) := fun ⟨p, h1, h2, h3⟩ ⟨ps, g1, g2, g3⟩ =>
  ⟨p :: ps, fun K H v ⟨x, r, e, q1, q2⟩ => by subst e; exact .cons (h1 K H x q1) (g1 K H r q2), by rw [PyData.canLayAll0, h2, g2]; rfl, by simp only [PyData.depthAll]; omega⟩
theorem pll_map {α : Type} {n : Nat} {f : α → D} (h : ∀ x, Pl n (f x)) : ∀ xs : List α, PlL n (xs.map f)
  | [] => pll_nil n
  | x :: xs => pll_cons (h x) (pll_map h xs)
theorem pl_tup {n : Nat} {ds : List D} : PlL n ds → Pl (n + 1) (.tup ds) := fun ⟨ps, g1, g2, g3⟩ => ⟨.tuple ps, fun K H v ⟨a, xs, e, q1, q2⟩ => by subst e; exact .tup (SqT.of q1) (g1 K H xs q2), g2, by simp only [PyData.depth]; omega⟩
theorem pl_lst {n : Nat} {ds : List D} : PlL n ds → Pl (n + 1) (.lst ds) := fun ⟨ps, g1, g2, g3⟩ => ⟨.list ps, fun K H v ⟨a, xs, e, q1, q2⟩ => by subst e; exact .lst q1 (g1 K H xs q2), g2, by simp only [PyData.depth]; omega⟩

section
variable {K : PySem.W.Frag} {We : WX} {X : Addr → Prop} {a0 : Addr} {H0 : Hp} {M : Msk} {ad : Nat → List Addr} {σ : St} {H H' H1 : Hp} {env env' env'' : List Bd} {l l' : Lv} {p q : Bool} {d d' e : D} {ta tb te ti tx : TE} {t u : TT} {i j : Nat} {b c : Bool} {ts tu : TS} {o : Out} {Dn : Ends} {tsA : TA}
theorem shaped_of {pd : PyData} {n : Nat} (h : pd.canLay0 = true) (hd : pd.depth ≤ n) (hn : n ≤ 60) : SeqAt.shaped pd = true := by
  unfold SeqAt.shaped
  rw [h]
  simpa using Nat.le_trans hd (Nat.le_trans hn (by decide))
theorem nil_eqv {pds : List PyData} {xs : List V} {B : Hp} (h : DpAll K B xs pds) : PyData.eqv (.list pds) (.list []) = xs.isEmpty := by
  cases h with
  | nil => simp [PyData.eqv, PyData.eqvAll]
  | cons _ _ => simp [PyData.eqv, PyData.eqvAll]
theorem rv_neNil {ds : List D} {n : Nat} (h : PlL n ds) (hn : n ≤ 59) : RV K l l' (rNeD K) (.lst ds) (.lst []) (.bl (!ds.isEmpty)) := fun X a0 H0 M ad σ H env x y Q E rx ry k => by
  obtain ⟨pds, g1, g2, g3⟩ := h
  obtain ⟨a, xs, rfl, h1, h2⟩ := rx
  obtain ⟨b, ys, rfl, h3, h4⟩ := ry
  have h4 : ys = [] := h4
  subst h4
  have hd := DpAM hid_all (g1 K _ xs h2)
  refine ⟨.list pds, .list [], .lst (ex_l hid_all h1) hd, .lst (ex_l hid_all h3) .nil, shaped_of (n := n + 1) g2 (by simp only [PyData.depth]; omega) (by omega), by rfl, ?_⟩
  rw [nil_eqv hd]
  have e : xs.isEmpty = ds.isEmpty := by
    have := h2.length
    cases xs <;> cases ds <;> first | rfl | simp at this
  rw [e]
  exact k _ H E (Ex.refl _) rfl
theorem rv_eqNil {ds : List D} {n : Nat} (h : PlL n ds) (hn : n ≤ 59) : RV K l l' (rEqD K) (.lst ds) (.lst []) (.bl ds.isEmpty) := fun X a0 H0 M ad σ H env x y Q E rx ry k => by
  obtain ⟨pds, g1, g2, g3⟩ := h
  obtain ⟨a, xs, rfl, h1, h2⟩ := rx
  obtain ⟨b, ys, rfl, h3, h4⟩ := ry
  have h4 : ys = [] := h4
  subst h4
  have hd := DpAM hid_all (g1 K _ xs h2)
  refine ⟨.list pds, .list [], .lst (ex_l hid_all h1) hd, .lst (ex_l hid_all h3) .nil, shaped_of (n := n + 1) g2 (by simp only [PyData.depth]; omega) (by omega), by rfl, ?_⟩
  rw [nil_eqv hd]
  have e : xs.isEmpty = ds.isEmpty := by
    have := h2.length
    cases xs <;> cases ds <;> first | rfl | simp at this
  rw [e]
  exact k _ H E (Ex.refl _) rfl
theorem rv_ixTn {ds : List D} (j : Nat) (h : ds[j]? = some e) : RV K l l (rIxT K) (.tup ds) (.int (j : Int)) e := rv_ixT (atI_nat h)
theorem rv_ixLn {ds : List D} (j : Nat) (h : ds[j]? = some e) : RV K l l (rIxL K) (.lst ds) (.int (j : Int)) e := rv_ixL (atI_nat h)
theorem rv_ixTm {α : Type} {f : α → D} {xs : List α} {i : Int} {v : α} (h : atI xs i = some v) : RV K l l (rIxT K) (.tup (xs.map f)) (.int i) (f v) := rv_ixT (by rw [atI_map, h]; rfl)
theorem rv_ixLm {α : Type} {f : α → D} {xs : List α} {i : Int} {v : α} (h : atI xs i = some v) : RV K l l (rIxL K) (.lst (xs.map f)) (.int i) (f v) := rv_ixL (by rw [atI_map, h]; rfl)
theorem ev_ixOwm {α : Type} {f : α → D} {xs : List α} {n : Int} {v : α} (h : env[i]? = some (.ow (.lst (xs.map f)))) (hb : EvD K l p tb env env (.int n)) (hd : atI xs n = some v) : EvD K l' p (tOp (rIxL K) (tVar i) tb) env env (f v) := ev_ixOw h hb (by rw [atI_map, hd]; rfl)
theorem ev_ixOwn {ds : List D} (j : Nat) (h : env[i]? = some (.ow (.lst ds))) (hd : ds[j]? = some d) : EvD K l' true (tOp (rIxL K) (tVar i) (tC (.int (j : Int)))) env env d := ev_ixOw (l := .l2) h ev_int (atI_nat hd)
theorem ev_ixMun {ds : List D} (j : Nat) (h : env[i]? = some (.mu (.lst ds))) (hd : ds[j]? = some d) : EvD K l' true (tOp (rIxL K) (tVar i) (tC (.int (j : Int)))) env env d := ev_ixMu (l := .l2) h ev_int (atI_nat hd)
/-- max, min, sorted of typed lists -/
theorem rc_maxT {α : Type} {key : α → List Int} {xs : List α} {m : α} (h : maxO key xs = some m) : RC K l l (rMaxD K) [.lst (xs.map fun a => tI (key a))] (tI (key m)) := by
  cases xs with
  | nil => cases h
  | cons x r =>
    have h : some (maxT key x r) = some m := h
    cases h
    have := rc_maxI (K := K) (l := l) (k0 := key x) (r := r.map key)
    rw [maxK_key, List.map_cons, List.map_map] at this
    exact this
theorem rc_minT {α : Type} {key : α → List Int} {xs : List α} {m : α} (h : minO key xs = some m) : RC K l l (rMinD K) [.lst (xs.map fun a => tI (key a))] (tI (key m)) := by
  cases xs with
  | nil => cases h
  | cons x r =>
    have h : some (minT key x r) = some m := h
    cases h
    have := rc_minI (K := K) (l := l) (k0 := key x) (r := r.map key)
    rw [minK_key, List.map_cons, List.map_map] at this
    exact this
theorem ev_minOwT {α : Type} {key : α → List Int} {xs : List α} {m : α} (h : env[i]? = some (.ow (.lst (xs.map fun a => tI (key a))))) (hm : minO key xs = some m) : EvD K l true (tCB (rMinD K) (tCons (tVar i) tNil)) env env (tI (key m)) := by
  cases xs with
  | nil => cases hm
  | cons x r =>
    have hm : some (minT key x r) = some m := hm
    cases hm
    have h' : env[i]? = some (.ow (.lst ((key x :: r.map key).map tI))) := by rw [h, List.map_cons, List.map_cons, List.map_map]; rfl
    have := ev_minOw (K := K) (l := l) h'
    rw [minK_key] at this
    exact this
theorem ef_sortT {α : Type} {key : α → List Int} {xs ys : List α} (hs : sortO key xs = some ys) (hk : ∀ a, key a ≠ []) (h : EvA K .l2 p tsA env env' [.lst (xs.map fun a => tI (key a))]) : EvF K p (tCB (rSortD K) tsA) env env' (.lst (ys.map fun a => tI (key a))) := by
  unfold sortO at hs
  by_cases hn : xs.length ≤ 100000
  · rw [if_pos hn] at hs
    cases hs
    have e1 : (xs.map fun a => tI (key a)) = (xs.map key).map tI := by rw [List.map_map]; rfl
    rw [e1] at h
    have := ef_sortI h (by simpa using hn) fun k hk' => by
      obtain ⟨a, _, rfl⟩ := List.mem_map.mp hk'
      exact hk a
    have e2 : ((xs.map key).mergeSort leI).map tI = (sortT key xs).map fun a => tI (key a) := by
      unfold sortT
      rw [← List.map_mergeSort (r := fun a b => leI (key a) (key b)) (s := leI) (f := key) (fun a _ b _ => rfl), List.map_map]
      rfl
    rw [e2] at this
    exact this
  · rw [if_neg hn] at hs; cases hs
theorem ef_ssetT {Xc : Cx} {ns ms : List Int} (hs : ssetO ns = some ms) (h : EvA Xc.K .l2 p tsA env env' [.lst (ns.map .int)]) : EvF Xc.K p (tCB (rSortedSet Xc.w) (tCons (tCB (rSetLI Xc) tsA) tNil)) env env' (.lst (ms.map .int)) := by
  unfold ssetO at hs
  by_cases hn : ns.length ≤ 60
  · rw [if_pos hn] at hs
    cases hs
    exact ef_sset h hn
  · rw [if_neg hn] at hs; cases hs
theorem ef_catT {α : Type} {f : α → D} {xs ys zs : List α} (hs : catO xs ys = some zs) (h1 : EvD K .l2 p ta env env' (.lst (xs.map f))) (h2 : EvD K .l2 q tb env' env'' (.lst (ys.map f))) : EvF K (p && q) (tOp (rCatL K) ta tb) env env'' (.lst (zs.map f)) := by
  unfold catO at hs
  by_cases hn : xs.length + ys.length ≤ 100000
  · rw [if_pos hn] at hs
    cases hs
    rw [List.map_append]
    exact ef_catL h1 h2 (by simpa using hn)
  · rw [if_neg hn] at hs; cases hs
theorem rc_len_lm {α : Type} {f : α → D} {xs : List α} : RC K l l' (fun xs H Q => ∃ p ys, xs = [.ref p] ∧ (SqL K H p ys ∨ SqT K H p ys) ∧ Q (.int ys.length) H) [.lst (xs.map f)] (.int (xs.length : Int)) := by
  have := rc_len_l (K := K) (l := l) (l' := l') (ds := xs.map f)
  rw [List.length_map] at this
  exact this
theorem rc_len_tm {α : Type} {f : α → D} {xs : List α} : RC K l l' (fun xs H Q => ∃ p ys, xs = [.ref p] ∧ (SqL K H p ys ∨ SqT K H p ys) ∧ Q (.int ys.length) H) [.tup (xs.map f)] (.int (xs.length : Int)) := by
  have := rc_len_t (K := K) (l := l) (l' := l') (ds := xs.map f)
  rw [List.length_map] at this
  exact this
/-- arithmetic -/
theorem rv_mul {m n k : Int} (h : mulO m n = some k) : RV K l l' (rI CMulW fun i j => .int (i * j)) (.int m) (.int n) (.int k) := by
  obtain ⟨h1, rfl⟩ := mulO_of h
  exact rv_I h1 fun _ => rfl
theorem rv_div {m n k : Int} (h : divO m n = some k) : RV K l l' (rI CDivW fun i j => .int (i / j)) (.int m) (.int n) (.int k) := by
  obtain ⟨h1, rfl⟩ := divO_of h
  exact rv_I h1 fun _ => rfl
theorem rv_mod {m n k : Int} (h : modO m n = some k) : RV K l l' (rI (fun _ j => 0 < j) fun i j => .int (i % j)) (.int m) (.int n) (.int k) := by
  obtain ⟨h1, rfl⟩ := modO_of h
  exact rv_I h1 fun _ => rfl
/-- dicts, typed -/
theorem ev_dgetKt {α : Type} {f : α → D} {l1 : List (Int × α)} {n : Int} {v : α} (hg : getA l1 n = some v) (h : EvD K l p ta env env' (dkL (l1.map fun z => ((Sum.inl z.1 : Key), f z.2)))) (hi : EvD K l true ti env' env' (.int n)) : EvD K l p (tDGet ta ti) env env' (f v) :=
  ev_dgetK h hi (by rw [getA_map Sum.inl f inl_inj, hg]; rfl)
theorem ev_dgetTt {α : Type} {f : α → D} {l1 : List (List Int × α)} {ns : List Int} {v : α} (hg : getA l1 ns = some v) (h : EvD K l p ta env env' (dtL (l1.map fun z => ((z.1.map Sum.inl : List Key), f z.2)))) (hi : EvA K .l2 true tsA env' env' (ns.map .int)) (hn : ns.length ≤ 1000) : EvD K l p (tDGet ta (tTup tsA)) env env' (f v) :=
  ev_dgetT h hi hn (by rw [getA_map (fun z : List Int => (z.map Sum.inl : List Key)) f inls_inj, hg]; rfl)
theorem ev_dget2Kt {α : Type} {f : α → D} {l1 : List (Int × α)} {n : Int} {v : α} (h : env[i]? = some (.ow (dkL (l1.map fun z => ((Sum.inl z.1 : Key), f z.2))))) (hi : EvD K .l2 true ti env env (.int n)) (hx : EvD K .l2 true tx env env (f v)) : EvD K l true (tDGet2 (tVar i) ti tx) env env (f ((getA l1 n).getD v)) := by
  refine ev_is (ev_dget2K h hi hx) ?_
  rw [getA_map Sum.inl f inl_inj]
  cases getA l1 n <;> rfl
theorem ev_dget2Tt {α : Type} {f : α → D} {l1 : List (List Int × α)} {ns : List Int} {v : α} (h : env[i]? = some (.ow (dtL (l1.map fun z => ((z.1.map Sum.inl : List Key), f z.2))))) (hi : EvA K .l2 true tsA env env (ns.map .int)) (hn : ns.length ≤ 1000) (hx : EvD K .l2 true tx env env (f v)) : EvD K l true (tDGet2 (tVar i) (tTup tsA) tx) env env (f ((getA l1 ns).getD v)) := by
  refine ev_is (ev_dget2T h hi hn hx) ?_
  rw [getA_map (fun z : List Int => (z.map Sum.inl : List Key)) f inls_inj]
  cases getA l1 ns <;> rfl
theorem sd_dputKt {α : Type} {f : α → D} {l1 : List (Int × α)} {n : Int} {v : α} (h : env'[i]? = some (.ow (dkL (l1.map fun z => ((Sum.inl z.1 : Key), f z.2))))) (he : EvD K .l2 p te env env' (f v)) (hi : EvD K .l2 true ti env' env' (.int n)) (hn : l1.length < 100000) : SD K We (sDPut (tVar i) ti te) env (.nx (env'.set i (.ow (dkL ((putA l1 n v).map fun z => ((Sum.inl z.1 : Key), f z.2)))))) := by
  have := sd_dputK (We := We) h he hi (by simpa using hn)
  rw [putA_map Sum.inl f inl_inj] at this
  exact this
theorem sd_dputTt {α : Type} {f : α → D} {l1 : List (List Int × α)} {ns : List Int} {v : α} (h : env'[i]? = some (.ow (dtL (l1.map fun z => ((z.1.map Sum.inl : List Key), f z.2))))) (he : EvD K .l2 p te env env' (f v)) (hi : EvA K .l2 true tsA env' env' (ns.map .int)) (hns : ns.length ≤ 1000) (hn : l1.length < 100000) : SD K We (sDPut (tVar i) (tTup tsA) te) env (.nx (env'.set i (.ow (dtL ((putA l1 ns v).map fun z => ((z.1.map Sum.inl : List Key), f z.2)))))) := by
  have := sd_dputT (We := We) h he hi hns (by simpa using hn)
  rw [putA_map (fun z : List Int => (z.map Sum.inl : List Key)) f inls_inj] at this
  exact this
theorem sd_appendT {α : Type} {f : α → D} {xs : List α} {v : α} {un : Unit} (hn : okL xs.length = some un) (h : env'[i]? = some (.ow (.lst (xs.map f)))) (h0 : env[i]? = some (.ow (.lst (xs.map f)))) (he : EvD K .l2 p te env env' (f v)) :
    SD K We (tDrop (tBM K "list" rAppend (tVar i) (tCons te tNil))) env (.nx (env'.set i (.ow (.lst ((xs ++ [v]).map f))))) := by
  have := sd_append (We := We) h h0 he (by simpa using okL_of hn)
  rw [List.map_append]
  exact this
/-- tuple * int -/
theorem ev_repT {α : Type} {f : α → D} {xs : List α} {n : Int} (h : EvD K l p ta env env' (.tup (xs.map f))) (h2 : EvD K l true tb env' env' (.int n)) (hn : 1 ≤ n ∧ n ≤ 1000) (hx : xs ≠ []) (hl : xs.length ≤ 1000) :
    EvD K l p (tOp (fun x y H Q => rRepT1 K x y H Q ∨ rRepT K x y H Q) ta tb) env env' (.tup ((List.replicate n.toNat xs).flatten.map f)) := fun X a0 H0 M ad σ H Q E k =>
  h X a0 H0 M ad σ H _ E fun x H1 E1 e1 p1 r1 => h2 X a0 H0 M ad σ H1 _ E1 fun y H2 E2 e2 p2 r2 => by
    obtain ⟨a, ys, rfl, g1, g2⟩ := r1
    have r2 : y = V.int n := r2
    subst r2
    have hl2 : ys.length = xs.length := by rw [g2.length, List.length_map]
    have g1' : SqT K H2 a ys := ex_s (hid_all.trans (p2 rfl)) g1
    by_cases e : n = 1
    · subst e
      refine .inl ⟨a, ys, rfl, rfl, g1', k _ H2 E2 (e1.trans e2) (fun z => (p1 z).trans (p2 rfl)) ?_⟩
      have : (List.replicate (1 : Int).toNat xs).flatten = xs := by simp
      rw [this]
      exact ⟨a, ys, rfl, hid_ex (p2 rfl) _ _ g1, RpL.mono (hid_ex (p2 rfl)) _ _ g2⟩
    · refine .inr ⟨a, n, ys, rfl, rfl, g1', fun z => hx (List.eq_nil_of_length_eq_zero (by rw [← hl2, z]; rfl)), by omega, hn.2, by omega, fun c hc => ?_⟩
      have g : Ex H2 (upd H2 c (.tup (List.replicate n.toNat ys).flatten)) := Ex.new hc
      refine k _ _ (E2.grow g) ((e1.trans e2).trans (hid_ex g)) (fun z => ((p1 z).trans (p2 rfl)).trans g) ⟨c, (List.replicate n.toNat ys).flatten, rfl, ?_, ?_⟩
      · rw [hid_out (fresh_mk E2 hc), upd_same]
      · have g3 : RpL K (hid (mk l M X) (upd H2 c (.tup (List.replicate n.toNat ys).flatten))) (xs.map f) ys := RpL.mono ((hid_ex (p2 rfl)).trans (hid_ex g)) _ _ g2
        revert g3
        generalize hid (mk l M X) (upd H2 c (HO.tup (List.replicate n.toNat ys).flatten)) = HH
        intro g3
        generalize n.toNat = m
        clear g k
        induction m with
        | zero => exact rfl
        | succ m ih =>
          rw [List.replicate_succ, List.replicate_succ, List.flatten_cons, List.flatten_cons, List.map_append]
          exact RpL.append g3 ih
/-! ### walks -/
theorem ei_rng1T {n : Int} {xs : List Int} (hx : rngO 0 n = some xs) (h : EvA K l' p tsA env env' [.int n]) : EvI K l p (iRng1 tsA) env env' (xs.map D.int) := by
  obtain ⟨_, h2, rfl⟩ := rngO_of hx
  have := ei_rng1 (l := l) h h2
  rw [Int.sub_zero]
  exact this
theorem ei_rng2T {m n : Int} {xs : List Int} (hx : rngO m n = some xs) (h : EvA K l' p tsA env env' [.int m, .int n]) : EvI K l p (iRng2 tsA) env env' (xs.map D.int) := by
  obtain ⟨h1, h2, rfl⟩ := rngO_of hx
  exact ei_rng2 h h1 h2
theorem enumD_map {α : Type} (f : α → D) (xs : List α) : enumD (xs.map f) = (enumT xs).map fun z => D.tup [.int z.1, f z.2] := by
  unfold enumD enumT
  apply List.ext_getElem?
  intro i
  rw [List.getElem?_mapIdx, List.getElem?_map, List.getElem?_map, List.getElem?_mapIdx]
  cases xs[i]? <;> rfl
theorem ei_enumLT {α : Type} {f : α → D} {xs : List α} (hl : l.lp = true) (h : EvA K l p tsA env env' [.lst (xs.map f)]) : EvI K l p (iEnum K tsA) env env' ((enumT xs).map fun z => D.tup [.int z.1, f z.2]) := by
  rw [← enumD_map]
  exact ei_enumL hl h
theorem ei_enT (hl : l.lp = true) {ds : List D} (h : EvA K l p tsA env env' [.tup ds]) : EvI K l p (iEnT K tsA) env env' (enumD ds) := fun X a0 H0 M ad σ H R E k =>
  h X a0 H0 M ad σ H _ E fun ys H1 E1 e1 p1 r1 => by
    obtain ⟨x, rfl, a, xs, rfl, h1, h2⟩ := r1.one'
    refine ⟨a, xs, rfl, ex_s hid_all h1, k _ H1 E1 e1 p1 fun i H2 g => ?_⟩
    have h3 : SqT K H2 a xs := ex_s ((by rw [hid_mx hl]; exact hid_all.trans g : Ex (hid (mk l M X) H1) H2)) h1
    refine ⟨fun d hd => ?_, fun hi => ⟨xs, h3, by rw [h2.length]; simpa [enumD] using hi⟩⟩
    unfold enumD at hd
    rw [List.getElem?_mapIdx] at hd
    obtain ⟨d0, hd0, rfl⟩ := Option.map_eq_some_iff.mp hd
    obtain ⟨v, hv, rv⟩ := h2.get hd0
    refine ⟨⟨xs, v, h3, hv⟩, fun x H' y => .inr ?_⟩
    obtain ⟨T, y', hx, hT, hH, hy⟩ := y
    have := hy xs h3
    rw [hv] at this
    cases this
    exact .inl ⟨T, v, d0, hx, hT, hH, rfl, by rw [← hid_mx hl]; exact rv⟩
theorem ei_enumTT {α : Type} {f : α → D} {xs : List α} (hl : l.lp = true) (h : EvA K l p tsA env env' [.tup (xs.map f)]) : EvI K l p (iEnT K tsA) env env' ((enumT xs).map fun z => D.tup [.int z.1, f z.2]) := by
  rw [← enumD_map]
  exact ei_enT hl h
/-! ### slots let go -/
theorem sd_wipe (vs : List Nat) (hv : (vs.all fun v => !isMu env'[v]?) = true) (h : SD K We ts env (.nx env')) : SD K We ts env (.nx (wipeE env' vs)) := fun X a0 H0 M ad σ H Dn E k =>
  h X a0 H0 M ad σ H Dn E fun M' ad' σ' H' E' => k M' ad' σ' H' ((E'.wipe hv).1.anyAt (wipe_length _ _).symm fun j b hb => by
    by_cases m : j ∈ vs
    · refine .inl ?_
      have : (wipeE env' vs)[j]? = some .an := wipeE_at m (by
        have := (List.getElem?_eq_some_iff.mp hb).1
        rwa [wipeE_len] at this)
      rw [this] at hb
      exact (Option.some.inj hb).symm
    · rw [wipe_get, if_neg fun z => m z.1]; exact .inr rfl)
theorem sd_wp (vs : List Nat) (hv : (vs.all fun v => !isMu env[v]?) = true) (h : SD K We ts (wipeE env vs) o) : SD K We ts env o := fun X a0 H0 M ad σ H Dn E k =>
  h X a0 H0 M ad σ H Dn ((E.wipe hv).1.anyAt (wipe_length _ _).symm fun j b hb => by
    by_cases m : j ∈ vs
    · refine .inl ?_
      have : (wipeE env vs)[j]? = some .an := wipeE_at m (by
        have := (List.getElem?_eq_some_iff.mp hb).1
        rwa [wipeE_len] at this)
      rw [this] at hb
      exact (Option.some.inj hb).symm
    · rw [wipe_get, if_neg fun z => m z.1]; exact .inr rfl) k
end
end Pw
/-! PwN: rules in the form that the printed readings use. -/
namespace Pw
open PySem L2
section
variable {K : PySem.W.Frag} {We : WX} {X : Addr → Prop} {a0 : Addr} {H0 : Hp} {M : Msk} {ad : Nat → List Addr} {σ : St} {H H' H1 : Hp} {env env' env'' : List Bd} {l l' : Lv} {p q : Bool} {d d' e : D} {ta tb te ti tx : TE} {t u : TT} {i j : Nat} {b c : Bool} {ts tu te' : TS} {o : Out} {Dn : Ends} {tsA : TA}
theorem hu64 {A : Around} {k : Nat} (h : Room k A) : A.units + 64 < cLine := by have := h.un; omega
theorem ev_toF (h : EvD K l p te env env' d) : EvD K l false te env env' d := fun X a0 H0 M ad σ H Q E k =>
  h X a0 H0 M ad σ H Q E fun v H' E' e' p' r => k v H' E' e' (fun z => by cases z) r
theorem eb_toF (h : EvB K p t env env' b) : EvB K false t env env' b := fun X a0 H0 M ad σ H Q E k =>
  h X a0 H0 M ad σ H Q E fun H' E' e' p' => k H' E' e' (fun z => by cases z)
theorem ea_toF {ds : List D} (h : EvA K l p tsA env env' ds) : EvA K l false tsA env env' ds := fun X a0 H0 M ad σ H Q E k =>
  h X a0 H0 M ad σ H Q E fun v H' E' e' p' r => k v H' E' e' (fun z => by cases z) r
theorem ev_opP {r : R2} (ha : EvD K l true ta env env d) (hb : EvD K l true tb env env d') (hr : RV K l l' r d d' e) : EvD K l' true (tOp r ta tb) env env e :=
  ev_op (p := true) (q := true) (Bool.or_true _) ha hb hr
theorem ev_opF {r : R2} (hl : l.st = true) (ha : EvD K l p ta env env' d) (hb : EvD K l q tb env' env'' d') (hr : RV K l l' r d d' e) : EvD K l' false (tOp r ta tb) env env'' e :=
  ev_toF (ev_op (by rw [hl]; rfl) ha hb hr)
theorem ea_consP {ts : TA} {ds : List D} (h : EvD K l true te env env d) (hs : EvA K l true ts env env ds) : EvA K l true (tCons te ts) env env (d :: ds) :=
  ea_cons (p := true) (q := true) (Bool.or_true _) h hs
theorem ea_consF {ts : TA} {ds : List D} (hl : l.st = true) (h : EvD K l p te env env' d) (hs : EvA K l q ts env' env'' ds) : EvA K l false (tCons te ts) env env'' (d :: ds) :=
  ea_toF (ea_cons (by rw [hl]; rfl) h hs)
theorem eb_andW (h : EvB K p t env env b) (h1 : b = true → EvB K p u env env c) (h2 : b = false → c = false) : EvB K p (tAnd t u) env env c := by
  have := eb_and h h1
  cases b with
  | true => exact this
  | false => rw [h2 rfl]; exact this
theorem eb_orW (h : EvB K p t env env b) (h1 : b = false → EvB K p u env env c) (h2 : b = true → c = true) : EvB K p (tOr t u) env env c := by
  have := eb_or h h1
  cases b with
  | false => exact this
  | true => rw [h2 rfl]; exact this
theorem ev_andW (h : EvD K l p ta env env (.bl b)) (h1 : b = true → EvD K l p tb env env (.bl c)) (h2 : b = false → c = false) : EvD K l' p (tAndV ta tb) env env (.bl c) := by
  have := ev_andV (l' := l') h h1
  cases b with
  | true => exact this
  | false => rw [h2 rfl]; exact this
theorem ev_orW (h : EvD K l p ta env env (.bl b)) (h1 : b = false → EvD K l p tb env env (.bl c)) (h2 : b = true → c = true) : EvD K l' p (tOrV ta tb) env env (.bl c) := by
  have := ev_orV (l' := l') h h1
  cases b with
  | false => exact this
  | true => rw [h2 rfl]; exact this
theorem sd_assoc (h : SD K We (tSeq ts (tSeq tu te')) env o) : SD K We (tSeq (tSeq ts tu) te') env o := h
theorem sd_env {env2 : List Bd} (e : env = env2) (h : SD K We ts env2 o) : SD K We ts env o := e ▸ h
theorem sd_seqW {env2 : List Bd} (h1 : SD K We ts env (.nx env')) (e : env' = env2) (h2 : SD K We tu env2 o) : SD K We (tSeq ts tu) env o := sd_seq h1 (e ▸ h2)
theorem sd_nextW {env2 : List Bd} (vs : List Nat) (hv : (vs.all fun v => !isMu env[v]?) = true) (e : wipeE env vs = env2) : SD K We tNext env (.nx env2) := e ▸ sd_wipe vs hv sd_next
theorem sd_contW {env2 : List Bd} (vs : List Nat) (hv : (vs.all fun v => !isMu env[v]?) = true) (e : wipeE env vs = env2) : SD K We tCont env (.ct env2) := by
  refine sd_wp vs hv ?_
  rw [e]
  exact sd_cont
theorem sd_wp' {env2 : List Bd} (vs : List Nat) (hv : (vs.all fun v => !isMu env[v]?) = true) (e : wipeE env vs = env2) (h : SD K We ts env2 o) : SD K We ts env o := sd_wp vs hv (e ▸ h)
/-- for, whose body may answer -/
theorem loop_foldR {α S R : Type} {B : D → List Bd → Out → Prop} {f : S → α → Option (S ⊕ R)} {en : α → D} {ev : S → List Bd} {fin : R → Out} (hf : ∀ r, (fin r).ret = true)
    (h1 : ∀ x s s1, f s x = some (.inl s1) → B (en x) (ev s) (.nx (ev s1)) ∨ B (en x) (ev s) (.ct (ev s1))) (h2 : ∀ x s r, f s x = some (.inr r) → B (en x) (ev s) (fin r)) :
    ∀ (xs : List α) s z, foldR f xs s = some z → Loop B (xs.map en) (ev s) (match z with | .inl s' => .nx (ev s') | .inr r => fin r)
  | [], s, z, q => by
    have q : some (Sum.inl s) = some z := q
    cases q; rfl
  | x :: xs, s, z, q => by
    obtain ⟨w, hw, q⟩ := Option.bind_eq_some_iff.mp q
    cases w with
    | inl s1 => exact .inl ⟨ev s1, h1 x s s1 hw, loop_foldR hf h1 h2 xs s1 z q⟩
    | inr r =>
      have q : some (Sum.inr r) = some z := q
      cases q
      exact .inr (.inr ⟨hf r, h2 x s r hw⟩)
/-- comprehensions -/
theorem cloopL {α β : Type} {B : D → List Bd → Option D → List Bd → Prop} {f : α → Option (Option β)} {en : α → D} {eb : β → D} (h : ∀ x r, f x = some r → B (en x) env (r.map eb) env) :
    ∀ (xs : List α) ys, compL f xs = some ys → CLoop B (xs.map en) env (ys.map eb) env
  | [], ys, q => by
    have q : some [] = some ys := q
    cases q; exact ⟨rfl, rfl⟩
  | x :: xs, ys, q => by
    obtain ⟨r, hr, q⟩ := Option.bind_eq_some_iff.mp q
    obtain ⟨zs, hz, q⟩ := Option.bind_eq_some_iff.mp q
    cases q
    refine ⟨r.map eb, env, zs.map eb, h x r hr, ?_, cloopL h xs zs hz⟩
    cases r <;> simp
theorem cloopS {α β S : Type} {B : D → List Bd → Option D → List Bd → Prop} {f : S → α → Option (Option β × S)} {en : α → D} {eb : β → D} {ev : S → List Bd} (h : ∀ x s r, f s x = some r → B (en x) (ev s) (r.1.map eb) (ev r.2)) :
    ∀ (xs : List α) s ys, compSL f xs s = some ys → CLoop B (xs.map en) (ev s) (ys.1.map eb) (ev ys.2)
  | [], s, ys, q => by
    have q : some ([], s) = some ys := q
    cases q; exact ⟨rfl, rfl⟩
  | x :: xs, s, ys, q => by
    obtain ⟨r, hr, q⟩ := Option.bind_eq_some_iff.mp q
    obtain ⟨zs, hz, q⟩ := Option.bind_eq_some_iff.mp q
    cases q
    refine ⟨r.1.map eb, ev r.2, zs.1.map eb, h x s r hr, ?_, cloopS h xs r.2 zs hz⟩
    cases r.1 <;> simp
theorem compO_of {α β : Type} {f : α → Option (Option β)} {xs : List α} {ys : List β} (h : compO f xs = some ys) : xs.length ≤ 100000 ∧ compL f xs = some ys := by
  unfold compO at h
  by_cases g : xs.length ≤ 100000
  · rw [if_pos g] at h; exact ⟨g, h⟩
  · rw [if_neg g] at h; cases h
theorem compS_of {α β S : Type} {f : S → α → Option (Option β × S)} {xs : List α} {s : S} {ys : List β × S} (h : compS f xs s = some ys) : xs.length ≤ 100000 ∧ compSL f xs s = some ys := by
  unfold compS at h
  by_cases g : xs.length ≤ 100000
  · rw [if_pos g] at h; exact ⟨g, h⟩
  · rw [if_neg g] at h; cases h
theorem ef_lcO {α β : Type} {f : α → Option (Option β)} {xs : List α} {ys : List β} {en : α → D} {eb : β → D} {vs : List Nat} {wi : TI} {g : TG} {tt : TT} (hs : compO f xs = some ys) (hl : l.lp = true) (hi : EvI K l true wi env env (xs.map en)) (hw : TgW g vs) (han : ∀ v ∈ vs, env[v]? = some .an)
    (h : ∀ x r, f x = some r → Turn K l true g tt te vs (en x) env (r.map eb) env) : EvF K true (tLc wi g tt te vs) env env (.lst (ys.map eb)) :=
  ef_lc hl hi hw han (by rw [List.length_map]; exact (compO_of hs).1) (cloopL h xs ys (compO_of hs).2)
theorem ef_lcS {α β S : Type} {f : S → α → Option (Option β × S)} {xs : List α} {s : S} {ys : List β × S} {en : α → D} {eb : β → D} {ev : S → List Bd} {vs : List Nat} {wi : TI} {g : TG} {tt : TT} (hs : compS f xs s = some ys) (hl : l.lp = true) (hi : EvI K l p wi env (ev s) (xs.map en)) (hw : TgW g vs) (han : ∀ v ∈ vs, (ev s)[v]? = some .an)
    (h : ∀ x s r, f s x = some r → Turn K l p g tt te vs (en x) (ev s) (r.1.map eb) (ev r.2)) : EvF K p (tLc wi g tt te vs) env (ev ys.2) (.lst (ys.1.map eb)) :=
  ef_lc hl hi hw han (by rw [List.length_map]; exact (compS_of hs).1) (cloopS h xs s ys (compS_of hs).2)
/-- a turn that keeps its item -/
theorem turn_yes {vs : List Nat} {g : TG} {tt : TT} {r : D} {envt env2 : List Bd} (hg : TgD K l g d env envt) (ht : EvB K p tt envt envt true) (he : EvD K .l2 p te envt env2 r) (hm1 : (vs.all fun v => !isMu envt[v]?) = true) (hm2 : (vs.all fun v => !isMu env2[v]?) = true) (e : wipeE env2 vs = env') (an : ∀ v ∈ vs, env'[v]? = some .an) : Turn K l p g tt te vs d env (some r) env' :=
  ⟨fun v hv => .inl (an v hv), envt, envt, hg, true, ht, hm1, fun _ => ⟨env2, r, he, hm2, rfl, e.symm⟩, fun z => by cases z⟩
theorem turn_no {vs : List Nat} {g : TG} {tt : TT} {envt : List Bd} (hg : TgD K l g d env envt) (ht : EvB K p tt envt envt false) (hm1 : (vs.all fun v => !isMu envt[v]?) = true) (e : wipeE envt vs = env') (an : ∀ v ∈ vs, env'[v]? = some .an) : Turn K l p g tt te vs d env none env' :=
  ⟨fun v hv => .inl (an v hv), envt, envt, hg, false, ht, hm1, (fun z => by cases z), fun _ => ⟨rfl, e.symm⟩⟩
theorem anN : ∀ v ∈ ([] : List Nat), env[v]? = some .an := fun v h => by cases h
theorem anC {v : Nat} {vs : List Nat} (h : env[v]? = some .an) (hs : ∀ v ∈ vs, env[v]? = some .an) : ∀ w ∈ v :: vs, env[w]? = some .an := fun w hw => by
  cases hw with
  | head => exact h
  | tail _ z => exact hs w z
/-- truth of a list -/
theorem eb_truL {ds : List D} (h : EvD K l p te env env' (.lst ds)) : EvB K p (fun σ H Q => te σ H fun x H' => ∃ k, TruV K x H' k ∧ Q k H') env env' (!ds.isEmpty) := fun X a0 H0 M ad σ H Q E k =>
  h X a0 H0 M ad σ H _ E fun v H' E' e' p' r => by
    obtain ⟨a, xs, rfl, h1, h2⟩ := r
    refine ⟨!xs.isEmpty, .inl ⟨xs, ex_l hid_all h1, rfl⟩, ?_⟩
    have e : xs.isEmpty = ds.isEmpty := by
      have := h2.length
      cases xs <;> cases ds <;> first | rfl | simp at this
    rw [e]
    exact k H' E' e' p'
/-- numbers -/
theorem rv_add {m n : Int} : RV K l l' (rI0 fun i j => .int (i + j)) (.int m) (.int n) (.int (m + n)) := rv_I0 fun _ => rfl
theorem rv_sub {m n : Int} : RV K l l' (rI0 fun i j => .int (i - j)) (.int m) (.int n) (.int (m - n)) := rv_I0 fun _ => rfl
theorem rv_lt {m n : Int} : RV K l l' (rI0 fun i j => .bl (decide (i < j))) (.int m) (.int n) (.bl (decide (m < n))) := rv_I0 fun _ => rfl
theorem rv_le {m n : Int} : RV K l l' (rI0 fun i j => .bl (decide (i ≤ j))) (.int m) (.int n) (.bl (decide (m ≤ n))) := rv_I0 fun _ => rfl
theorem rv_gt {m n : Int} : RV K l l' (rI0 fun i j => .bl (decide (i > j))) (.int m) (.int n) (.bl (decide (n < m))) := rv_I0 fun _ => rfl
theorem rv_ge {m n : Int} : RV K l l' (rI0 fun i j => .bl (decide (i ≥ j))) (.int m) (.int n) (.bl (decide (n ≤ m))) := rv_I0 fun _ => rfl
end
/-- the way a walk ends -/
def outZ {S R : Type} (ev : S → List Bd) (fin : R → Out) : S ⊕ R → Out
  | .inl s => .nx (ev s)
  | .inr r => fin r
theorem loop_foldZ {α S R : Type} {B : D → List Bd → Out → Prop} {f : S → α → Option (S ⊕ R)} {en : α → D} {ev : S → List Bd} {fin : R → Out} (hf : ∀ r, (fin r).ret = true)
    (h1 : ∀ x s z, f s x = some z → B (en x) (ev s) (outZ ev fin z)) : ∀ (xs : List α) s z, foldR f xs s = some z → Loop B (xs.map en) (ev s) (outZ ev fin z)
  | [], s, z, q => by
    have q : some (Sum.inl s) = some z := q
    cases q; rfl
  | x :: xs, s, z, q => by
    obtain ⟨w, hw, q⟩ := Option.bind_eq_some_iff.mp q
    cases w with
    | inl s1 => exact .inl ⟨ev s1, .inl (h1 x s _ hw), loop_foldZ hf h1 xs s1 z q⟩
    | inr r =>
      have q : some (Sum.inr r) = some z := q
      cases q
      exact .inr (.inr ⟨hf r, h1 x s _ hw⟩)
theorem loop_foldN {α S : Type} {B : D → List Bd → Out → Prop} {f : S → α → Option S} {en : α → D} {ev : S → List Bd} (h : ∀ x s s1, f s x = some s1 → B (en x) (ev s) (.nx (ev s1)))
    (xs : List α) (s s' : S) (q : xs.foldlM f s = some s') : Loop B (xs.map en) (ev s) (.nx (ev s')) := loop_fold (fun x s s1 z => .inl (h x s s1 z)) xs s s' q
theorem sd_seqZ {K : PySem.W.Frag} {S R : Type} {ev : S → List Bd} {fin : R → Out} {z : S ⊕ R} {ts tu : TS} {env : List Bd} {o : Out} (h : SD K We ts env (outZ ev fin z)) (hf : ∀ r, (fin r).nxt = false) (h1 : ∀ s, z = .inl s → SD K We tu (ev s) o) (h2 : ∀ r, z = .inr r → fin r = o) : SD K We (tSeq ts tu) env o := by
  cases z with
  | inl s => exact sd_seq h (h1 s rfl)
  | inr r =>
    have e : fin r = o := h2 r rfl
    rw [← e]
    exact sd_out h (hf r)
/-- turns while a test holds -/
def whileC {S : Type} (c : S → Option Bool) (f : S → Option S) : Nat → S → Option S
  | 0, _ => none
  | n + 1, s => (c s).bind fun b => if b = true then (f s).bind fun s1 => whileC c f n s1 else some s
theorem wloopC {S : Type} {C : List Bd → List Bd → Bool → Prop} {B : List Bd → Out → Prop} {c : S → Option Bool} {f : S → Option S} {ev : S → List Bd}
    (hc : ∀ s b, c s = some b → C (ev s) (ev s) b) (hf : ∀ s s1, c s = some true → f s = some s1 → B (ev s) (.nx (ev s1))) :
    ∀ (n : Nat) s s', whileC c f n s = some s' → WLoop C B n (ev s) (.nx (ev s'))
  | 0, s, s', q => by cases q
  | n + 1, s, s', q => by
    obtain ⟨b, hb, q⟩ := Option.bind_eq_some_iff.mp q
    cases b with
    | true =>
      rw [if_pos rfl] at q
      obtain ⟨s1, h1, q⟩ := Option.bind_eq_some_iff.mp q
      exact ⟨ev s, true, hc s _ hb, (fun z => by cases z), fun _ => .inl ⟨ev s1, .inl (hf s s1 hb h1), wloopC hc hf n s1 s' q⟩⟩
    | false =>
      rw [if_neg Bool.false_ne_true] at q
      cases q
      exact ⟨ev s, false, hc s _ hb, fun _ => rfl, (fun z => by cases z)⟩
section
variable {K : PySem.W.Frag} {We : WX} {env env' env2 : List Bd} {l l' : Lv} {p : Bool} {te ta tb : TE} {ts tu : TS} {o : Out} {d d' : D} {tsA : TA}
theorem sd_endW (vs : List Nat) (h : SD K We ts env (.nx env')) (hv : (vs.all fun v => !isMu env'[v]?) = true) (e : wipeE env' vs = env2) : SD K We ts env (.nx env2) := e ▸ sd_wipe vs hv h
theorem ef_is (d' : D) (h : EvF K p te env env' d) (e : d = d') : EvF K p te env env' d' := e ▸ h
theorem ef_p (h : EvF K true te env env' d) : EvF K p te env env' d := fun X a0 H0 M ad σ H Q E k =>
  h X a0 H0 M ad σ H Q E fun a H1 H' h0 hs E' g e' p' => k a H1 H' h0 hs E' g e' (fun _ => p' rfl)
theorem ef_toF (h : EvF K p te env env' d) : EvF K false te env env' d := fun X a0 H0 M ad σ H Q E k =>
  h X a0 H0 M ad σ H Q E fun a H1 H' h0 hs E' g e' p' => k a H1 H' h0 hs E' g e' (fun z => by cases z)
theorem rv_neNilT {α : Type} {f : α → D} {xs : List α} {n : Nat} (h : ∀ x, Pl n (f x)) (hn : n ≤ 59) : RV K l l' (rNeD K) (.lst (xs.map f)) (.lst []) (.bl (!xs.isEmpty)) := by
  have := rv_neNil (K := K) (l := l) (l' := l') (pll_map h xs) hn
  rw [show (xs.map f).isEmpty = xs.isEmpty by cases xs <;> rfl] at this
  exact this
theorem rv_eqNilT {α : Type} {f : α → D} {xs : List α} {n : Nat} (h : ∀ x, Pl n (f x)) (hn : n ≤ 59) : RV K l l' (rEqD K) (.lst (xs.map f)) (.lst []) (.bl xs.isEmpty) := by
  have := rv_eqNil (K := K) (l := l) (l' := l') (pll_map h xs) hn
  rw [show (xs.map f).isEmpty = xs.isEmpty by cases xs <;> rfl] at this
  exact this
theorem eb_truLT {α : Type} {f : α → D} {xs : List α} (h : EvD K l p te env env' (.lst (xs.map f))) : EvB K p (fun σ H Q => te σ H fun x H' => ∃ k, TruV K x H' k ∧ Q k H') env env' (!xs.isEmpty) := by
  have := eb_truL h
  rw [show (xs.map f).isEmpty = xs.isEmpty by cases xs <;> rfl] at this
  exact this
theorem rv_in0 {n : Int} {ns : List Int} : RV K l l' (rIn K false) (.int n) (.lst (ns.map .int)) (.bl (decide (n ∈ ns))) := rv_inL (neg := false)
theorem rv_in1 {n : Int} {ns : List Int} : RV K l l' (rIn K true) (.int n) (.lst (ns.map .int)) (.bl (!decide (n ∈ ns))) := rv_inL (neg := true)
theorem rv_isNT {x : Option Int} : RV K l l' (fun x y H Q => y = .non ∧ Q (.bl (decide (x = .non))) H) (encO D.int x) .non (.bl x.isNone) := by
  have := rv_isN (K := K) (l := l) (l' := l') (d := encO D.int x)
  cases x <;> exact this
end
end Pw
/-! PwO: an own object that is only read from now on; small words of the printed readings. -/
namespace Pw
open PySem L2
section
variable {K : PySem.W.Frag} {We : WX} {X : Addr → Prop} {a0 : Addr} {H0 : Hp} {M : Msk} {ad : Nat → List Addr} {σ : St} {H : Hp} {env : List Bd} {i : Nat} {d : D} {ts : TS} {o : Out}
def Msk.lessL (M : Msk) (as : List Addr) : Msk := ⟨fun b => M.n b ∧ b ∉ as, fun b => M.m b ∧ b ∉ as, fun b h => ⟨M.le b h.1, h.2⟩⟩
theorem ER.freezeT {t : Tr} (E : ER K X a0 H0 M ad σ H env) (h : env[i]? = some (.tr t)) : ER K X a0 H0 (M.lessL (ad i)) ad σ H (env.set i (.im t.fr)) := by
  have g1 : Ex (hid (fun a => M.m a ∨ X a) H) (hid (fun a => (M.lessL (ad i)).m a ∨ X a) H) := hid_le fun a z => z.imp (·.1) id
  have hi : own env[i]? = some t := by rw [h]; rfl
  obtain ⟨an, nd, v, hv, w⟩ := E.ws i t hi
  have wo : ∀ (j : Nat) u, own (env.set i (.im t.fr))[j]? = some u → j ≠ i ∧ own env[j]? = some u := fun j u q => by
    rcases set_own q with ⟨_, y, _⟩ | z
    · cases y
    · exact z
  refine ⟨by rw [List.length_set]; exact E.len, E.ex, E.xin, fun a ha => E.min a ha.1, fun a ha => E.mout a ha.1, fun j e q => ?_, fun j e q => ?_, fun j u q => ?_, fun j u q => ?_, fun j u q => ?_, fun j k hjk h1 h2 => ?_, fun j u q => ?_⟩
  · rcases set_cases q with ⟨z, y, _⟩ | ⟨z, q⟩
    · cases y
      subst z
      exact ⟨v, hv, Ow.rp g1 _ _ _ (fun b hb => hid_out (m := fun a => (M.lessL (ad j)).m a ∨ X a) fun z => z.elim (fun y => y.2 hb) fun y => E.xt j t h b hb y) w⟩
    · obtain ⟨w, h1, h2⟩ := E.im j e q
      exact ⟨w, h1, Rp.mono g1 _ _ h2⟩
  · rcases set_cases q with ⟨_, y, _⟩ | ⟨z, q⟩
    · cases y
    · obtain ⟨w, h1, h2⟩ := E.rd j e q
      exact ⟨w, h1, Rp.mono (hid_le fun a z => z.1) _ _ h2⟩
  · obtain ⟨z, q⟩ := wo j u q
    obtain ⟨h1, h2, x, h3, h4⟩ := E.ws j u q
    exact ⟨fun b hb => ⟨h1 b hb, E.dj j i z (own_ne q) (own_ne hi) b hb⟩, h2, x, h3, Ow.mono g1 _ _ _ (fun _ _ => rfl) h4⟩
  · rcases set_cases q with ⟨_, y, _⟩ | ⟨z, q⟩
    · cases y
    · exact E.xt j u q
  · rcases set_cases q with ⟨_, y, _⟩ | ⟨z, q⟩
    · cases y
    · obtain ⟨x, as, h1, h2, h3, h4⟩ := E.tq j u q
      exact ⟨x, as, h1, fun b hb => ⟨(h2 b hb).1, fun y => (h2 b hb).2 y.1⟩, h3, Ow.mono g1 _ _ _ (fun _ _ => rfl) h4⟩
  · obtain ⟨u1, h1⟩ := own_some h1
    obtain ⟨u2, h2⟩ := own_some h2
    exact E.dj j k hjk (own_ne (wo j u1 h1).2) (own_ne (wo k u2 h2).2)
  · obtain ⟨b, q, hc⟩ := pin_some q
    rcases set_cases q with ⟨_, y, _⟩ | ⟨z, q⟩
    · rcases hc with ⟨t, e, _⟩ | e <;> rw [e] at y <;> cases y
    · exact E.t0 j u (by rw [q]; rcases hc with ⟨t, rfl, rfl⟩ | rfl <;> rfl)
theorem ER.freeze (E : ER K X a0 H0 M ad σ H env) (h : env[i]? = some (.ow d)) : ER K X a0 H0 (M.lessL (ad i)) ad σ H (env.set i (.im d)) := by
  obtain ⟨_, _, v, _, w⟩ := E.ws i (Tr.of d) (by rw [h]; rfl)
  have := E.freezeT h
  rw [Tr.fr_of w] at this
  exact this
theorem sd_freezeT {t : Tr} (h : env[i]? = some (.tr t)) (k : SD K We ts (env.set i (.im t.fr)) o) : SD K We ts env o := fun X a0 H0 M ad σ H Dn E q => k X a0 H0 _ ad σ H Dn (E.freezeT h) q
theorem sd_freeze (h : env[i]? = some (.ow d)) (k : SD K We ts (env.set i (.im d)) o) : SD K We ts env o := fun X a0 H0 M ad σ H Dn E q => k X a0 H0 _ ad σ H Dn (E.freeze h) q
theorem gd {b : Bool} {u : Unit} (h : (if b = true then some () else none) = some u) : b = true := by
  cases b with
  | true => rfl
  | false => cases h
theorem gs_nil {vs : List V} {τ : St} {H : Hp} {R : St → Hp → Prop} (h : gNil vs τ H R) : vs.length = 0 := by rw [h.1]; rfl
theorem gs_cons {g : TG} {gs : TGs} {n : Nat} (hs : ∀ vs τ H (R : St → Hp → Prop), gs vs τ H R → vs.length = n) {vs : List V} {τ : St} {H : Hp} {R : St → Hp → Prop} (hm : ∀ v σ H (Q : St → Hp → Prop), g v σ H Q → ∃ σ' H', Q σ' H') (h : gCons g gs vs τ H R) : vs.length = n + 1 := by
  obtain ⟨v, r, rfl, q⟩ := h
  obtain ⟨σ', H', q⟩ := hm _ _ _ _ q
  rw [List.length_cons, hs _ _ _ _ q]
theorem gn_ex (i : Nat) : ∀ v σ H (Q : St → Hp → Prop), gName i v σ H Q → ∃ σ' H', Q σ' H' := fun v σ H Q q => ⟨_, _, q⟩
end
end Pw
/-! PwP: rules whose fragment is named. -/
namespace Pw
open PySem L2
section
variable {X : Cx} {K : PySem.W.Frag}
theorem ixTK (h : X.K = K) : IxR X (rIxT K) := h ▸ ix_tup
theorem ixLK (h : X.K = K) : IxR X (rIxL K) := h ▸ ix_list
theorem inK (h : X.K = K) : OpR X (compareOp .In) (rIn K false) := h ▸ op_in_seq
theorem notInK (h : X.K = K) : OpR X (compareOp .NotIn) (rIn K true) := h ▸ op_notIn_seq
theorem eqDK (h : X.K = K) (hu : X.A.units + 64 < cLine) : OpR X (compareOp .Eq) (rEqD K) := h ▸ op_eqD hu
theorem neDK (h : X.K = K) (hu : X.A.units + 64 < cLine) : OpR X (compareOp .NotEq) (rNeD K) := h ▸ op_neD hu
theorem gtDK (h : X.K = K) (hu : X.A.units + 64 < cLine) : OpR X (compareOp .Gt) (rGtD K) := h ▸ op_gtD hu
theorem ltDK (h : X.K = K) (hu : X.A.units + 64 < cLine) : OpR X (compareOp .Lt) (rLtD K) := h ▸ op_ltD hu
theorem repTK (h : X.K = K) : OpR X (binaryOp .Mult) (fun x y H Q => rRepT1 K x y H Q ∨ rRepT K x y H Q) := h ▸ op_repT1.or op_repT
theorem catLK (h : X.K = K) : OpR X (binaryOp .Add) (rCatL K) := h ▸ op_catL
theorem lenK (h : X.K = K) : CallR X (.builtin "len") (fun xs H Q => ∃ p ys, xs = [V.ref p] ∧ (SqL K H p ys ∨ SqT K H p ys) ∧ Q (.int ys.length) H) := h ▸ call_len_seq
theorem tupK (h : X.K = K) : CallR X (.type "tuple") (fun xs H Q => ∃ p ys, xs = [V.ref p] ∧ ((SqL K H p ys ∧ ∀ l, H l = none → Q (.ref l) (upd H l (.tup ys))) ∨ (SqT K H p ys ∧ Q (.ref p) H))) := h ▸ call_tuple_of
theorem isiK (h : X.K = K) : CallR X (.builtin "isinstance") (rIsi K) := h ▸ call_isi
theorem maxDK (h : X.K = K) (hc : X.calm = true) (hu : X.A.units + 64 < cLine) : CallR X (.builtin "max") (rMaxD K) := h ▸ cr_maxDt hc hu
theorem minDK (h : X.K = K) (hc : X.calm = true) (hu : X.A.units + 64 < cLine) : CallR X (.builtin "min") (rMinD K) := h ▸ cr_minDt hc hu
theorem sortDK (h : X.K = K) (hu : X.A.units + 64 < cLine) : CallR X (.builtin "sorted") (rSortD K) := h ▸ cr_sortDt hu
theorem slTK (h : X.K = K) : SlR X (rSlT K) := h ▸ sl_tup
theorem pgTupK {pos : Pos} {es : List Expr} {k : Nat} {t : TGs} {n : Nat} (h : X.K = K) (hc : X.calm = true) (g : PGs X es t) (h1 : (assignEach es X.env).length = n) (h2 : List.findIdx? (fun x => x.fst) (assignEach es X.env) = none) : PG X (Expr.Tuple es k pos) (gTup K n t) := h ▸ pg_tup hc g h1 h2
theorem ef_lcS2 {K : PySem.W.Frag} {env : List Bd} {l : Lv} {p : Bool} {te : TE} {α β S : Type} {f : S → α → Option (Option β × S)} {xs : List α} {s : S} {ys : List β × S} {en : α → D} {eb : β → D} {ev : S → List Bd} {vs : List Nat} {wi : TI} {g : TG} {tt : TT} (hs : compS f xs s = some ys) (hl : l.lp = true) (hi : EvI K l p wi env (ev s) (xs.map en)) (hw : TgW g vs) (han : ∀ v ∈ vs, (ev s)[v]? = some .an)
    (h : ∀ x s o s', f s x = some (o, s') → Turn K l p g tt te vs (en x) (ev s) (o.map eb) (ev s')) : EvF K p (tLc wi g tt te vs) env (ev ys.2) (.lst (ys.1.map eb)) :=
  ef_lcS hs hl hi hw han fun x s r => h x s r.1 r.2
theorem ef_ssetK {K : PySem.W.Frag} {env env' : List Bd} {p : Bool} {tsA : TA} {w : World} {Xc : Cx} {ns ms : List Int} (hs : ssetO ns = some ms) (h : EvA K .l2 p tsA env env' [.lst (ns.map .int)]) (hK : Xc.K = K) (hw : Xc.w = w) : EvF K p (tCB (rSortedSet w) (tCons (tCB (rSetLI Xc) tsA) tNil)) env env' (.lst (ms.map .int)) := by
  subst hK; subst hw
  exact ef_ssetT hs h
end
end Pw
/-! PwQ: tuples joined and cut, data compared, walks that are left or gone on with, items stored. -/
namespace Pw
open PySem L2 PySem.Spec PyProof.Rows
/-! ### t + u, whatever they hold -/
def rCatU (K : PySem.W.Frag) : R2 := fun x y H Q => ∃ a b xs ys, x = .ref a ∧ y = .ref b ∧ SqT K H a xs ∧ SqT K H b ys ∧ xs.length + ys.length ≤ sizeLine ∧
  (xs = [] → Q (.ref b) H) ∧ (xs ≠ [] → ys = [] → Q (.ref a) H) ∧ (xs ≠ [] → ys ≠ [] → ∀ p, H p = none → Q (.ref p) (upd H p (.tup (xs ++ ys))))
theorem op_catU {X : Cx} : OpR X (binaryOp .Add) (rCatU X.K) := by
  intro pins s σ H x y v u Q I rx ry h
  obtain ⟨a, b, xs, ys, rfl, rfl, ha, hb, hz, q0, q1, q2⟩ := h
  by_cases hx : xs = []
  · cases rx
    cases ry
    obtain ⟨its, r1, p1, _⟩ := I.tuple ha
    obtain ⟨its2, r2, p2, _⟩ := I.tuple hb
    obtain ⟨⟨cls, dd, data, sl⟩, ho, hc, n, hd⟩ := id p1
    obtain ⟨⟨cls2, dd2, data2, sl2⟩, ho2, hc2, n2, hd2⟩ := id p2
    simp only at hc hd hc2 hd2
    subst hc hd hc2 hd2
    exact concat_meets ⟨_, ho, rfl⟩ ⟨_, ho2, rfl⟩ noFill_tuple_add seq_tuple_add PySem.F.slot_tuple_add PySem.F.entry_tuple_add (PySem.F.args_tuple_add_2 _ _)
      (tuple_addW0 a b its.toArray its2.toArray n n2 dd dd2 sl sl2 (by rw [r1.nil_iff.mpr hx]; rfl)) ⟨ho, ho2, ⟨.ref b, H, I, rfl, q0 hx⟩⟩
  · exact op_catT pins s σ H (.ref a) (.ref b) v u Q I rx ry ⟨a, b, xs, ys, rfl, rfl, ha, hb, hx, hz, q1 hx, q2 hx⟩
section
variable {K : PySem.W.Frag} {We : WX} {X : Addr → Prop} {a0 : Addr} {H0 : Hp} {M : Msk} {ad : Nat → List Addr} {σ : L2.St} {H H' H1 : Hp} {env env' env'' : List Bd} {l l' : Lv} {p q : Bool} {d d' e : D} {ta tb te ti tx : TE} {t u : TT} {i j : Nat} {b c : Bool} {ts tu : TS} {o : Out} {Dn : Ends} {tsA : TA}
theorem ev_catU {ds es : List D} (hl : (l.st || q) = true) (h1 : EvD K l p ta env env' (.tup ds)) (h2 : EvD K l q tb env' env'' (.tup es)) (hn : ds.length + es.length ≤ 100000) : EvD K l (p && q) (tOp (rCatU K) ta tb) env env'' (.tup (ds ++ es)) := fun X a0 H0 M ad σ H Q E k =>
  h1 X a0 H0 M ad σ H _ E fun x H1 E1 e1 p1 r1 => h2 X a0 H0 M ad σ H1 _ E1 fun y H2 E2 e2 p2 r2 => by
    obtain ⟨a, xs, rfl, g1, g2⟩ := Rp.mono (keepL hl e2 p2) _ _ r1
    obtain ⟨b, ys, rfl, g3, g4⟩ := r2
    have e12 := seqE e1 e2
    have p12 := seqP p1 p2
    refine ⟨a, b, xs, ys, rfl, rfl, ex_s hid_all g1, ex_s hid_all g3, by rw [g2.length, g4.length]; exact Nat.le_trans hn (by decide), fun z => ?_, fun z1 z2 => ?_, fun z1 z2 c hc => ?_⟩
    · have : ds = [] := List.eq_nil_of_length_eq_zero (by rw [← g2.length, z]; rfl)
      subst this
      exact k _ H2 E2 e12 p12 ⟨b, ys, rfl, g3, g4⟩
    · have : es = [] := List.eq_nil_of_length_eq_zero (by rw [← g4.length, z2]; rfl)
      subst this
      rw [List.append_nil] at k
      exact k _ H2 E2 e12 p12 ⟨a, xs, rfl, g1, g2⟩
    · have g : Ex H2 (upd H2 c (.tup (xs ++ ys))) := Ex.new hc
      refine k _ _ (E2.grow g) (e12.trans (hid_ex g)) (fun z => (p12 z).trans g) ⟨c, _, rfl, ?_, RpL.mono (hid_ex g) _ _ (RpL.append g2 g4)⟩
      rw [hid_out (fresh_mk E2 hc), upd_same]
theorem ev_catUT {α : Type} {f : α → D} {xs ys zs : List α} (hs : catO xs ys = some zs) (h1 : EvD K l true ta env env (.tup (xs.map f))) (h2 : EvD K l true tb env env (.tup (ys.map f))) : EvD K l true (tOp (rCatU K) ta tb) env env (.tup (zs.map f)) := by
  unfold catO at hs
  by_cases hn : xs.length + ys.length ≤ 100000
  · rw [if_pos hn] at hs
    cases hs
    rw [List.map_append]
    exact ev_catU (p := true) (q := true) (Bool.or_true _) h1 h2 (by simpa using hn)
  · rw [if_neg hn] at hs; cases hs
theorem catUK {X : Cx} (h : X.K = K) : OpR X (binaryOp .Add) (rCatU K) := h ▸ op_catU
/-! ### t[:k], t[k:], not the whole -/
def takeO {α : Type} (xs : List α) (k : Int) : Option (List α) := if 0 ≤ k ∧ k < xs.length then some (xs.take k.toNat) else none
def dropO {α : Type} (xs : List α) (k : Int) : Option (List α) := if 1 ≤ k ∧ 1 ≤ xs.length then some (xs.drop k.toNat) else none
theorem ev_takeT {α : Type} {f : α → D} {xs ys : List α} {k : Int} (hs : takeO xs k = some ys) (h : EvD K l p te env env' (.tup (xs.map f))) (h2 : EvD K l true ti env' env' (.int k)) : EvD K l p (tSl (rSlT K) te tNoPart (tPart ti)) env env' (.tup (ys.map f)) := by
  unfold takeO at hs
  by_cases g : 0 ≤ k ∧ k < xs.length
  · rw [if_pos g] at hs
    cases hs
    obtain ⟨n, hn⟩ := Int.eq_ofNat_of_zero_le g.1
    subst hn
    have := ev_slT (m := n) h h2 (by have := g.2; simp; omega)
    rw [← List.map_take] at this
    exact this
  · rw [if_neg g] at hs; cases hs
theorem ev_dropT {α : Type} {f : α → D} {xs ys : List α} {k : Int} (hs : dropO xs k = some ys) (h : EvD K l p te env env' (.tup (xs.map f))) (h2 : EvD K l true ti env' env' (.int k)) : EvD K l p (tSl (rSlT K) te (tPart ti) tNoPart) env env' (.tup (ys.map f)) := fun X a0 H0 M ad σ H Q E kk => by
  unfold dropO at hs
  by_cases g : 1 ≤ k ∧ 1 ≤ xs.length
  · rw [if_pos g] at hs
    cases hs
    refine h X a0 H0 M ad σ H _ E fun x H1 E1 e1 p1 r1 => h2 X a0 H0 M ad σ H1 _ E1 fun y H2 E2 e2 p2 r2 => ?_
    obtain ⟨a, vs, rfl, h3, h4⟩ := r1
    have hl : vs.length = xs.length := by rw [h4.length, List.length_map]
    have e0 : HT.sIx vs.length 0 (some k) = min k.toNat vs.length := by
      unfold HT.sIx
      show (if k < 0 then _ else _) = _
      rw [if_neg (by omega)]
    have ec : cutV vs (some k) none = vs.drop k.toNat := by
      unfold cutV
      rw [HT.sIx_none, e0]
      by_cases c : k.toNat ≤ vs.length
      · rw [Nat.min_eq_left c]
        exact List.take_of_length_le (by rw [List.length_drop]; omega)
      · rw [Nat.min_eq_right (by omega), List.drop_eq_nil_of_le (as := vs) (i := k.toNat) (by omega), List.drop_length, List.take_nil]
    refine ⟨_, r2, a, vs, rfl, ex_s (hid_all.trans (p2 rfl)) h3, fun z => ?_, fun c hc => ?_⟩
    · have := z.1
      rw [e0] at this
      omega
    · rw [ec]
      have g : Ex H2 (upd H2 c (.tup (vs.drop k.toNat))) := Ex.new hc
      refine kk _ _ (E2.grow g) ((e1.trans e2).trans (hid_ex g)) (fun z => ((p1 z).trans (p2 rfl)).trans g) ⟨c, vs.drop k.toNat, rfl, ?_, ?_⟩
      · rw [hid_out (fresh_mk E2 hc), upd_same]
      · rw [List.map_drop]
        exact RpL.mono ((hid_ex (p2 rfl)).trans (hid_ex g)) _ _ (h4.drop k.toNat)
  · rw [if_neg g] at hs; cases hs
/-! ### data compared: equal when the values are -/
def Eqv {α : Type} (n : Nat) (f : α → D) : Prop := ∃ pd : α → PyData, (∀ x K H v, Rp K H (f x) v → Dp K H v (pd x)) ∧ (∀ x, (pd x).canLay0 = true ∧ (pd x).depth ≤ n) ∧ ∀ x y, PyData.eqv (pd x) (pd y) = true ↔ x = y
def EqvL {α : Type} (n : Nat) (f : α → List D) : Prop := ∃ pd : α → List PyData, (∀ x K H vs, RpL K H (f x) vs → DpAll K H vs (pd x)) ∧ (∀ x, PyData.canLayAll0 (pd x) = true ∧ PyData.depthAll (pd x) ≤ n) ∧ ∀ x y, PyData.eqvAll (pd x) (pd y) = true ↔ x = y
theorem eqv_int : Eqv 3 D.int := ⟨.int, fun x K H v h => by have h : v = V.int x := h; subst h; exact .int x, fun x => ⟨rfl, by simp [PyData.depth]⟩, fun x y => by simp [PyData.eqv]⟩
theorem eqv_bl : Eqv 3 D.bl := ⟨.bool, fun x K H v h => by have h : v = V.bl x := h; subst h; exact .bl x, fun x => ⟨rfl, by simp [PyData.depth]⟩, fun x y => by cases x <;> cases y <;> simp [PyData.eqv]⟩
theorem eqv_up {α : Type} {n m : Nat} {f : α → D} (h : n ≤ m) : Eqv n f → Eqv m f := fun ⟨pd, h1, h2, h3⟩ => ⟨pd, h1, fun x => ⟨(h2 x).1, Nat.le_trans (h2 x).2 h⟩, h3⟩
theorem eqv_optI : Eqv 3 (encO D.int) := ⟨fun o => match o with | none => .none | some i => .int i, fun x K H v h => by
    cases x with
    | none => have h : v = V.non := h; subst h; exact .non
    | some i => have h : v = V.int i := h; subst h; exact .int i,
  fun x => by cases x <;> exact ⟨rfl, by simp [PyData.depth]⟩, fun x y => by cases x <;> cases y <;> simp [PyData.eqv]⟩
theorem eql_one {α : Type} {n : Nat} {f : α → D} : Eqv n f → EqvL n fun x => [f x] := fun ⟨pd, h1, h2, h3⟩ =>
  ⟨fun x => [pd x], fun x K H vs h => by obtain ⟨v, r, e, q1, q2⟩ := h; subst e; have q2 : r = [] := q2; subst q2; exact .cons (h1 x K H v q1) .nil,
    fun x => ⟨by rw [PyData.canLayAll0, (h2 x).1]; rfl, by have := (h2 x).2; simp only [PyData.depthAll]; omega⟩, fun x y => by simp [PyData.eqvAll, h3 x y]⟩
theorem eql_cons {α β : Type} {n : Nat} {f : α → D} {g : β → List D} : Eqv n f → EqvL n g → EqvL n fun x : α × β => f x.1 :: g x.2 := fun ⟨pd, h1, h2, h3⟩ ⟨ps, g1, g2, g3⟩ =>
  ⟨fun x => pd x.1 :: ps x.2, fun x K H vs h => by obtain ⟨v, r, e, q1, q2⟩ := h; subst e; exact .cons (h1 x.1 K H v q1) (g1 x.2 K H r q2),
    fun x => ⟨by rw [PyData.canLayAll0, (h2 x.1).1, (g2 x.2).1]; rfl, by have := (h2 x.1).2; have := (g2 x.2).2; simp only [PyData.depthAll]; omega⟩,
    fun x y => by simp only [PyData.eqvAll, Bool.and_eq_true, h3, g3]; exact ⟨fun z => Prod.ext z.1 z.2, fun z => by rw [z]; exact ⟨rfl, rfl⟩⟩⟩
theorem eqv_map {α : Type} {n : Nat} {f : α → D} : Eqv n f → EqvL n fun xs : List α => xs.map f := fun ⟨pd, h1, h2, h3⟩ =>
  ⟨fun xs => xs.map pd, fun xs K H => by
      induction xs with
      | nil => intro vs h; have h : vs = [] := h; subst h; exact .nil
      | cons x xs ih => intro vs h; obtain ⟨v, r, e, q1, q2⟩ := h; subst e; exact .cons (h1 x K H v q1) (ih r q2),
    fun xs => by
      induction xs with
      | nil => exact ⟨rfl, by simp [PyData.depthAll]⟩
      | cons x xs ih =>
        have ih : PyData.canLayAll0 (xs.map pd) = true ∧ PyData.depthAll (xs.map pd) ≤ n := ih
        show PyData.canLayAll0 (pd x :: xs.map pd) = true ∧ PyData.depthAll (pd x :: xs.map pd) ≤ n
        exact ⟨by rw [PyData.canLayAll0, (h2 x).1, ih.1]; rfl, by have := (h2 x).2; have := ih.2; simp only [PyData.depthAll]; omega⟩,
    fun xs => by
      induction xs with
      | nil => intro ys; cases ys <;> simp [PyData.eqvAll]
      | cons x xs ih => intro ys; cases ys <;> simp [PyData.eqvAll, h3, ih]⟩
theorem eqv_tup {α : Type} {n : Nat} {f : α → List D} : EqvL n f → Eqv (n + 1) fun x => D.tup (f x) := fun ⟨ps, g1, g2, g3⟩ =>
  ⟨fun x => .tuple (ps x), fun x K H v h => by obtain ⟨a, xs, e, q1, q2⟩ := h; subst e; exact .tup (SqT.of q1) (g1 x K H xs q2), fun x => ⟨(g2 x).1, by have := (g2 x).2; simp only [PyData.depth]; omega⟩, fun x y => by simp only [PyData.eqv]; exact g3 x y⟩
theorem eqv_lst {α : Type} {n : Nat} {f : α → List D} : EqvL n f → Eqv (n + 1) fun x => D.lst (f x) := fun ⟨ps, g1, g2, g3⟩ =>
  ⟨fun x => .list (ps x), fun x K H v h => by obtain ⟨a, xs, e, q1, q2⟩ := h; subst e; exact .lst q1 (g1 x K H xs q2), fun x => ⟨(g2 x).1, by have := (g2 x).2; simp only [PyData.depth]; omega⟩, fun x y => by simp only [PyData.eqv]; exact g3 x y⟩
theorem rv_eqV {α : Type} [DecidableEq α] {f : α → D} {n : Nat} {x y : α} (h : Eqv n f) (hn : n ≤ 59) : RV K l l' (rEqD K) (f x) (f y) (.bl (decide (x = y))) := fun X a0 H0 M ad σ H env v w Q E rx ry k => by
  obtain ⟨pd, h1, h2, h3⟩ := h
  refine ⟨pd x, pd y, DpM hid_all (h1 x _ _ _ rx), DpM hid_all (h1 y _ _ _ ry), shaped_of (h2 x).1 (h2 x).2 (by omega), shaped_of (h2 y).1 (h2 y).2 (by omega), ?_⟩
  rw [show PyData.eqv (pd x) (pd y) = decide (x = y) by rw [Bool.eq_iff_iff, h3, decide_eq_true_iff]]
  exact k _ H E (Ex.refl _) rfl
theorem rv_neV {α : Type} [DecidableEq α] {f : α → D} {n : Nat} {x y : α} (h : Eqv n f) (hn : n ≤ 59) : RV K l l' (rNeD K) (f x) (f y) (.bl (!decide (x = y))) := fun X a0 H0 M ad σ H env v w Q E rx ry k => by
  obtain ⟨pd, h1, h2, h3⟩ := h
  refine ⟨pd x, pd y, DpM hid_all (h1 x _ _ _ rx), DpM hid_all (h1 y _ _ _ ry), shaped_of (h2 x).1 (h2 x).2 (by omega), shaped_of (h2 y).1 (h2 y).2 (by omega), ?_⟩
  rw [show PyData.eqv (pd x) (pd y) = decide (x = y) by rw [Bool.eq_iff_iff, h3, decide_eq_true_iff]]
  exact k _ H E (Ex.refl _) rfl
/-! ### max, min of two -/
theorem rc_max2 {m n : Int} : RC K l l' (fun xs H Q => ∃ i j, xs = [.int i, .int j] ∧ Q (.int (if j > i then j else i)) H) [.int m, .int n] (.int (if n > m then n else m)) := fun X a0 H0 M ad σ H env xs Q E r k => by
  obtain ⟨v, r1, e, q1, r2⟩ := r
  obtain ⟨w, r3, e2, q2, q3⟩ := r2
  subst e; subst e2
  have q1 : v = V.int m := q1
  have q2 : w = V.int n := q2
  have q3 : r3 = [] := q3
  subst q1; subst q2; subst q3
  exact ⟨m, n, rfl, k _ H E (Ex.refl _) rfl⟩
theorem rc_min2 {m n : Int} : RC K l l' (fun xs H Q => ∃ i j, xs = [.int i, .int j] ∧ Q (.int (if j < i then j else i)) H) [.int m, .int n] (.int (if n < m then n else m)) := fun X a0 H0 M ad σ H env xs Q E r k => by
  obtain ⟨v, r1, e, q1, r2⟩ := r
  obtain ⟨w, r3, e2, q2, q3⟩ := r2
  subst e; subst e2
  have q1 : v = V.int m := q1
  have q2 : w = V.int n := q2
  have q3 : r3 = [] := q3
  subst q1; subst q2; subst q3
  exact ⟨m, n, rfl, k _ H E (Ex.refl _) rfl⟩
end
/-! ### walks that are left, or gone on with -/
inductive Lp (S R : Type) | nx (s : S) | ct (s : S) | bk (s : S) | rt (r : R)
def foldP {α S R : Type} (f : S → α → Option (Lp S R)) : List α → S → Option (S ⊕ R)
  | [], s => some (.inl s)
  | x :: xs, s => (f s x).bind fun r => match r with
    | .nx s1 => foldP f xs s1
    | .ct s1 => foldP f xs s1
    | .bk s1 => some (.inl s1)
    | .rt r => some (.inr r)
def outP {S R : Type} (ev : S → List Bd) (fin : R → Out) : Lp S R → Out
  | .nx s => .nx (ev s)
  | .ct s => .ct (ev s)
  | .bk s => .bk (ev s)
  | .rt r => fin r
theorem loop_foldP {α S R : Type} {B : D → List Bd → Out → Prop} {f : S → α → Option (Lp S R)} {en : α → D} {ev : S → List Bd} {fin : R → Out} (hf : ∀ r, (fin r).ret = true)
    (h1 : ∀ x s z, f s x = some z → B (en x) (ev s) (outP ev fin z)) : ∀ (xs : List α) s z, foldP f xs s = some z → Loop B (xs.map en) (ev s) (outZ ev fin z)
  | [], s, z, q => by
    have q : some (Sum.inl s) = some z := q
    cases q; rfl
  | x :: xs, s, z, q => by
    obtain ⟨w, hw, q⟩ := Option.bind_eq_some_iff.mp q
    have hb := h1 x s _ hw
    cases w with
    | nx s1 => exact .inl ⟨ev s1, .inl hb, loop_foldP hf h1 xs s1 z q⟩
    | ct s1 => exact .inl ⟨ev s1, .inr hb, loop_foldP hf h1 xs s1 z q⟩
    | bk s1 =>
      have q : some (Sum.inl s1) = some z := q
      cases q
      exact .inr (.inl ⟨ev s1, hb, rfl⟩)
    | rt r =>
      have q : some (Sum.inr r) = some z := q
      cases q
      exact .inr (.inr ⟨hf r, hb⟩)
def whileP {S R : Type} (c : S → Option Bool) (f : S → Option (Lp S R)) : Nat → S → Option (S ⊕ R)
  | 0, _ => none
  | n + 1, s => (c s).bind fun b => if b = true then (f s).bind fun r => (match r with
    | .nx s1 => whileP c f n s1
    | .ct s1 => whileP c f n s1
    | .bk s1 => some (.inl s1)
    | .rt r => some (.inr r)) else some (.inl s)
theorem wloopP {S R : Type} {C : List Bd → List Bd → Bool → Prop} {B : List Bd → Out → Prop} {c : S → Option Bool} {f : S → Option (Lp S R)} {ev : S → List Bd} {fin : R → Out} (hr : ∀ r, (fin r).ret = true)
    (hc : ∀ s b, c s = some b → C (ev s) (ev s) b) (hf : ∀ s z, c s = some true → f s = some z → B (ev s) (outP ev fin z)) :
    ∀ (n : Nat) s z, whileP c f n s = some z → WLoop C B n (ev s) (outZ ev fin z)
  | 0, s, z, q => by cases q
  | n + 1, s, z, q => by
    obtain ⟨b, hb, q⟩ := Option.bind_eq_some_iff.mp q
    cases b with
    | true =>
      rw [if_pos rfl] at q
      obtain ⟨w, h1, q⟩ := Option.bind_eq_some_iff.mp q
      have hB := hf s w hb h1
      refine ⟨ev s, true, hc s _ hb, (fun z => by cases z), fun _ => ?_⟩
      cases w with
      | nx s1 => exact .inl ⟨ev s1, .inl hB, wloopP hr hc hf n s1 z q⟩
      | ct s1 => exact .inl ⟨ev s1, .inr hB, wloopP hr hc hf n s1 z q⟩
      | bk s1 =>
        have q : some (Sum.inl s1) = some z := q
        cases q
        exact .inr (.inl ⟨ev s1, hB, rfl⟩)
      | rt r =>
        have q : some (Sum.inr r) = some z := q
        cases q
        exact .inr (.inr ⟨hr r, hB⟩)
    | false =>
      rw [if_neg Bool.false_ne_true] at q
      cases q
      exact ⟨ev s, false, hc s _ hb, fun _ => rfl, (fun z => by cases z)⟩
section
variable {K : PySem.W.Frag} {We : WX} {env env' env2 : List Bd} {ts : TS}
theorem sd_contE (vs : List Nat) (hv : (vs.all fun v => !isMu env[v]?) = true) (e : wipeE env vs = env2) : SD K We tCont env (.ct env2) := sd_contW vs hv e
theorem sd_breakE (vs : List Nat) (hv : (vs.all fun v => !isMu env[v]?) = true) (e : wipeE env vs = env2) : SD K We tBreak env (.bk env2) := by
  refine sd_wp vs hv ?_
  rw [e]
  exact sd_break
end
end Pw
/-! PwR: a tuple made zero times; truth values compared; items of own lists stored. -/
namespace Pw
open PySem L2 PySem.Spec PyProof.Rows
open AutoSeq1 (wpAny_loadPart') in
theorem tup_mul_zero (l : Addr) (items : Array Value) (n : Nat) (dd : Option Addr) (sl : Array (Option Value)) (u : Tok) (hi : items.isEmpty = false) :
    Meets (Builtin.«tuple.__mul__» ⟨[.ref l, .int 0 u], []⟩) (fun _ R s => s.heap.get? l = some { cls := .type "tuple", dict := dd, data := .seq items n, slots := sl } ∧ R (.ok (.ret (Value.ref s.heap.objs.size))) { s with heap := s.heap.push { cls := Value.type "tuple", data := Data.seq #[] }, toks := s.toks }) :=
  .of_wp fun prog w A R s h => by
    obtain ⟨hp, g, d, tk, os⟩ := s
    obtain ⟨hl, h⟩ := h
    have f1 := AutoSeq1.idx_int
    have c1 : (items.isEmpty || (0 : Int) == 1) = false := by rw [hi]; rfl
    wp_walk using wpAny_loadPart' hl
    repeat (first
      | (refine wpAny_ite_false (decide_eq_false (by rw [c1]; exact Bool.false_ne_true)) ?_; wp_walk using wpAny_loadPart' hl)
      | (refine wpAny_ite_false (by decide) ?_; wp_walk using wpAny_loadPart' hl)
      | (refine wpAny_ite_true (by simp) ?_; wp_walk using wpAny_loadPart' hl))
    exact ⟨_, rfl, h⟩
def rRepT0 (K : PySem.W.Frag) : R2 := fun x y H Q => ∃ l xs, x = .ref l ∧ y = .int 0 ∧ SqT K H l xs ∧ xs ≠ [] ∧ ∀ p, H p = none → Q (.ref p) (upd H p (.tup []))
theorem op_repT0 {X : Cx} : OpR X (binaryOp .Mult) (rRepT0 X.K) := by
  intro pins s σ H x y v u Q I rx ry h
  obtain ⟨l, xs, rfl, rfl, hT, hne, q⟩ := h
  cases rx
  obtain ⟨t, rfl⟩ := ry
  obtain ⟨its, r, ⟨⟨cls, dd, data, sl⟩, ho, hc, n, hd⟩, hs⟩ := I.tuple hT
  simp only at hc hd
  subst hc hd
  have hn : its ≠ [] := fun e => hne (r.nil_iff.mp e)
  refine wpAny_binaryOp_repeat_ref (T := "tuple") (U := "int") (by decide) ⟨_, ho, rfl⟩ (fun s' => typeIs_int s' 0 t) noFill_tuple_mul F.fills_int_mul F.slot_int_rmul repeat_tuple F.slot_int_index.lookup ?_
  refine call_meets F.slot_int_rmul (typeIs_int s 0 t) F.entry_int_rmul (F.args_int_rmul_2 _ _) (int_rmul_tuple 0 t l its.toArray n dd sl) ⟨ho, rfl, ⟨_, ho, rfl⟩, ?_⟩
  refine call_meets F.slot_tuple_mul ⟨_, ho, rfl⟩ F.entry_tuple_mul (F.args_tuple_mul_2 _ _) (tup_mul_zero l its.toArray n dd sl t (by cases its with | nil => exact absurd rfl hn | cons a b => rfl)) ⟨ho, ?_⟩
  refine ⟨.ref s.heap.objs.size, _, I.laid (t' := s.toks) (o := .tup []) (fun b ob q => Heap.get?_push_of_some _ q) (Nat.le_refl _) ?_, rfl, q _ (I.hok.fresh (Nat.le_refl _))⟩
  exact ⟨Nat.zero_le _, [], .nil, IsTup.new _ _⟩
def rRepU (K : PySem.W.Frag) : R2 := fun x y H Q => rRepT0 K x y H Q ∨ rRepT1 K x y H Q ∨ rRepT K x y H Q
theorem repUK {X : Cx} {K : PySem.W.Frag} (h : X.K = K) : OpR X (binaryOp .Mult) (rRepU K) := h ▸ op_repT0.or (op_repT1.or op_repT)
section
variable {K : PySem.W.Frag} {We : WX} {env env' env'' : List Bd} {l l' : Lv} {p q : Bool} {d d' e : D} {ta tb te ti : TE} {i j : Nat} {ts tu : TS} {o : Out}
theorem ev_repU {α : Type} {f : α → D} {xs : List α} {n : Int} (h : EvD K l p ta env env' (.tup (xs.map f))) (h2 : EvD K l true tb env' env' (.int n)) (hn : 0 ≤ n ∧ n ≤ 1000) (hx : xs ≠ []) (hl : xs.length ≤ 1000) :
    EvD K l p (tOp (rRepU K) ta tb) env env' (.tup ((List.replicate n.toNat xs).flatten.map f)) := by
  by_cases e : n = 0
  · subst e
    intro X a0 H0 M ad σ H Q E k
    refine h X a0 H0 M ad σ H _ E fun x H1 E1 e1 p1 r1 => h2 X a0 H0 M ad σ H1 _ E1 fun y H2 E2 e2 p2 r2 => ?_
    obtain ⟨a, ys, rfl, g1, g2⟩ := r1
    have r2 : y = V.int 0 := r2
    subst r2
    have hl2 : ys.length = xs.length := by rw [g2.length, List.length_map]
    refine .inl ⟨a, ys, rfl, rfl, ex_s (hid_all.trans (p2 rfl)) g1, fun z => hx (List.eq_nil_of_length_eq_zero (by rw [← hl2, z]; rfl)), fun c hc => ?_⟩
    have g : Ex H2 (upd H2 c (.tup [])) := Ex.new hc
    refine k _ _ (E2.grow g) ((e1.trans e2).trans (hid_ex g)) (fun z => ((p1 z).trans (p2 rfl)).trans g) ⟨c, [], rfl, ?_, rfl⟩
    rw [hid_out (fresh_mk E2 hc), upd_same]
  · intro X a0 H0 M ad σ H Q E k
    refine h X a0 H0 M ad σ H _ E fun x H1 E1 e1 p1 r1 => h2 X a0 H0 M ad σ H1 _ E1 fun y H2 E2 e2 p2 r2 => ?_
    obtain ⟨a, ys, rfl, g1, g2⟩ := r1
    have r2 : y = V.int n := r2
    subst r2
    have hl2 : ys.length = xs.length := by rw [g2.length, List.length_map]
    have g1' : SqT K H2 a ys := ex_s (hid_all.trans (p2 rfl)) g1
    by_cases e1' : n = 1
    · subst e1'
      refine .inr (.inl ⟨a, ys, rfl, rfl, g1', k _ H2 E2 (e1.trans e2) (fun z => (p1 z).trans (p2 rfl)) ?_⟩)
      have : (List.replicate (1 : Int).toNat xs).flatten = xs := by simp
      rw [this]
      exact ⟨a, ys, rfl, hid_ex (p2 rfl) _ _ g1, RpL.mono (hid_ex (p2 rfl)) _ _ g2⟩
    · refine .inr (.inr ⟨a, n, ys, rfl, rfl, g1', fun z => hx (List.eq_nil_of_length_eq_zero (by rw [← hl2, z]; rfl)), by omega, hn.2, by omega, fun c hc => ?_⟩)
      have g : Ex H2 (upd H2 c (.tup (List.replicate n.toNat ys).flatten)) := Ex.new hc
      refine k _ _ (E2.grow g) ((e1.trans e2).trans (hid_ex g)) (fun z => ((p1 z).trans (p2 rfl)).trans g) ⟨c, (List.replicate n.toNat ys).flatten, rfl, ?_, ?_⟩
      · rw [hid_out (fresh_mk E2 hc), upd_same]
      · have g3 : RpL K (hid (mk l M X) (upd H2 c (.tup (List.replicate n.toNat ys).flatten))) (xs.map f) ys := RpL.mono ((hid_ex (p2 rfl)).trans (hid_ex g)) _ _ g2
        revert g3
        generalize hid (mk l M X) (upd H2 c (HO.tup (List.replicate n.toNat ys).flatten)) = HH
        intro g3
        generalize n.toNat = m
        clear g k
        induction m with
        | zero => exact rfl
        | succ m ih =>
          rw [List.replicate_succ, List.replicate_succ, List.flatten_cons, List.flatten_cons, List.map_append]
          exact RpL.append g3 ih
theorem rv_eqB {b c : Bool} : RV K l l' rEq (.bl b) (.bl c) (.bl (decide (b = c))) := fun X a0 H0 M ad σ H env x y Q E rx ry k => by
  have rx : x = V.bl b := rx
  have ry : y = V.bl c := ry
  subst rx ry
  exact ⟨rfl, k _ H E (Ex.refl _) (by show V.bl _ = V.bl _; rw [decide_eq_decide.mpr]; exact ⟨fun h => by injection h, fun h => by rw [h]⟩)⟩
theorem rv_neB {b c : Bool} : RV K l l' rNe (.bl b) (.bl c) (.bl (!decide (b = c))) := fun X a0 H0 M ad σ H env x y Q E rx ry k => by
  have rx : x = V.bl b := rx
  have ry : y = V.bl c := ry
  subst rx ry
  exact ⟨rfl, k _ H E (Ex.refl _) (by show V.bl (!_) = V.bl (!_); rw [decide_eq_decide.mpr]; exact ⟨fun h => by injection h, fun h => by rw [h]⟩)⟩
theorem rv_notNT {x : Option Int} : RV K l l' (fun x y H Q => y = .non ∧ Q (.bl (!decide (x = .non))) H) (encO D.int x) .non (.bl (!x.isNone)) := by
  have := rv_notN (K := K) (l := l) (l' := l') (d := encO D.int x)
  cases x <;> exact this
theorem sd_setOwT {α : Type} {f : α → D} {xs : List α} {v : α} {n : Int} (hj : ixN xs.length n = some j) (h : env''[i]? = some (.ow (.lst (xs.map f)))) (h0 : env'[i]? = some (.ow (.lst (xs.map f)))) (he : EvD K .l2 p te env env' (f v)) (hi : EvD K .l2 true ti env' env'' (.int n)) :
    SD K We (tAsg te (gSub (tVar i) ti rSetL)) env (.nx (env''.set i (.ow (.lst ((xs.set j v).map f))))) := by
  have := sd_setOw (We := We) h h0 he hi (by rw [List.length_map]; exact hj)
  rw [List.map_set]
  exact this
theorem piListK {X : Cx} {tg l : Expr} {tl : TE} (h : X.K = K) (g : PE X l tl) : PI X tg l (iList K tl) := h ▸ pi_list g
theorem piTupK {X : Cx} {tg l : Expr} {tl : TE} (h : X.K = K) (g : PE X l tl) : PI X tg l (iTup K tl) := h ▸ pi_tup g
end
end Pw
/-! PwS: dicts whose keys are tuples that stand somewhere; membership. -/
namespace Pw
open PySem L2
section
variable {K : PySem.W.Frag} {We : WX} {X : Addr → Prop} {a0 : Addr} {H0 : Hp} {M : Msk} {ad : Nat → List Addr} {σ : L2.St} {H H' H1 : Hp} {env env' env'' : List Bd} {l l' : Lv} {p q : Bool} {d d' e : D} {ta tb te ti tx : TE} {i j : Nat} {b c : Bool} {ts tu : TS} {o : Out} {Dn : Ends} {tsA : TA}
theorem keyT {ns : List Int} {v : V} {B : Hp} (h : Rp K B (.tup (ns.map .int)) v) : ∃ b, v = .ref b ∧ B b = some (.tup ((ns.map Sum.inl : List Key).map kV)) := by
  obtain ⟨b, xs, rfl, h1, h2⟩ := h
  refine ⟨b, rfl, ?_⟩
  rw [h1, h2.ints, List.map_map]
  rfl
theorem ev_dgetV {l1 : List (List Key × D)} {ns : List Int} (h : EvD K l p ta env env' (dtL l1)) (hi : EvD K l' true ti env' env' (.tup (ns.map .int))) (hg : getA l1 (ns.map Sum.inl) = some d) : EvD K l p (tDGet ta ti) env env' d := fun X a0 H0 M ad σ H Q E k =>
  h X a0 H0 M ad σ H _ E fun x H1 E1 e1 p1 r1 => hi X a0 H0 M ad σ H1 _ E1 fun y H2 E2 e2 p2 r2 => by
    obtain ⟨a, xs, rfl, g1, _, g2⟩ := r1
    obtain ⟨v, q1, q2⟩ := (rpk_get (rpk_of g2)).1 d hg
    obtain ⟨b, rfl, hb⟩ := keyT r2
    exact ⟨a, v, rfl, .inr ⟨_, ns.map Sum.inl, b, ex_rd (hid_all.trans (p2 rfl)) g1, rfl, hid_all _ _ hb, q1.symm⟩, k v _ E2 (e1.trans e2) (fun z => (p1 z).trans (p2 rfl)) (Rp.mono (hid_ex (p2 rfl)) _ _ q2)⟩
theorem ev_dgetVt {α : Type} {f : α → D} {l1 : List (List Int × α)} {ns : List Int} {v : α} (hg : getA l1 ns = some v) (h : EvD K l p ta env env' (dtL (l1.map fun z => ((z.1.map Sum.inl : List Key), f z.2)))) (hi : EvD K l' true ti env' env' (.tup (ns.map .int))) : EvD K l p (tDGet ta ti) env env' (f v) :=
  ev_dgetV h hi (by rw [getA_map (fun z : List Int => (z.map Sum.inl : List Key)) f inls_inj, hg]; rfl)
theorem isSome_of {κ : Type} [DecidableEq κ] {k : κ} {kvs : List (κ × V)} {l1 : List (κ × D)} (h : RpK K H kvs l1) : (valV kvs k).isSome = (getA l1 k).isSome := by
  have := rpk_get (k := k) h
  cases g : getA l1 k with
  | none => rw [this.2 g]; rfl
  | some d => obtain ⟨v, q, _⟩ := this.1 d g; rw [q]; rfl
theorem ev_dinV {l1 : List (List Key × D)} {ns : List Int} (hi : EvD K l true ti env env (.tup (ns.map .int))) (h : EvD K l' true ta env env (dtL l1)) : EvD K l p (tDIn ti ta) env env (.bl (getA l1 (ns.map Sum.inl : List Key)).isSome) := ev_p fun X a0 H0 M ad σ H Q E k =>
  hi X a0 H0 M ad σ H _ E fun y H1 E1 e1 p1 r1 => h X a0 H0 M ad σ H1 _ E1 fun x H2 E2 e2 p2 r2 => by
    obtain ⟨a, xs, rfl, g1, _, g2⟩ := r2
    obtain ⟨b, rfl, hb⟩ := keyT r1
    refine ⟨a, _, rfl, .inr ⟨_, ns.map Sum.inl, b, ex_rd hid_all g1, rfl, (p2 rfl) _ _ (hid_all _ _ hb), rfl⟩, ?_⟩
    exact k _ H2 E2 (e1.trans e2) (fun z => (p1 z).trans (p2 z)) (by rw [← isSome_of (rpk_of g2)]; rfl)
theorem ev_dinVt {α : Type} {f : α → D} {l1 : List (List Int × α)} {ns : List Int} (hi : EvD K l true ti env env (.tup (ns.map .int))) (h : EvD K l' true ta env env (dtL (l1.map fun z => ((z.1.map Sum.inl : List Key), f z.2)))) : EvD K l p (tDIn ti ta) env env (.bl (getA l1 ns).isSome) := by
  have := ev_dinV (p := p) hi h
  rw [getA_map (fun z : List Int => (z.map Sum.inl : List Key)) f inls_inj, Option.isSome_map] at this
  exact this
theorem ev_dinK {l1 : List (Key × D)} {n : Int} (hi : EvD K l true ti env env (.int n)) (h : EvD K l' true ta env env (dkL l1)) : EvD K l p (tDIn ti ta) env env (.bl (getA l1 (Sum.inl n : Key)).isSome) := ev_p fun X a0 H0 M ad σ H Q E k =>
  hi X a0 H0 M ad σ H _ E fun y H1 E1 e1 p1 r1 => h X a0 H0 M ad σ H1 _ E1 fun x H2 E2 e2 p2 r2 => by
    obtain ⟨a, xs, rfl, g1, _, g2⟩ := r2
    have r1 : y = V.int n := r1
    subst r1
    refine ⟨a, _, rfl, .inl ⟨_, Sum.inl n, ex_rd hid_all g1, rfl, rfl⟩, ?_⟩
    exact k _ H2 E2 (e1.trans e2) (fun z => (p1 z).trans (p2 z)) (by rw [← isSome_of (rpk_of g2)]; rfl)
theorem ev_dinKt {α : Type} {f : α → D} {l1 : List (Int × α)} {n : Int} (hi : EvD K l true ti env env (.int n)) (h : EvD K l' true ta env env (dkL (l1.map fun z => ((Sum.inl z.1 : Key), f z.2)))) : EvD K l p (tDIn ti ta) env env (.bl (getA l1 n).isSome) := by
  have := ev_dinK (p := p) hi h
  rw [getA_map Sum.inl f inl_inj, Option.isSome_map] at this
  exact this
theorem sd_dputV {l1 : List (List Key × D)} {ns : List Int} (h : env'[i]? = some (.ow (dtL l1))) (he : EvD K .l2 p te env env' d) (hi : EvD K .l2 true ti env' env' (.tup (ns.map .int))) (hn : l1.length < 100000) : SD K We (sDPut (tVar i) ti te) env (.nx (env'.set i (.ow (dtL (putA l1 (ns.map Sum.inl) d))))) := fun X a0 H0 M ad σ H Dn E k =>
  he X a0 H0 M ad σ H _ E fun v H1 E1 _ _ r => by
    obtain ⟨_, h2, _⟩ := E1.ow i _ h
    refine ⟨_, h2, hi X a0 H0 M ad σ H1 _ E1 fun y H2 E2 e2 p2 r2 => ?_⟩
    obtain ⟨b, rfl, hb⟩ := keyT r2
    obtain ⟨_, _, xs, h4, h0, h5⟩ := E2.ow i _ h
    have hp := rpk_of h5
    have hz : (((l1.map (·.1)).zip xs : List (List Key × V))).length < sizeLine := by rw [rpk_len hp]; exact Nat.lt_of_lt_of_le hn (by decide)
    obtain ⟨zs, z1, z2⟩ := of_rpk (rpk_put (k := (ns.map Sum.inl : List Key)) (Rp.mono (hid_ex (p2 rfl)) _ _ r) hp)
    refine ⟨rt ad i, _, rfl, DPut.t (k := ns.map Sum.inl) h4 (hid_all _ _ hb) hz, k M ad σ _ (E2.cellOw h ⟨zs, ?_, by simp, z2⟩)⟩
    rw [upd_same, z1]
theorem sd_dputVt {α : Type} {f : α → D} {l1 : List (List Int × α)} {ns : List Int} {v : α} (h : env'[i]? = some (.ow (dtL (l1.map fun z => ((z.1.map Sum.inl : List Key), f z.2))))) (he : EvD K .l2 p te env env' (f v)) (hi : EvD K .l2 true ti env' env' (.tup (ns.map .int))) (hn : l1.length < 100000) : SD K We (sDPut (tVar i) ti te) env (.nx (env'.set i (.ow (dtL ((putA l1 ns v).map fun z => ((z.1.map Sum.inl : List Key), f z.2)))))) := by
  have := sd_dputV (We := We) h he hi (by simpa using hn)
  rw [putA_map (fun z : List Int => (z.map Sum.inl : List Key)) f inls_inj] at this
  exact this
theorem rv_isNG {α : Type} {f : α → D} {x : Option α} (hf : ∀ a, isN (f a) = false) : RV K l l' (fun x y H Q => y = .non ∧ Q (.bl (decide (x = .non))) H) (encO f x) .non (.bl x.isNone) := by
  have := rv_isN (K := K) (l := l) (l' := l') (d := encO f x)
  cases x with
  | none => exact this
  | some a =>
    have e : isN (encO f (some a)) = false := hf a
    rw [e] at this
    exact this
theorem rv_notNG {α : Type} {f : α → D} {x : Option α} (hf : ∀ a, isN (f a) = false) : RV K l l' (fun x y H Q => y = .non ∧ Q (.bl (!decide (x = .non))) H) (encO f x) .non (.bl (!x.isNone)) := by
  have := rv_notN (K := K) (l := l) (l' := l') (d := encO f x)
  cases x with
  | none => exact this
  | some a =>
    have e : isN (encO f (some a)) = false := hf a
    rw [e] at this
    exact this
theorem rpl_rep {B : Hp} {ds : List D} {xs : List V} (h : RpL K B ds xs) : ∀ m : Nat, RpL K B (List.replicate m ds).flatten (List.replicate m xs).flatten
  | 0 => rfl
  | m + 1 => by
    rw [List.replicate_succ, List.replicate_succ, List.flatten_cons, List.flatten_cons]
    exact RpL.append h (rpl_rep h m)
/-- [x, ..] * n, the list new -/
theorem ef_repL {ds : List D} {n : Int} (h : EvF K true ta env env (.lst ds)) (h2 : EvD K .l2 true tb env env (.int n)) (hn : 0 ≤ n ∧ n ≤ 1000) (hl : ds.length ≤ 1000) : EvF K true (tOp rRep ta tb) env env (.lst (List.replicate n.toNat ds).flatten) := fun X a0 H0 M ad σ H Q E k =>
  h X a0 H0 M ad σ H _ E fun a H1 H' h0 hs E1 g e1 p1 rc => h2 X a0 H0 M ad σ H' _ (E1.grow g) fun y H2 E2 e2 p2 r2 => by
    have r2 : y = V.int n := r2
    subst r2
    obtain ⟨xs, hx, hr⟩ := rc
    have p2 := p2 rfl
    have hx2 : H2 a = some (.lst xs) := p2 _ _ hx
    have hlen : xs.length = ds.length := hr.length
    refine ⟨a, n, xs, rfl, rfl, hx2, by omega, by omega, ?_, fun c hc => ?_⟩
    · rw [hlen]
      exact Nat.le_trans (Nat.mul_le_mul hl (show n.toNat ≤ 1000 by omega)) (by decide)
    · have p3 : Ex H H2 := ((p1 rfl).trans g).trans p2
      refine k c H2 _ hc (fun b o q => by rw [p3 b o q]; simp) E2 (Ex.new hc) (hid_ex p3) (fun _ => p3) ⟨_, upd_same, rpl_rep (RpL.mono (hid_ex (g.trans p2)) _ _ hr) _⟩
theorem ef_repLT {α : Type} {f : α → D} {xs : List α} {n : Int} (h : EvF K true ta env env (.lst (xs.map f))) (h2 : EvD K .l2 true tb env env (.int n)) (hn : 0 ≤ n ∧ n ≤ 1000) (hl : xs.length ≤ 1000) : EvF K true (tOp rRep ta tb) env env (.lst ((List.replicate n.toNat xs).flatten.map f)) := by
  have := ef_repL h h2 hn (by rw [List.length_map]; exact hl)
  rw [List.map_flatten, List.map_replicate]
  exact this
end
end Pw
/-! PwT: the least and the greatest of data of one shape, by the library's own order. -/
namespace Pw
open PySem L2
structure OrdD {α : Type} (n : Nat) (f : α → D) (pd : α → PyData) : Prop where
  rep : ∀ x K H v, Rp K H (f x) v → Dp K H v (pd x)
  lay : ∀ x, (pd x).canLay0 = true
  dep : ∀ x, (pd x).depth ≤ n
  alk : ∀ x y, PySem.W.alike (pd x) (pd y) = true
  inj : ∀ x y, pd x = pd y → x = y
  non : ∀ x, pd x ≠ .none
structure OrdL {α : Type} (n : Nat) (f : α → List D) (pd : α → List PyData) : Prop where
  rep : ∀ x K H vs, RpL K H (f x) vs → DpAll K H vs (pd x)
  lay : ∀ x, PyData.canLayAll0 (pd x) = true
  dep : ∀ x, PyData.depthAll (pd x) ≤ n
  alk : ∀ x y, PySem.W.alikeAll (pd x) (pd y) = true
  inj : ∀ x y, pd x = pd y → x = y
theorem ord_int : OrdD 3 D.int PyData.int := ⟨fun x K H v h => by have h : v = V.int x := h; subst h; exact .int x, fun _ => rfl, fun _ => by simp [PyData.depth], fun _ _ => by simp [PySem.W.alike], fun x y h => by injection h, fun x h => by cases h⟩
theorem ord_up {α : Type} {n m : Nat} {f : α → D} {pd : α → PyData} (h : n ≤ m) (o : OrdD n f pd) : OrdD m f pd := ⟨o.rep, o.lay, fun x => Nat.le_trans (o.dep x) h, o.alk, o.inj, o.non⟩
theorem orl_one {α : Type} {n : Nat} {f : α → D} {pd : α → PyData} (o : OrdD n f pd) : OrdL n (fun x => [f x]) fun x => [pd x] :=
  ⟨fun x K H vs h => by obtain ⟨v, r, e, q1, q2⟩ := h; subst e; have q2 : r = [] := q2; subst q2; exact .cons (o.rep x K H v q1) .nil,
    fun x => by rw [PyData.canLayAll0, o.lay x]; rfl, fun x => by have := o.dep x; simp only [PyData.depthAll]; omega, fun x y => by simp [PySem.W.alikeAll, o.alk x y], fun x y h => o.inj x y (by injection h)⟩
theorem orl_cons {α β : Type} {n : Nat} {f : α → D} {pd : α → PyData} {g : β → List D} {ps : β → List PyData} (o : OrdD n f pd) (s : OrdL n g ps) : OrdL n (fun x : α × β => f x.1 :: g x.2) fun x : α × β => pd x.1 :: ps x.2 :=
  ⟨fun x K H vs h => by obtain ⟨v, r, e, q1, q2⟩ := h; subst e; exact .cons (o.rep x.1 K H v q1) (s.rep x.2 K H r q2),
    fun x => by rw [PyData.canLayAll0, o.lay x.1, s.lay x.2]; rfl, fun x => by have := o.dep x.1; have := s.dep x.2; simp only [PyData.depthAll]; omega,
    fun x y => by simp [PySem.W.alikeAll, o.alk x.1 y.1, s.alk x.2 y.2], fun x y h => by injection h with h1 h2; exact Prod.ext (o.inj _ _ h1) (s.inj _ _ h2)⟩
theorem ord_tup {α : Type} {n : Nat} {f : α → List D} {pd : α → List PyData} (s : OrdL n f pd) : OrdD (n + 1) (fun x => D.tup (f x)) fun x => PyData.tuple (pd x) :=
  ⟨fun x K H v h => by obtain ⟨a, xs, e, q1, q2⟩ := h; subst e; exact .tup (SqT.of q1) (s.rep x K H xs q2), fun x => s.lay x, fun x => by have := s.dep x; simp only [PyData.depth]; omega,
    fun x y => by simp only [PySem.W.alike]; exact s.alk x y, fun x y h => s.inj x y (by injection h), fun x h => by cases h⟩
def minW {α : Type} (pd : α → PyData) : List α → Option α
  | [] => none
  | x :: r => some (r.foldl (fun a y => if PySem.W.dataLt (pd y) (pd a) = true then y else a) x)
def maxW {α : Type} (pd : α → PyData) : List α → Option α
  | [] => none
  | x :: r => some (r.foldl (fun a y => if PySem.W.dataLt (pd a) (pd y) = true then y else a) x)
theorem minW_mem {α : Type} {pd : α → PyData} {xs : List α} {m : α} (h : minW pd xs = some m) : m ∈ xs := by
  cases xs with
  | nil => cases h
  | cons x r =>
    have h : some (r.foldl (fun a y => if PySem.W.dataLt (pd y) (pd a) = true then y else a) x) = some m := h
    cases h
    suffices ∀ (r : List α) (x : α), r.foldl (fun a y => if PySem.W.dataLt (pd y) (pd a) = true then y else a) x ∈ x :: r from this r x
    intro r
    induction r with
    | nil => exact fun x => List.mem_cons_self ..
    | cons y r ih =>
      intro x
      rw [List.foldl_cons]
      cases List.mem_cons.mp (ih (if PySem.W.dataLt (pd y) (pd x) = true then y else x)) with
      | inl z =>
        rw [z]
        split <;> simp
      | inr z => exact List.mem_cons_of_mem _ (List.mem_cons_of_mem _ z)
section
variable {K : PySem.W.Frag} {We : WX} {X : Addr → Prop} {a0 : Addr} {H0 : Hp} {M : Msk} {ad : Nat → List Addr} {σ : L2.St} {H : Hp} {env : List Bd} {l : Lv} {i : Nat} {α : Type} {n : Nat} {f : α → D} {pd : α → PyData}
theorem dp_map (o : OrdD n f pd) {B : Hp} : ∀ {xs : List α} {vs : List V}, RpL K B (xs.map f) vs → DpAll K B vs (xs.map pd)
  | [], _, h => by cases h; exact .nil
  | x :: xs, _, ⟨v, r, e, q1, q2⟩ => by subst e; exact .cons (o.rep x K B v q1) (dp_map o q2)
theorem dep_map (o : OrdD n f pd) : ∀ xs : List α, PyData.depthAll (xs.map pd) ≤ n
  | [] => by simp [PyData.depthAll]
  | x :: xs => by have := o.dep x; have := dep_map o xs; simp only [List.map_cons, PyData.depthAll]; omega
theorem alk_map (o : OrdD n f pd) (xs : List α) : PySem.W.AlikeAll (xs.map pd) := ⟨fun x hx y hy => by
  obtain ⟨a, _, rfl⟩ := List.mem_map.mp hx
  obtain ⟨b, _, rfl⟩ := List.mem_map.mp hy
  exact o.alk a b, fun x hx => by
  obtain ⟨a, _, rfl⟩ := List.mem_map.mp hx
  exact o.non a⟩
theorem minD_map : ∀ (r : List α) (k : α), PySem.W.minD (pd k) (r.map pd) = pd (r.foldl (fun a y => if PySem.W.dataLt (pd y) (pd a) = true then y else a) k)
  | [], k => rfl
  | y :: r, k => by
    unfold PySem.W.minD
    rw [List.map_cons, List.foldl_cons, List.foldl_cons]
    have e : (if PySem.W.dataLt (pd y) (pd k) = true then pd y else pd k) = pd (if PySem.W.dataLt (pd y) (pd k) = true then y else k) := by split <;> rfl
    rw [e]
    exact minD_map r _
theorem maxD_map : ∀ (r : List α) (k : α), PySem.W.maxD (pd k) (r.map pd) = pd (r.foldl (fun a y => if PySem.W.dataLt (pd a) (pd y) = true then y else a) k)
  | [], k => rfl
  | y :: r, k => by
    unfold PySem.W.maxD
    rw [List.map_cons, List.foldl_cons, List.foldl_cons]
    have e : (if PySem.W.dataLt (pd k) (pd y) = true then pd y else pd k) = pd (if PySem.W.dataLt (pd k) (pd y) = true then y else k) := by split <;> rfl
    rw [e]
    exact maxD_map r _
theorem rc_minW {xs : List α} {m : α} (o : OrdD n f pd) (hn : n ≤ 59) (h : minW pd xs = some m) : RC K l l (rMinD K) [.lst (xs.map f)] (f m) := fun X a0 H0 M ad σ H env vs Q E rx k => by
  cases xs with
  | nil => cases h
  | cons x0 r =>
    have h : some (r.foldl (fun a y => if PySem.W.dataLt (pd y) (pd a) = true then y else a) x0) = some m := h
    cases h
    obtain ⟨x, rfl, a, ys, rfl, h1, h2⟩ := rx.one'
    refine ⟨a, ys, pd x0, r.map pd, rfl, ex_l hid_all h1, DpAM hid_all (dp_map o h2), alk_map o (x0 :: r), Nat.le_trans (dep_map o (x0 :: r)) (by omega), fun d hd => ?_, fun i v hv he => ?_⟩
    · obtain ⟨z, _, rfl⟩ := List.mem_map.mp (show d ∈ (x0 :: r).map pd from hd)
      exact o.lay z
    · obtain ⟨d, hd1, hd2⟩ := h2.get' hv
      rw [List.getElem?_map] at hd1
      obtain ⟨z, hz, rfl⟩ := Option.map_eq_some_iff.mp hd1
      have he' : ((x0 :: r).map pd)[i]? = some (pd (r.foldl (fun a y => if PySem.W.dataLt (pd y) (pd a) = true then y else a) x0)) := by rw [← minD_map (pd := pd) r x0]; exact he
      rw [List.getElem?_map, hz] at he'
      have := o.inj _ _ (Option.some.inj he')
      exact k v H E (Ex.refl _) (by rw [← this]; exact hd2)
theorem rc_maxW {xs : List α} {m : α} (o : OrdD n f pd) (hn : n ≤ 59) (h : maxW pd xs = some m) : RC K l l (rMaxD K) [.lst (xs.map f)] (f m) := fun X a0 H0 M ad σ H env vs Q E rx k => by
  cases xs with
  | nil => cases h
  | cons x0 r =>
    have h : some (r.foldl (fun a y => if PySem.W.dataLt (pd a) (pd y) = true then y else a) x0) = some m := h
    cases h
    obtain ⟨x, rfl, a, ys, rfl, h1, h2⟩ := rx.one'
    refine ⟨a, ys, pd x0, r.map pd, rfl, ex_l hid_all h1, DpAM hid_all (dp_map o h2), alk_map o (x0 :: r), Nat.le_trans (dep_map o (x0 :: r)) (by omega), fun d hd => ?_, fun i v hv he => ?_⟩
    · obtain ⟨z, _, rfl⟩ := List.mem_map.mp (show d ∈ (x0 :: r).map pd from hd)
      exact o.lay z
    · obtain ⟨d, hd1, hd2⟩ := h2.get' hv
      rw [List.getElem?_map] at hd1
      obtain ⟨z, hz, rfl⟩ := Option.map_eq_some_iff.mp hd1
      have he' : ((x0 :: r).map pd)[i]? = some (pd (r.foldl (fun a y => if PySem.W.dataLt (pd a) (pd y) = true then y else a) x0)) := by rw [← maxD_map (pd := pd) r x0]; exact he
      rw [List.getElem?_map, hz] at he'
      have := o.inj _ _ (Option.some.inj he')
      exact k v H E (Ex.refl _) (by rw [← this]; exact hd2)
theorem ev_minOwW {xs : List α} {m : α} (o : OrdD n f pd) (hn : n ≤ 59) (hm : minW pd xs = some m) (h : env[i]? = some (.ow (.lst (xs.map f)))) : EvD K l true (tCB (rMinD K) (tCons (tVar i) tNil)) env env (f m) := fun X a0 H0 M ad σ H Q E k => by
  cases xs with
  | nil => cases hm
  | cons x0 r =>
    have hm : some (r.foldl (fun a y => if PySem.W.dataLt (pd y) (pd a) = true then y else a) x0) = some m := hm
    cases hm
    obtain ⟨_, h2, ys, h3, h4⟩ := E.ow i _ h
    refine ⟨_, h2, rt ad i, ys, pd x0, r.map pd, rfl, SqL.of h3, DpAM hid_all (dp_map o h4), alk_map o (x0 :: r), Nat.le_trans (dep_map o (x0 :: r)) (by omega), fun d hd => ?_, fun j v hv he => ?_⟩
    · obtain ⟨z, _, rfl⟩ := List.mem_map.mp (show d ∈ (x0 :: r).map pd from hd)
      exact o.lay z
    · obtain ⟨d, hd1, hd2⟩ := h4.get' hv
      rw [List.getElem?_map] at hd1
      obtain ⟨z, hz, rfl⟩ := Option.map_eq_some_iff.mp hd1
      have he' : ((x0 :: r).map pd)[j]? = some (pd (r.foldl (fun a y => if PySem.W.dataLt (pd y) (pd a) = true then y else a) x0)) := by rw [← minD_map (pd := pd) r x0]; exact he
      rw [List.getElem?_map, hz] at he'
      have := o.inj _ _ (Option.some.inj he')
      exact k v H E (Ex.refl _) (fun _ => Ex.refl _) (Rp.mono (hid_le mk_le) _ _ (by rw [← this]; exact hd2))
end
end Pw
/-! PwU: list.remove of data. -/
namespace Pw
open PySem L2 PySem.Spec PyProof.Rows
open AutoSeq1 (wpAny_loadPart')
open MeetsSeq SeqAt
theorem remove_loopAt (l : Addr) (items : Array Value) (n : Nat) (x : Value) (e : Value → Bool) (j : Nat) (hj : j < items.size) (hit : e items[j] = true) (k : Nat) (hs1 : items.size ≤ sizeLine) :
    ∀ i : Nat, j - i = k → i ≤ j → (∀ m (hm : m < items.size), i ≤ m → m < j → e items[m] = false) → Meets (Builtin.«list.remove.loop» ⟨[.ref l, x, rawInt i], []⟩)
      (fun A R s => s.heap.get? l = some { cls := .type "list", dict := none, data := .seq items n, slots := #[] } ∧ (∀ y, y ∈ items → EqAt A.in1 s y x (e y)) ∧ R (.ok (.ret .none)) { s with heap := s.heap.update l (Obj.mapSeq fun xs => xs.eraseIdxIfInBounds j) }) := by
  induction k with
  | zero =>
    intro i hk hij hno prog w A R s h
    obtain ⟨hp, g, d, tk, os⟩ := s; obtain ⟨hl, he, h⟩ := h
    have hij' : i = j := by omega
    subst hij'
    wp_walk using wpAny_loadPart' hl
    have hi : items[((i : Nat) : Int).toNat]? = some items[i] := by simp [hj]
    rw [hi]
    refine wpAny_bind (he _ (Array.getElem_mem hj) prog w _ _ ?_)
    rw [hit]
    have hz' : (items.eraseIdxIfInBounds i).size ≤ sizeLine + 1 := Nat.le_trans (size_erased items _) (Nat.le_succ_of_le hs1)
    wp_walk using (wpAny_updateSeq hl rfl (hz := hs1) (_hz' := hz')), wpAny_loadPart' hl
    simpa using h
  | succ k ih =>
    intro i hk hij hno prog w A R s h
    obtain ⟨hp, g, d, tk, os⟩ := s; obtain ⟨hl, he, h⟩ := h
    have hlt : i < items.size := by omega
    wp_walk using wpAny_loadPart' hl
    have hi : items[((i : Nat) : Int).toNat]? = some items[i] := by simp [hlt]
    have hc : ((i : Int) + 1) = ((i + 1 : Nat) : Int) := by push_cast; rfl
    rw [hi]
    refine wpAny_bind (he _ (Array.getElem_mem hlt) prog w _ _ ?_)
    rw [hno i hlt (Nat.le_refl _) (by omega)]
    wp_walk
    rw [hc]
    exact ⟨plainId_quiet plain_remove_loop _, codeAny_builtin entry_remove_loop (by
      rw [Around.under_plainId plain_remove_loop _]
      exact ih (i + 1) (by omega) (by omega) (fun m hm h1 h2 => hno m hm (by omega) h2) prog w A R _ ⟨hl, he, h⟩)⟩
theorem list_removeAt (l : Addr) (items : Array Value) (n : Nat) (x : Value) (e : Value → Bool) (j : Nat) (hj : j < items.size)
    (hit : e items[j] = true) (hno : ∀ m (hm : m < items.size), m < j → e items[m] = false) (hs1 : items.size ≤ sizeLine) :
    Meets (Builtin.«list.remove» ⟨[.ref l, x], []⟩)
      (fun A R s => s.heap.get? l = some { cls := .type "list", dict := none, data := .seq items n, slots := #[] } ∧ (∀ y, y ∈ items → EqAt A.in1 s y x (e y)) ∧ R (.ok (.ret .none)) { s with heap := s.heap.update l (Obj.mapSeq fun xs => xs.eraseIdxIfInBounds j) }) := by
  intro prog w A R s h
  obtain ⟨hp, g, d, tk, os⟩ := s; obtain ⟨hl, he, h⟩ := h
  wp_walk using wpAny_loadPart' hl
  exact ⟨plainId_quiet plain_remove_loop _, codeAny_builtin entry_remove_loop (by
    rw [Around.under_plainId plain_remove_loop _]
    exact remove_loopAt l items n x e j hj hit _ hs1 0 rfl (Nat.zero_le _) (fun m hm _ h2 => hno m hm h2) prog w A R _ ⟨hl, he, h⟩)⟩
def rRemD (K : PySem.W.Frag) : V → List V → Hp → VK → Prop := fun x xs H Q => ∃ (l : Addr) (ys : List V) (y : V) (d : PyData) (ds : List PyData) (j : Nat) (z : PyData), x = .ref l ∧ xs = [y] ∧ H l = some (.lst ys) ∧ DpAll K H ys ds ∧ Dp K H y d ∧
  SeqAt.shaped (.list ds) = true ∧ SeqAt.shaped d = true ∧ ds[j]? = some z ∧ PyData.eqv z d = true ∧ (∀ (m : Nat) (z' : PyData), m < j → ds[m]? = some z' → PyData.eqv z' d = false) ∧ Q .non (upd H l (.lst (ys.eraseIdx j)))
theorem mt_removeD {X : Cx} (hu : X.A.units + 65 < cLine) : MtM X "list.remove" (rRemD X.K) := by
  intro pins s σ H x xs v us Q I rx rxs h
  obtain ⟨l, ys, y, d, ds, j, z, rfl, rfl, hH, ha, hy, sl, sd, hz, hzj, hno, q⟩ := h
  cases rx
  obtain ⟨u, rfl, ru⟩ := rxs.one
  obtain ⟨bs, r1⟩ := Dp.reads I d y u hy ru
  have hxs : PyData.canLayAll0 ds = true := SeqAt.canLay_of_shaped sl
  have hroom : X.A.units + 1 + min (PyData.depthAll ds) d.depth < cLine := room_in_shaped sd hu
  obtain ⟨zz, its, n, r, hl, e⟩ := I.lstM hH
  obtain ⟨as, h4⟩ := Dp.readsAll I ds _ its ha r
  have hn : its.length = ds.length := SeqAt.ReadsAll.length ds its as h4
  have hmap : its.map (SeqAt.readOf s.heap) = ds := SeqAt.readsAll_map ds its as hxs h4
  obtain ⟨hjd, _⟩ := List.getElem?_eq_some_iff.mp hz
  have hjl : j < its.toArray.size := by rw [List.size_toArray]; omega
  have at_ : ∀ (m : Nat) (hm : m < its.toArray.size) (z' : PyData), ds[m]? = some z' → SeqAt.readOf s.heap its.toArray[m] = z' := by
    intro m hm z' hz'
    have hml : m < its.length := by simpa using hm
    rw [← hmap, List.getElem?_map, List.getElem?_eq_getElem hml] at hz'
    have e1 : SeqAt.readOf s.heap its[m] = z' := Option.some.inj (show some (SeqAt.readOf s.heap its[m]) = some z' from hz')
    simpa using e1
  refine call_meets PySem.F.slot_list_remove ⟨_, e, rfl⟩ PySem.F.entry_list_remove (PySem.F.args_list_remove_2 _ _)
    (list_removeAt l its.toArray n u (fun v => PyData.eqv (SeqAt.readOf s.heap v) d) j hjl ?_ ?_ (by rw [List.size_toArray]; omega)) ⟨e, SeqAt.items_eqAt (vs := its.toArray) (show ReadsAll s.heap its.toArray.toList ds as from h4) r1 hxs (SeqAt.canLay_of_shaped sd) hroom, ?_⟩
  · show PyData.eqv (SeqAt.readOf s.heap its.toArray[j]) d = true
    rw [at_ j hjl z hz]
    exact hzj
  · intro m hm hmj
    have hmd : m < ds.length := by omega
    have hz' : ds[m]? = some ds[m] := List.getElem?_eq_getElem hmd
    show PyData.eqv (SeqAt.readOf s.heap its.toArray[m]) d = false
    rw [at_ m hm _ hz']
    exact hno m _ hmj hz'
  · have rr := r.eraseIdx j
    refine ⟨.non, _, I.lset (its' := its.eraseIdx j) (t' := s.toks) hH e ?_ rr ?_, rfl, q⟩
    · show its.toArray.eraseIdxIfInBounds j = (its.eraseIdx j).toArray
      rw [List.eraseIdxIfInBounds_toArray]
    · have z2 : (ys.eraseIdx j).length ≤ ys.length := (List.eraseIdx_sublist _ _).length_le
      omega
def remO {α : Type} [DecidableEq α] (xs : List α) (v : α) : Option (List α) := if v ∈ xs ∧ xs.length ≤ 100000 then some (xs.erase v) else none
section
variable {K : PySem.W.Frag} {We : WX} {env env' : List Bd} {p : Bool} {te : TE} {i : Nat}
theorem remDK {X : Cx} {K : PySem.W.Frag} (h : X.K = K) (hu : X.A.units + 65 < cLine) : MtM X "list.remove" (rRemD K) := h ▸ mt_removeD hu
theorem rpl_erase {B : Hp} : ∀ {ds : List D} {xs : List V} (j : Nat), RpL K B ds xs → RpL K B (ds.eraseIdx j) (xs.eraseIdx j)
  | [], _, j, h => by cases h; exact rfl
  | d :: ds, _, 0, ⟨v, r, e, q1, q2⟩ => by subst e; exact q2
  | d :: ds, _, j + 1, ⟨v, r, e, q1, q2⟩ => by subst e; exact ⟨v, _, rfl, q1, rpl_erase j q2⟩
theorem dpa_map {α : Type} {f : α → D} {pd : α → PyData} {B : Hp} (o : ∀ x K H v, Rp K H (f x) v → Dp K H v (pd x)) : ∀ {xs : List α} {vs : List V}, RpL K B (xs.map f) vs → DpAll K B vs (xs.map pd)
  | [], _, h => by cases h; exact .nil
  | x :: xs, _, ⟨v, r, e, q1, q2⟩ => by subst e; exact .cons (o x K B v q1) (dpa_map o q2)
theorem lay_map {α : Type} {n : Nat} {pd : α → PyData} (o : ∀ x, (pd x).canLay0 = true ∧ (pd x).depth ≤ n) : ∀ xs : List α, PyData.canLayAll0 (xs.map pd) = true
  | [] => rfl
  | x :: xs => by rw [List.map_cons, PyData.canLayAll0, (o x).1, lay_map o xs]; rfl
theorem depa_map {α : Type} {n : Nat} {pd : α → PyData} (o : ∀ x, (pd x).canLay0 = true ∧ (pd x).depth ≤ n) : ∀ xs : List α, PyData.depthAll (xs.map pd) ≤ n
  | [] => by simp [PyData.depthAll]
  | x :: xs => by have := (o x).2; have := depa_map o xs; simp only [List.map_cons, PyData.depthAll]; omega
theorem erase_mapD {α : Type} {f : α → D} : ∀ (l : List α) (j : Nat), (l.eraseIdx j).map f = (l.map f).eraseIdx j
  | [], j => by simp
  | a :: r, 0 => by simp
  | a :: r, j + 1 => by simp [erase_mapD r j]
theorem erase_at {α : Type} [DecidableEq α] : ∀ (xs : List α) (v : α), xs.erase v = xs.eraseIdx (xs.findIdx fun a => decide (a = v))
  | [], v => rfl
  | x :: xs, v => by
    rw [List.erase_cons, List.findIdx_cons]
    by_cases e : x = v
    · subst e; simp
    · have e1 : (x == v) = false := by simpa using e
      rw [e1, decide_eq_false e, erase_at xs v]
      rfl
theorem sd_remove {α : Type} [DecidableEq α] {f : α → D} {n : Nat} {xs ys : List α} {v : α} (hq : Eqv n f) (hnn : n ≤ 58) (hs : remO xs v = some ys) (h : env'[i]? = some (.ow (.lst (xs.map f)))) (h0 : env[i]? = some (.ow (.lst (xs.map f)))) (he : EvD K .l2 p te env env' (f v)) :
    SD K We (tDrop (tBM K "list" (rRemD K) (tVar i) (tCons te tNil))) env (.nx (env'.set i (.ow (.lst (ys.map f))))) := fun X a0 H0 M ad σ H Dn E k => by
  unfold remO at hs
  by_cases g : v ∈ xs ∧ xs.length ≤ 100000
  · rw [if_pos g] at hs
    cases hs
    obtain ⟨pd, q1, q2, q3⟩ := hq
    obtain ⟨_, h2, _⟩ := E.ow i _ h0
    have hx := E.ow i _ h0
    obtain ⟨zs0, y1, y2⟩ := hx.2.2
    refine ⟨_, h2, .inl ⟨rfl, zs0, SqL.of y1⟩, he X a0 H0 M ad σ H _ E fun w H1 E1 e1 p1 r => ?_⟩
    obtain ⟨_, _, zs, z1, z2⟩ := E1.ow i _ h
    have hd : DpAll K H1 zs (xs.map pd) := dpa_map q1 (RpL.mono hid_all _ _ z2)
    have hlen : zs.length = xs.length := by rw [z2.length, List.length_map]
    have hj : (xs.findIdx (fun a => decide (a = v))) < xs.length := List.findIdx_lt_length_of_exists ⟨v, g.1, by simp⟩
    refine ⟨rt ad i, zs, w, pd v, xs.map pd, xs.findIdx (fun a => decide (a = v)), pd v, rfl, rfl, z1, hd, DpM hid_all (q1 v _ _ _ r), ?_, shaped_of (q2 v).1 (q2 v).2 (by omega), ?_, (q3 v v).mpr rfl, fun m z' hm hz => ?_, ?_⟩
    · exact shaped_of (n := n + 1) (lay_map q2 xs) (by have := depa_map q2 xs; simp only [PyData.depth]; omega) (by omega)
    · rw [List.getElem?_map, List.getElem?_eq_getElem hj]
      have := List.findIdx_getElem (xs := xs) (p := fun a => decide (a = v)) (w := hj)
      rw [show xs[xs.findIdx (fun a => decide (a = v))] = v from of_decide_eq_true this]
      rfl
    · rw [List.getElem?_map] at hz
      obtain ⟨a, ha, rfl⟩ := Option.map_eq_some_iff.mp hz
      have := List.not_of_lt_findIdx hm
      obtain ⟨hml, hme⟩ := List.getElem?_eq_some_iff.mp ha
      rw [hme] at this
      cases c : PyData.eqv (pd a) (pd v) with
      | false => rfl
      | true => exact absurd (decide_eq_true ((q3 a v).mp c)) (by simpa using this)
    · refine k M ad σ _ (E1.cellOw h ⟨_, upd_same, ?_⟩)
      have e6 : (xs.erase v).map f = (xs.map f).eraseIdx (xs.findIdx fun a => decide (a = v)) := by
        rw [erase_at xs v, erase_mapD]
      rw [e6]
      exact rpl_erase _ z2
  · rw [if_neg g] at hs; cases hs
theorem hu65 {A : Around} {k : Nat} (h : Room k A) : A.units + 65 < cLine := by have := h.un; omega
end
end Pw
/-! PwV: dicts walked under a lock; dict comprehensions with keys of any kind. -/
namespace L2
open PySem PySem.Spec PyProof.Rows
section
variable {X : Cx} {pins : List (Addr × Obj)} {σ : St} {H H' : Hp} {s : Shared}
/-- a pair laid by a comprehension, ints, texts or tuples as keys -/
theorem put_comp {Er : Value → Shared → Prop} {Dd : Addr} {key val : V} {uk uv : Value} {Qc : Unit → Shared → Prop} (room : X.A.units + 1 < cLine) (I : Inv X pins σ H s) (put : DPut H Dd key val H') (rk : RelV key uk) (rv : RelV val uv)
    (next : ∀ t, Inv X pins σ H' t → Qc () t) : wpAny (model X.prog X.w) X.A (dictSet Dd uk uv) Qc Er s := by
  obtain ⟨ps, k, at0, rfl, small, rfl⟩ | ⟨ps, k, b, at0, rfl, tup, small, rfl⟩ := put
  · exact d_dictSet I at0 small rk rv next
  · obtain rfl : uk = Value.ref b := rk
    have ⟨z, nsys, trs, rel, whole⟩ := dt_of I.hok at0
    have few : trs.length ≤ sizeLine := (Paired.length rel) ▸ z
    refine wpAny_dictSet_heap (hsz := few) (show (tupleKind (mixKind X.prog X.w)).room X.A from Nat.lt_of_succ_lt room) (key_of I.hok tup) whole fun hp whole' same => next _ ?_
    obtain ⟨ob, es, ep, q1, q2, q3, q4, _, q6⟩ := whole'
    have more : (putK ps k val).length ≤ sizeLine := by
      have := length_putK ps k val
      omega
    exact d_write I (by rw [at0]; exact True.intro) same ⟨ob, q1⟩ ⟨more, nsys, _, (rel.put k tup rv).keeps fun c ys ec => by
      rw [upd_ne (ne_of ec at0 (fun z => nomatch z))]; exact ec, ob, es, ep, q1, q2, q3, q4, q6⟩

/-- what a dict comprehension's new dict may be at first -/
def Emp (o : HO) : Prop := o = .dK [] ∨ o = .dT []
theorem emp_ok {o : HO} (e : Emp o) {Pr : Program} {w : World} (h : Heap) (hb : sysModules < h.objs.size) : ObjOk Pr w H (h.push { cls := .type "dict", data := .dict #[] }) h.objs.size o := by
  rcases e with rfl | rfl
  · exact dk_empty h hb
  · exact dt_empty h hb
/-- the new dict at Dd holds o at first; tb: what a turn does behind target and tests -/
def tDg (o : HO) (wi : TI) (g : TG) (tt : TT) (tb : Addr → St → Hp → (Hp → Prop) → Prop) (vs : List Nat) : TE := fun σ H Q => wi σ H fun J H1 => ∀ Dd, H1 Dd = none → ∃ W : Nat → Nat → Hp → Prop, (∃ m, W 0 m (upd H1 Dd o)) ∧ ∀ i m Hc, W i m Hc →
  (J.stop i Hc ∧ Q (.ref Dd) Hc) ∨ (J.go i Hc ∧ ∃ Nx : Hp → Prop, (∀ Hn, Nx Hn → ∃ m1, m1 < m ∧ W (i + 1) m1 Hn) ∧ ∀ x Hn, J.yld i Hc x Hn → g x (wipe σ vs) Hn fun σ2 H2 => wipe σ2 vs = wipe σ vs ∧ tt σ2 H2 fun b H3 => if b = true then tb Dd σ2 H3 Nx else Nx H3)
/-- a pair is laid -/
def tPut (tk tv : TE) : Addr → St → Hp → (Hp → Prop) → Prop := fun Dd σ H Nx => tk σ H fun y H4 => tv σ H4 fun z H5 => ∃ H6, DPut H5 Dd y z H6 ∧ Nx H6
/-- a second clause -/
def tIn (wi1 : TI) (g1 : TG) (tt1 : TT) (tk tv : TE) (vs1 : List Nat) : Addr → St → Hp → (Hp → Prop) → Prop := fun Dd σ H Nx => wi1 σ H fun J1 H4 => ∃ W1 : Nat → Nat → Hp → Prop, (∃ m, W1 0 m H4) ∧ ∀ j k Hc, W1 j k Hc →
      (J1.stop j Hc ∧ Nx Hc) ∨ (J1.go j Hc ∧ ∃ Ny : Hp → Prop, (∀ Hn, Ny Hn → ∃ k1, k1 < k ∧ W1 (j + 1) k1 Hn) ∧ ∀ x Hn, J1.yld j Hc x Hn → g1 x (wipe σ vs1) Hn fun σ3 H5 => wipe σ3 vs1 = wipe σ vs1 ∧ tt1 σ3 H5 fun b H6 => if b = true then tPut tk tv Dd σ3 H6 Ny else Ny H6)
end

/-! ### the machine's own steps for two clauses -/
section
variable {kx vx t0 i0 t1 i1 : Expr} {cs0 cs1 : List Expr} {scope : Scope} {pos : Pos} {it : Value} {Dd : Addr} {env : Env}
abbrev two (kx vx t0 i0 t1 i1 : Expr) (cs0 cs1 : List Expr) (scope : Scope) (pos : Pos) : Expr := .DictComp kx vx [⟨t0, i0, cs0, 0⟩, ⟨t1, i1, cs1, 0⟩] scope pos
theorem turn_outer : compTurn (two kx vx t0 i0 t1 i1 cs0 cs1 scope pos) 0 it (.ref Dd) env = (do
      standAt i0.pos
      match ← pyNext it with
      | none => pure (.done .next)
      | some item =>
        letOwnedTupleGo t0 it item
        assign t0 env item
        let mut going := true
        for c in cs0 do
          if going then going ← isTrue c env (eval c env)
        if going then
          let src ← eval i1 env
          standAt i1.pos
          let src ← foldedSetIterable i1 env src
          let _ ← runOwn (.compStart (two kx vx t0 i0 t1 i1 cs0 cs1 scope pos) 1 (← holding [src] (pyIter src)) (.ref Dd) env) env
        again (.compLoop (two kx vx t0 i0 t1 i1 cs0 cs1 scope pos) 0 it (.ref Dd) env)) := by rfl
theorem turn_inner : compTurn (two kx vx t0 i0 t1 i1 cs0 cs1 scope pos) 1 it (.ref Dd) env = (do
      standAt i1.pos
      match ← pyNext it with
      | none => pure (.done .next)
      | some item =>
        letOwnedTupleGo t1 it item
        assign t1 env item
        let mut going := true
        for c in cs1 do
          if going then going ← isTrue c env (eval c env)
        if going then
          (do
            let a ← eval kx env
            let b ← holding [a] (eval vx env)
            standAt { kx.pos with endLine := vx.pos.endLine, endCol := vx.pos.endCol }
            holding [a, b] (dictSet Dd a b))
        again (.compLoop (two kx vx t0 i0 t1 i1 cs0 cs1 scope pos) 1 it (.ref Dd) env)) := by rfl
variable {prog : Program} {w : World} {A : Around} {R : Result → Shared → Prop} {s : Shared}
/-- what is to hold of an item met, for a clause's target and tests -/
def Met (prog : Program) (w : World) (A : Around) (R : Result → Shared → Prop) (t : Expr) (cs : List Expr) (env : Env) (it : Value) (yes no : Shared → Prop) (r : Option Value) (s1 : Shared) : Prop :=
  match r with
  | none => R (.ok .next) s1
  | some v => wpAny (model prog w) A (letOwnedTupleGo t it v) (fun _ s2 => wpAny (model prog w) A (assign t env v) (fun _ s3 =>
      wpAny (model prog w) A (forIn cs true fun c r => if r = true then do let ok ← isTrue c env (eval c env); pure (ForInStep.yield ok) else pure (ForInStep.yield r)) (fun ok s4 => if ok = true then yes s4 else no s4)
        (notedBy (model prog w) A env fun e t => R (.error e) t) s3) (notedBy (model prog w) A env fun e t => R (.error e) t) s2) (notedBy (model prog w) A env fun e t => R (.error e) t) s1
theorem outer_loop (plain : ∀ x, foldedSetIterable i1 env x = pure x) (I : Nat → Shared → Prop)
    (turn : ∀ n s, I n s → wpAny (model prog w) A (pyNext it) (Met prog w A R t0 cs0 env it
      (fun s3 => wpAny (model prog w) A (eval i1 env) (fun x s4 => wpAny (model prog w) A (pyIter x) (fun it1 s5 =>
        codeAny (model prog w) A (.compStart (two kx vx t0 i0 t1 i1 cs0 cs1 scope pos) 1 it1 (.ref Dd) env) (fun r t => match r with
          | .ok _ => ∃ m, m < n ∧ I m t
          | .error _ => False) s5) (notedBy (model prog w) A env fun e t => R (.error e) t) s4) (notedBy (model prog w) A env fun e t => R (.error e) t) s3)
      (fun s3 => ∃ m, m < n ∧ I m s3)) (notedBy (model prog w) A env fun e t => R (.error e) t) s)
    (n : Nat) (start : I n s) : codeAny (model prog w) A (.compLoop (two kx vx t0 i0 t1 i1 cs0 cs1 scope pos) 0 it (.ref Dd) env) R s := by
  refine codeAny_loop rfl I (fun n s hI => ?_) n start
  show wpAny _ A ((compTurn (two kx vx t0 i0 t1 i1 cs0 cs1 scope pos) 0 it (.ref Dd) env).onRaise (fun e => do noteFrame e env; theTreesLotGoes e)) _ _ s
  refine wpAny_noted ?_
  rw [turn_outer]
  refine wpAny_bind (wpAny_standAt (wpAny_bind (wpAny_mono (turn n s hI) (fun r s1 h1 => ?_) fun _ _ z => z)))
  match r, h1 with
  | none, h1 => exact wpAny_pure h1
  | some v, h1 =>
    refine wpAny_bind (wpAny_mono h1 (fun _ s2 h2 => wpAny_bind (wpAny_mono h2 (fun _ s3 h3 => wpAny_bind (wpAny_mono h3 (fun ok s4 h4 => ?_) fun _ _ z => z)) fun _ _ z => z)) fun _ _ z => z)
    match ok, h4 with
    | false, h4 => exact wpAny_pure ⟨rfl, h4⟩
    | true, h4 =>
      refine wpAny_bind (wpAny_mono h4 (fun x s5 h5 => ?_) fun _ _ z => z)
      refine wpAny_bind (wpAny_standAt (wpAny_bind (wpAny_of_eq (plain x) (wpAny_bind (wpAny_holding (wpAny_mono h5 (fun it1 s6 h6 => ?_) fun _ _ z => z))))))
      refine wpAny_bind (wpAny_runOwn ?_)
      rw [Around.mark_none]
      refine codeAny_mono h6 fun r t hr => ?_
      match r, hr with
      | .ok f, hr =>
        first
          | exact wpAny_pure ⟨rfl, hr⟩
          | exact wpAny_bind (wpAny_pure (wpAny_pure ⟨rfl, hr⟩))
      | .error e, hr => exact False.elim hr
theorem inner_loop (I : Nat → Shared → Prop)
    (turn : ∀ n s, I n s → wpAny (model prog w) A (pyNext it) (Met prog w A R t1 cs1 env it
      (fun s3 => wpAny (model prog w) A (eval kx env) (fun a s4 => wpAny (model prog w) A (eval vx env) (fun b s5 =>
        wpAny (model prog w) A (dictSet Dd a b) (fun _ t => ∃ m, m < n ∧ I m t) (notedBy (model prog w) A env fun e t => R (.error e) t) s5) (notedBy (model prog w) A env fun e t => R (.error e) t) s4) (notedBy (model prog w) A env fun e t => R (.error e) t) s3)
      (fun s3 => ∃ m, m < n ∧ I m s3)) (notedBy (model prog w) A env fun e t => R (.error e) t) s)
    (n : Nat) (start : I n s) : codeAny (model prog w) A (.compLoop (two kx vx t0 i0 t1 i1 cs0 cs1 scope pos) 1 it (.ref Dd) env) R s := by
  refine codeAny_loop rfl I (fun n s hI => ?_) n start
  show wpAny _ A ((compTurn (two kx vx t0 i0 t1 i1 cs0 cs1 scope pos) 1 it (.ref Dd) env).onRaise (fun e => do noteFrame e env; theTreesLotGoes e)) _ _ s
  refine wpAny_noted ?_
  rw [turn_inner]
  refine wpAny_bind (wpAny_standAt (wpAny_bind (wpAny_mono (turn n s hI) (fun r s1 h1 => ?_) fun _ _ z => z)))
  match r, h1 with
  | none, h1 => exact wpAny_pure h1
  | some v, h1 =>
    refine wpAny_bind (wpAny_mono h1 (fun _ s2 h2 => wpAny_bind (wpAny_mono h2 (fun _ s3 h3 => wpAny_bind (wpAny_mono h3 (fun ok s4 h4 => ?_) fun _ _ z => z)) fun _ _ z => z)) fun _ _ z => z)
    match ok, h4 with
    | false, h4 => exact wpAny_pure ⟨rfl, h4⟩
    | true, h4 =>
      exact wpAny_bind (wpAny_bind (wpAny_mono h4 (fun a s5 h5 => wpAny_bind (wpAny_holding (wpAny_mono h5 (fun b s6 h6 => wpAny_bind (wpAny_standAt (wpAny_holding (wpAny_mono h6 (fun _ t h7 => wpAny_pure ⟨rfl, h7⟩) fun _ _ z => z)))) fun _ _ z => z))) fun _ _ z => z))
theorem inner_start (h0 : codeAny (model prog w) A (.compLoop (two kx vx t0 i0 t1 i1 cs0 cs1 scope pos) 1 it (.ref Dd) env) R s)
    (again : wpAny (model prog w) A (pyIter it) (fun it' t => codeAny (model prog w) A (.compLoop (two kx vx t0 i0 t1 i1 cs0 cs1 scope pos) 1 it' (.ref Dd) env) R t) (notedBy (model prog w) A env fun e t => R (.error e) t) s) :
    codeAny (model prog w) A (.compStart (two kx vx t0 i0 t1 i1 cs0 cs1 scope pos) 1 it (.ref Dd) env) R s := by
  refine codeAny_of_tree ?_
  show wpAny _ _ ((compStart (two kx vx t0 i0 t1 i1 cs0 cs1 scope pos) 1 it (.ref Dd) env).onRaise (fun e => do noteFrame e env; standAt theWindowsPlace)) _ _ s
  refine wpAny_notedAt ?_
  unfold compStart
  show wpAny _ _ (ask >>= _) _ _ s
  refine wpAny_bind (wpAny_askSetting (wpAny_ite ?_))
  split
  · first
      | exact wpAny_bind (wpAny_pure (wpAny_pure (And.intro rfl h0)))
      | exact wpAny_pure (And.intro rfl h0)
  · first
      | exact wpAny_bind (wpAny_rule (wpAny_bind (wpAny_standAt (wpAny_bind (wpAny_mono again (fun it' t z => wpAny_pure (And.intro rfl z)) fun _ _ x => x)))))
      | (refine wpAny_bind (wpAny_rule ?_); show wpAny _ _ (standAt i1.pos >>= _) _ _ s; exact wpAny_bind (wpAny_standAt (wpAny_bind (wpAny_mono again (fun it' t z => wpAny_pure (And.intro rfl z)) fun _ _ x => x))))
end

section
variable {X : Cx}
/-- known slots, but for the block's, stay -/
def Kp (vs : List Nat) (σ σ' : St) : Prop := σ.length = σ'.length ∧ ∀ (j : Nat) v, (wipe σ vs)[j]? = some (some v) → σ'[j]? = some (some v)
/-- a dict comprehension whose turns' bodies are B -/
theorem dx_base {o : HO} {pins : List (Addr × Obj)} {s : Shared} {σ : St} {H : Hp} {Q : VK} {kx vx tg iter : Expr} {ifs : List Expr} {rest : List Comprehension} {scope : Scope} {own : List (Str × Nat)} {pos ppos : Pos} {wi : TI} {g : TG} {tt : TT} {tb : Addr → St → Hp → (Hp → Prop) → Prop} {use : Option (Value → Sem Unit)} {Qf : Value → Shared → Prop}
    (B : Addr → Env → (Shared → Prop) → Shared → Prop) (emp : Emp o) (calm : X.calm = true) (nd : X.N.Nodup) (I : Inv X pins σ H s) (walked : PI X tg iter wi) (ok : BlkOk X.N X.env.scope scope own)
    (target : ∀ (s : Shared) (H : Hp) (C : Addr) (cl : List (Str × Addr)) (fp : List Addr), PG (X.blk s H scope (compEnvC scope cl C X.env) fp) tg g) (tests : ∀ (s : Shared) (H : Hp) (C : Addr) (cl : List (Str × Addr)) (fp : List Addr), PTs (X.blk s H scope (compEnvC scope cl C X.env) fp) ifs tt)
    (body : ∀ (s0 : Shared) (H0 : Hp) (C : Addr) (cl : List (Str × Addr)) (fp : List Addr) (Dd : Addr) (ps : List (Addr × Obj)) (τ : St) (Hb : Hp) (t : Shared) (Nx : Hp → Prop) (post : Shared → Prop), Inv (X.blk s0 H0 scope (compEnvC scope cl C X.env) fp) ps τ Hb t → tb Dd τ Hb Nx →
      (∀ τ' H' t', Inv (X.blk s0 H0 scope (compEnvC scope cl C X.env) fp) ps τ' H' t' → Kp (own.map (·.2)) τ τ' → Nx H' → post t') → B Dd (compEnvC scope cl C X.env) post t)
    (loop : ∀ (env : Env) (it : Value) (Dd : Addr) (R : Result → Shared → Prop) (J : Nat → Shared → Prop), (∀ n t, J n t → wpAny (model X.prog X.w) X.A (pyNext it) (Met X.prog X.w X.A R tg ifs env it (B Dd env fun t => ∃ m, m < n ∧ J m t) fun t => ∃ m, m < n ∧ J m t) (notedBy (model X.prog X.w) X.A env fun e t => R (.error e) t) t) →
      ∀ n t, J n t → codeAny (model X.prog X.w) X.A (.compLoop (.DictComp kx vx (⟨tg, iter, ifs, 0⟩ :: rest) scope pos) 0 it (.ref Dd) env) R t)
    (plain : ∀ x, foldedSetIterable iter X.env x = pure x) (h : tDg o wi g tt tb (own.map (·.2)) σ H Q)
    (fin : ∀ Dd C t m H', Inv X pins σ H' t → Q (.ref Dd) H' → t.heap.Ns C m → FpOk X pins H' C → compPost (model X.prog X.w) X.A X.xe use Qf (.ref Dd) C (.ok .next) t) :
    wpAny (model X.prog X.w) X.A (comprehension (.DictComp kx vx (⟨tg, iter, ifs, 0⟩ :: rest) scope pos) scope X.env ppos newDict false (eval iter X.env) use) Qf X.xe s := by
  have cellsThere : ∀ y ∈ scope.names, y.2 = .free → ∃ c, X.env.cells.lookup y.1 = some c := fun y hy e => I.ok.has _ (ok.free y hy e)
  refine wpAny_comprehension_free (use := use) rfl plain (closure_ok cellsThere) ok.kind (fun y hy e => by rw [ok.uniq y hy, e]) (thn (walked.run pins s σ H _ I h) fun xv t1 hx => thn hx fun itv t2 made => ?_)
  obtain ⟨it, fp, tn, J, H2, rfl, I2, T, st2, f2, q⟩ := made
  refine wpAny_newObj_type (newEnv_comp ?_)
  have ⟨Dd, hDd⟩ : ∃ Dd, Dd = t2.heap.objs.size := ⟨_, rfl⟩
  rw [← hDd]
  have free : H2 Dd = none := I2.hok.fresh (Nat.le_of_eq hDd.symm)
  obtain ⟨W, ⟨m0, w0⟩, turn⟩ := q Dd free
  have ⟨t3, ht3⟩ : ∃ t3 : Shared, t3 = { t2 with heap := t2.heap.push { cls := .type "dict", data := .dict #[] } } := ⟨_, rfl⟩
  have hp3 : t3.heap = t2.heap.push { cls := .type "dict", data := .dict #[] } := by rw [ht3]
  have I3 : Inv X pins σ (upd H2 Dd o) t3 := by
    rw [ht3]
    exact I2.laid (t' := t2.toks) (fun b u e => Heap.get?_push_of_some _ e) (Nat.le_of_eq hDd.symm) (hDd ▸ emp_ok emp t2.heap I2.big)
  have f3 : ∀ b ∈ fp, FpOk X pins (upd H2 Dd o) b ∧ b < t3.heap.objs.size := fun b hb => by
    obtain ⟨u, e, _⟩ := T.obj _ _ st2 b hb
    have less := Heap.lt_size e
    exact ⟨⟨by rw [upd_ne (hDd ▸ Nat.ne_of_lt less)]; exact (f2 b hb).1, (f2 b hb).2⟩, by rw [hp3, Heap.size_push]; exact Nat.lt_succ_of_lt less⟩
  have st3 : tn 0 t3.heap := T.keep _ _ _ st2 fun b _ u e => by rw [hp3]; exact Heap.get?_push_of_some _ e
  have I4 := block_start I3 ok nd f3
  rw [← ht3]
  have ⟨H3, hH3⟩ : ∃ H3, H3 = upd H2 Dd o := ⟨_, rfl⟩
  rw [← hH3] at I3 I4 f3 w0
  have nofp : ∀ b ∈ fp, H3 b = none := fun b hb => (f3 b hb).1.1
  have ⟨cl, hcl⟩ : ∃ cl, cl = cellsFrom (t3.heap.objs.size + 1) scope.names (cloFrom X.env.cells scope.names []) := ⟨_, rfl⟩
  show codeAny _ _ (.compStart (.DictComp kx vx (⟨tg, iter, ifs, 0⟩ :: rest) scope pos) 0 (.ref it) (.ref Dd) (compEnvC scope (cellsFrom (t3.heap.objs.size + 1) scope.names (cloFrom X.env.cells scope.names [])) t3.heap.objs.size X.env)) (compPost (model X.prog X.w) X.A X.xe use Qf (.ref Dd) t3.heap.objs.size) _
  rw [← hcl] at I4 ⊢
  have pg := target t3 H3 t3.heap.objs.size cl fp
  have pt := tests t3 H3 t3.heap.objs.size cl fp
  have bd := body t3 H3 t3.heap.objs.size cl fp
  have ⟨ce, hce⟩ : ∃ ce, ce = compEnvC scope cl t3.heap.objs.size X.env := ⟨_, rfl⟩
  rw [← hce] at I4 pg pt bd ⊢
  have cL : ce.locals = t3.heap.objs.size := by rw [hce]; rfl
  have ⟨t4, ht4⟩ : ∃ t4 : Shared, t4 = { t3 with heap := pushCells (t3.heap.push { cls := .type "dict", data := .dict #[] }) scope.names } := ⟨_, rfl⟩
  rw [← ht4] at I4
  have st4 : tn 0 t4.heap := T.keep _ _ _ st3 fun b _ u e => by rw [ht4]; exact pushCells_keeps _ _ _ _ (Heap.get?_push_of_some _ e)
  let Cb := X.blk t3 H3 scope ce fp
  have own0 : ∀ {τ : St} {H' : Hp} {t : Shared}, Inv Cb [] τ H' t → (∀ b ∈ fp, H' b = none) → ∀ b ∈ fp, FpOk Cb [] H' b := fun {τ H' t} I' no b hb =>
    ⟨no b hb, (I'.ok.exf b hb).1, I'.ok.exfs b hb, .inl hb, fun x c e => (I'.ok.exf b hb).2 x c e, fun p hp => by have hp : p ∈ ([] : List (Addr × Obj)) ++ [] := hp; simp at hp⟩
  have all : codeAny (model X.prog X.w) X.A (.compLoop (.DictComp kx vx (⟨tg, iter, ifs, 0⟩ :: rest) scope pos) 0 (.ref it) (.ref Dd) ce) (compPost (model X.prog X.w) X.A X.xe use Qf (.ref Dd) t3.heap.objs.size) t4 := by
    refine loop ce (.ref it) Dd _ (fun n t => ∃ i Hi, Inv Cb [] (wipe σ (own.map (·.2))) Hi t ∧ tn i t.heap ∧ (∀ b ∈ fp, Hi b = none) ∧ W i n Hi) ?_ m0 t4 ⟨0, H3, I4, st4, nofp, w0⟩
    rintro n t5 ⟨i, H5, I5, st5, no5, w5⟩
    rcases turn i n H5 w5 with ⟨stop, last⟩ | ⟨go, Nx, hNx, step⟩
    · refine thnF (T.done Cb rfl rfl rfl calm i [] t5 _ H5 (fun _ _ => False) I5 (own0 I5 no5) st5 stop) fun r t6 ⟨hr, I6⟩ => ?_
      subst hr
      have I7 : Inv X pins σ H5 t6 := I3.call' (ch := fp) I6.os I6.base I6.hok I6.bare fun b hb => have z := (f3 b hb).1; ⟨z.2.2.2.1, z.2.1, z.2.2.2.2.1, z.2.2.2.2.2⟩
      have nC : H5 t3.heap.objs.size = none := cL ▸ (show H5 ce.locals = none from I6.free)
      obtain ⟨mm, hn, _⟩ := I6.loc
      have hn : t6.heap.Ns ce.locals mm := hn
      exact fin Dd t3.heap.objs.size t6 mm H5 I7 last (cL ▸ hn) (I3.fpOk (Nat.le_refl _) nC)
    · refine thnF (T.item Cb rfl rfl rfl calm i [] t5 _ H5 (fun _ _ => False) I5 (own0 I5 no5) st5 go) fun r t6 ⟨u, hr, h6⟩ => ?_
      subst hr
      refine thnF h6 fun _ t7 ⟨x, H7, I7, r7, y7, st7, no7⟩ => ?_
      have I7p := I7.pinned (own0 I7 no7) (T.obj _ _ st7)
      refine thnF (pg.run _ t7 _ H7 x u _ I7p r7 (step x H7 y7)) fun _ t8 ⟨σ8, H8, I8, same8, q8⟩ => ?_
      refine thnF (pt.run _ t8 σ8 H8 _ I8 q8) fun b t9 ⟨H9, I9, q9⟩ => ?_
      have back : ∀ τ' H' t', Inv Cb ([] ++ pinsAt fp t7.heap) τ' H' t' → Kp (own.map (·.2)) σ8 τ' → Nx H' → ∃ m, m < n ∧ ∃ i Hi, Inv Cb [] (wipe σ (own.map (·.2))) Hi t' ∧ tn i t'.heap ∧ (∀ b ∈ fp, Hi b = none) ∧ W i m Hi := fun τ' H' t' I' kp nx => by
        obtain ⟨m1, less, w1⟩ := hNx H' nx
        have pin1 : ∀ b ∈ fp, ∀ u, t7.heap.get? b = some u → t'.heap.get? b = some u ∧ H' b = none := fun b hb u e =>
          have z := I'.pin (b, u) (List.mem_append_right _ (List.mem_append_right _ (mem_pinsAt hb e)))
          ⟨z.1, z.2.1⟩
        refine ⟨m1, less, i + 1, H', (I'.unpinned (pins := [])).weak ?_ (fun j v e => kp.2 j v (by rw [same8]; exact e)), T.keep _ _ _ st7 fun b hb u e => (pin1 b hb u e).1, fun b hb => ?_, w1⟩
        · rw [← same8, wipe_length]; exact kp.1
        · obtain ⟨u, e, _⟩ := T.obj _ _ st7 b hb
          exact (pin1 b hb u e).2
      match b, q9 with
      | false, q9 =>
        simp only [Bool.false_eq_true, if_false] at q9 ⊢
        exact back σ8 H9 t9 I9 ⟨rfl, fun j v e => (wipe_some e).1⟩ q9
      | true, q9 =>
        simp only [if_true] at q9 ⊢
        exact bd Dd _ σ8 H9 t9 Nx _ I9 q9 back
  rw [← ht4]
  exact codeAny_compStart_dict all (T.self X.A 0 _ _ _ st4 all)
theorem dg_core {o : HO} {kx vx tg iter : Expr} {ifs : List Expr} {scope : Scope} {own : List (Str × Nat)} {pos : Pos} {wi : TI} {g : TG} {tt : TT} {tk tv : TE} (emp : Emp o) (calm : X.calm = true) (room : X.A.units + 1 < cLine) (nd : X.N.Nodup) (walked : PI X tg iter wi) (ok : BlkOk X.N X.env.scope scope own)
    (target : ∀ (s : Shared) (H : Hp) (C : Addr) (cl : List (Str × Addr)) (fp : List Addr), PG (X.blk s H scope (compEnvC scope cl C X.env) fp) tg g) (tests : ∀ (s : Shared) (H : Hp) (C : Addr) (cl : List (Str × Addr)) (fp : List Addr), PTs (X.blk s H scope (compEnvC scope cl C X.env) fp) ifs tt)
    (key : ∀ (s : Shared) (H : Hp) (C : Addr) (cl : List (Str × Addr)) (fp : List Addr), PE (X.blk s H scope (compEnvC scope cl C X.env) fp) kx tk) (val : ∀ (s : Shared) (H : Hp) (C : Addr) (cl : List (Str × Addr)) (fp : List Addr), PE (X.blk s H scope (compEnvC scope cl C X.env) fp) vx tv)
    (plain : ∀ x, foldedSetIterable iter X.env x = pure x := by intro _; rfl)
    {pins : List (Addr × Obj)} {s : Shared} {σ : St} {H : Hp} {Q : VK} {ppos : Pos} {use : Option (Value → Sem Unit)} {Qf : Value → Shared → Prop} (I : Inv X pins σ H s) (h : tDg o wi g tt (tPut tk tv) (own.map (·.2)) σ H Q)
    (fin : ∀ Dd C t m H', Inv X pins σ H' t → Q (.ref Dd) H' → t.heap.Ns C m → FpOk X pins H' C → compPost (model X.prog X.w) X.A X.xe use Qf (.ref Dd) C (.ok .next) t) :
    wpAny (model X.prog X.w) X.A (comprehension (.DictComp kx vx [⟨tg, iter, ifs, 0⟩] scope pos) scope X.env ppos newDict false (eval iter X.env) use) Qf X.xe s := by
  refine dx_base (fun Dd env post t => wpAny (model X.prog X.w) X.A (eval kx env) (fun a t4 => wpAny (model X.prog X.w) X.A (eval vx env) (fun b t5 => wpAny (model X.prog X.w) X.A (dictSet Dd a b) (fun _ t6 => post t6) (fun _ _ => False) t5) (fun _ _ => False) t4) (fun _ _ => False) t)
    emp calm nd I walked ok target tests ?_ ?_ plain h fin
  · intro s0 H0 C cl fp Dd ps τ Hb t Nx post Ib hb next
    refine thnF ((key s0 H0 C cl fp).run _ t τ Hb _ Ib hb) fun a t4 ⟨y, H4, I4, r4, q4⟩ => ?_
    refine thnF ((val s0 H0 C cl fp).run _ t4 τ H4 _ I4 q4) fun b t5 ⟨z, H5, I5, r5, H6, dp, nx⟩ => ?_
    exact put_comp (X := X.blk s0 H0 scope (compEnvC scope cl C X.env) fp) room I5 dp r4 r5 fun t6 I6 => next τ H6 t6 I6 ⟨rfl, fun j v e => (wipe_some e).1⟩ nx
  · intro env it Dd R J turn n t hJ
    refine compLoop_anyD J (fun n t hJ => wpAny_mono (turn n t hJ) (fun r t1 m1 => ?_) fun _ _ z => z) n hJ
    match r, m1 with
    | none, m1 => exact m1
    | some v, m1 => exact wpAny_mono m1 (fun _ t2 m2 => wpAny_mono m2 (fun _ t3 m3 => wpAny_mono m3 (fun ok t4 m4 => by
        match ok, m4 with
        | false, m4 => exact m4
        | true, m4 => exact thnF m4 fun a t5 m5 => thnF m5 fun b t6 m6 => thnF m6 fun _ t7 m7 => m7) fun _ _ z => z) fun _ _ z => z) fun _ _ z => z
theorem pe_dg {o : HO} {kx vx tg iter : Expr} {ifs : List Expr} {scope : Scope} {own : List (Str × Nat)} {pos : Pos} {wi : TI} {g : TG} {tt : TT} {tk tv : TE} (emp : Emp o) (calm : X.calm = true) (room : X.A.units + 1 < cLine) (nd : X.N.Nodup) (walked : PI X tg iter wi) (ok : BlkOk X.N X.env.scope scope own)
    (target : ∀ (s : Shared) (H : Hp) (C : Addr) (cl : List (Str × Addr)) (fp : List Addr), PG (X.blk s H scope (compEnvC scope cl C X.env) fp) tg g) (tests : ∀ (s : Shared) (H : Hp) (C : Addr) (cl : List (Str × Addr)) (fp : List Addr), PTs (X.blk s H scope (compEnvC scope cl C X.env) fp) ifs tt)
    (key : ∀ (s : Shared) (H : Hp) (C : Addr) (cl : List (Str × Addr)) (fp : List Addr), PE (X.blk s H scope (compEnvC scope cl C X.env) fp) kx tk) (val : ∀ (s : Shared) (H : Hp) (C : Addr) (cl : List (Str × Addr)) (fp : List Addr), PE (X.blk s H scope (compEnvC scope cl C X.env) fp) vx tv)
    (plain : ∀ x, foldedSetIterable iter X.env x = pure x := by intro _; rfl) : PE X (.DictComp kx vx [⟨tg, iter, ifs, 0⟩] scope pos) (tDg o wi g tt (tPut tk tv) (own.map (·.2))) := by
  refine ⟨fun pins s σ H Q I h => ?_⟩
  rw [arm_eval_DictComp]
  refine dg_core emp calm room nd walked ok target tests key val plain I h fun Dd C t m H' I' q hn f => ⟨m, hn, fun h2 sb => ?_⟩
  have ⟨f0, f1, f2, f3, f4, f5⟩ := f
  exact ⟨.ref Dd, H', I'.turned (t' := t.toks) (fun b u hb e => (sb.2 b hb).trans e) f0 f1 f3 f4 f5, rfl, q⟩
theorem ps_setDg {o : HO} {kx vx tg iter : Expr} {ifs : List Expr} {scope : Scope} {own : List (Str × Nat)} {pos : Pos} {wi : TI} {g : TG} {tt : TT} {tk tv : TE} {i : Nat} {y : Str} {py spos : Pos} (emp : Emp o) (calm : X.calm = true) (room : X.A.units + 1 < cLine) (nd : X.N.Nodup) (walked : PI X tg iter wi) (ok : BlkOk X.N X.env.scope scope own)
    (target : ∀ (s : Shared) (H : Hp) (C : Addr) (cl : List (Str × Addr)) (fp : List Addr), PG (X.blk s H scope (compEnvC scope cl C X.env) fp) tg g) (tests : ∀ (s : Shared) (H : Hp) (C : Addr) (cl : List (Str × Addr)) (fp : List Addr), PTs (X.blk s H scope (compEnvC scope cl C X.env) fp) ifs tt)
    (key : ∀ (s : Shared) (H : Hp) (C : Addr) (cl : List (Str × Addr)) (fp : List Addr), PE (X.blk s H scope (compEnvC scope cl C X.env) fp) kx tk) (val : ∀ (s : Shared) (H : Hp) (C : Addr) (cl : List (Str × Addr)) (fp : List Addr), PE (X.blk s H scope (compEnvC scope cl C X.env) fp) vx tv)
    (plain : ∀ x, foldedSetIterable iter X.env x = pure x := by intro _; rfl)
    (here : X.N[i]? = some y) (loc : X.env.scope.names.lookup y = some .local) (swap : swapsWith (.DictComp kx vx [⟨tg, iter, ifs, 0⟩] scope pos) (some (.Name y py)) spos.line X.env = pure true) :
    PS X (.Assign [.Name y py] (.DictComp kx vx [⟨tg, iter, ifs, 0⟩] scope pos) spos) (tAsg (tDg o wi g tt (tPut tk tv) (own.map (·.2))) (gName i)) := by
  refine ⟨fun pins s σ H D I h => ?_⟩
  rw [exec_Assign_Name_used _ _ _ _ swap]
  refine wpAny_bind (wpAny_standAt (wpAny_bind ?_))
  show wpAny _ X.A (do let _ ← comprehension (.DictComp kx vx [⟨tg, iter, ifs, 0⟩] scope pos) scope X.env (firstIterPos [⟨tg, iter, ifs, 0⟩] pos) newDict false (eval iter X.env) (some (assign (.Name y py) X.env))) _ _ s
  have h : (tDg o wi g tt (tPut tk tv) (own.map (·.2))) σ H (fun x H1 => gName i x σ H1 D.nx) := h
  refine wpAny_bind (thn (dg_core (Qf := fun _ t => SP X pins D .next t) emp calm room nd walked ok target tests key val plain I h fun L C t m H' I' q hn f => ?_) fun _ t hq => wpAny_pure (wpAny_pure hq))
  show wpAny _ _ (assign (.Name y py) X.env (.ref L)) _ _ _
  refine wpAny_assign_Name (store_ok2 (v := V.ref L) I' nd here (.inl loc) rfl (fun t2 I2 ⟨a, sb, ha⟩ => ?_) (.inr loc))
  have ⟨f0, f1, f2, f3, f4, f5⟩ := f
  have neq : C ≠ a := ha.elim (fun z => z ▸ f1) fun z e => f4 y a z e.symm
  exact ⟨m, hn.sameBut sb neq, fun h3 sb3 => ⟨_, H', I2.turned (t' := t2.toks) (fun b u hb e => (sb3.2 b hb).trans e) f0 f1 f3 f4 f5, q⟩⟩
theorem dg2_core {o : HO} {kx vx tg iter tg1 iter1 : Expr} {ifs ifs1 : List Expr} {scope : Scope} {own : List (Str × Nat)} {vs1 : List Nat} {pos : Pos} {wi wi1 : TI} {g g1 : TG} {tt tt1 : TT} {tk tv : TE} (emp : Emp o) (calm : X.calm = true) (room : X.A.units + 1 < cLine) (nd : X.N.Nodup) (walked : PI X tg iter wi) (ok : BlkOk X.N X.env.scope scope own) (inn : ∀ i ∈ vs1, i ∈ own.map (·.2))
    (target : ∀ (s : Shared) (H : Hp) (C : Addr) (cl : List (Str × Addr)) (fp : List Addr), PG (X.blk s H scope (compEnvC scope cl C X.env) fp) tg g) (tests : ∀ (s : Shared) (H : Hp) (C : Addr) (cl : List (Str × Addr)) (fp : List Addr), PTs (X.blk s H scope (compEnvC scope cl C X.env) fp) ifs tt)
    (walked1 : ∀ (s : Shared) (H : Hp) (C : Addr) (cl : List (Str × Addr)) (fp : List Addr), PI (X.blk s H scope (compEnvC scope cl C X.env) fp) tg1 iter1 wi1)
    (target1 : ∀ (s : Shared) (H : Hp) (C : Addr) (cl : List (Str × Addr)) (fp : List Addr), PG (X.blk s H scope (compEnvC scope cl C X.env) fp) tg1 g1) (tests1 : ∀ (s : Shared) (H : Hp) (C : Addr) (cl : List (Str × Addr)) (fp : List Addr), PTs (X.blk s H scope (compEnvC scope cl C X.env) fp) ifs1 tt1)
    (key : ∀ (s : Shared) (H : Hp) (C : Addr) (cl : List (Str × Addr)) (fp : List Addr), PE (X.blk s H scope (compEnvC scope cl C X.env) fp) kx tk) (val : ∀ (s : Shared) (H : Hp) (C : Addr) (cl : List (Str × Addr)) (fp : List Addr), PE (X.blk s H scope (compEnvC scope cl C X.env) fp) vx tv)
    (plain : ∀ x, foldedSetIterable iter X.env x = pure x := by intro _; rfl) (plain1 : ∀ env x, foldedSetIterable iter1 env x = pure x := by intro _ _; rfl)
    {pins : List (Addr × Obj)} {s : Shared} {σ : St} {H : Hp} {Q : VK} {ppos : Pos} {use : Option (Value → Sem Unit)} {Qf : Value → Shared → Prop} (I : Inv X pins σ H s) (h : tDg o wi g tt (tIn wi1 g1 tt1 tk tv vs1) (own.map (·.2)) σ H Q)
    (fin : ∀ Dd C t m H', Inv X pins σ H' t → Q (.ref Dd) H' → t.heap.Ns C m → FpOk X pins H' C → compPost (model X.prog X.w) X.A X.xe use Qf (.ref Dd) C (.ok .next) t) :
    wpAny (model X.prog X.w) X.A (comprehension (two kx vx tg iter tg1 iter1 ifs ifs1 scope pos) scope X.env ppos newDict false (eval iter X.env) use) Qf X.xe s := by
  refine dx_base (fun Dd env post t => wpAny (model X.prog X.w) X.A (eval iter1 env) (fun x t4 => wpAny (model X.prog X.w) X.A (pyIter x) (fun it1 t5 => codeAny (model X.prog X.w) X.A (.compStart (two kx vx tg iter tg1 iter1 ifs ifs1 scope pos) 1 it1 (.ref Dd) env) (fun r t => match r with
          | .ok _ => post t
          | .error _ => False) t5) (fun _ _ => False) t4) (fun _ _ => False) t)
    emp calm nd I walked ok target tests ?_ ?_ plain h fin
  · intro s0 H0 C cl fp Dd ps τ Hb t Nx post Ib hb next
    have pg1 := target1 s0 H0 C cl fp
    have pt1 := tests1 s0 H0 C cl fp
    have pk := key s0 H0 C cl fp
    have pv := val s0 H0 C cl fp
    refine thnF ((walked1 s0 H0 C cl fp).run _ t τ Hb _ Ib hb) fun xv t4 hx => thnF hx fun itv t5 made => ?_
    obtain ⟨it1, fp1, tn1, J1, H5, rfl, I5, T1, st5, f5, W1, ⟨m1, w1⟩, turn1⟩ := made
    let Cb := X.blk s0 H0 scope (compEnvC scope cl C X.env) fp
    have stay : ∀ {H' : Hp}, (∀ b ∈ fp1, H' b = none) → ∀ b ∈ fp1, FpOk Cb ps H' b := fun no b hb => ⟨no b hb, (f5 b hb).2⟩
    have all : codeAny (model X.prog X.w) X.A (.compLoop (two kx vx tg iter tg1 iter1 ifs ifs1 scope pos) 1 (.ref it1) (.ref Dd) (compEnvC scope cl C X.env)) (fun r t => match r with
          | .ok _ => post t
          | .error _ => False) t5 := by
      refine inner_loop (fun k t => ∃ j Hj, Inv Cb ps (wipe τ vs1) Hj t ∧ tn1 j t.heap ∧ (∀ b ∈ fp1, Hj b = none) ∧ W1 j k Hj) ?_ m1 ⟨0, H5, I5.weak (wipe_length _ _) (fun j v e => (wipe_some e).1), st5, fun b hb => (f5 b hb).1, w1⟩
      rintro k t6 ⟨j, H6, I6, st6, no6, w6⟩
      rcases turn1 j k H6 w6 with ⟨stop, last⟩ | ⟨go, Ny, hNy, step⟩
      · refine thnF (T1.done Cb rfl rfl rfl calm j _ t6 (wipe τ vs1) H6 (fun _ _ => False) I6 (stay no6) st6 stop) fun r t7 ⟨hr, I7⟩ => ?_
        subst hr
        exact next _ H6 t7 I7 ⟨(wipe_length _ _).symm, fun j v e => by
          obtain ⟨e1, e2⟩ := wipe_some e
          rw [wipe_out fun z => e2 (inn j z)]; exact e1⟩ last
      · refine thnF (T1.item Cb rfl rfl rfl calm j _ t6 (wipe τ vs1) H6 (fun _ _ => False) I6 (stay no6) st6 go) fun r t7 ⟨u, hr, h7⟩ => ?_
        subst hr
        refine thnF h7 fun _ t8 ⟨x, H8, I8, r8, y8, st8, no8⟩ => ?_
        have I8p := I8.pinned (stay no8) (T1.obj _ _ st8)
        refine thnF (pg1.run _ t8 (wipe τ vs1) H8 x u _ I8p r8 (step x H8 y8)) fun _ t9 ⟨σ9, H9, I9, same9, q9⟩ => ?_
        refine thnF (pt1.run _ t9 σ9 H9 _ I9 q9) fun b t10 ⟨H10, I10, q10⟩ => ?_
        have back : ∀ {t' : Shared} {H' : Hp}, Inv Cb (ps ++ pinsAt fp1 t8.heap) σ9 H' t' → Ny H' → ∃ m, m < k ∧ ∃ j Hj, Inv Cb ps (wipe τ vs1) Hj t' ∧ tn1 j t'.heap ∧ (∀ b ∈ fp1, Hj b = none) ∧ W1 j m Hj := fun {t' H'} I' nx => by
          obtain ⟨m2, less, w2⟩ := hNy H' nx
          have pin1 : ∀ b ∈ fp1, ∀ u, t8.heap.get? b = some u → t'.heap.get? b = some u ∧ H' b = none := fun b hb u e =>
            have z := I'.pin (b, u) (List.mem_append_right _ (List.mem_append_right _ (mem_pinsAt hb e)))
            ⟨z.1, z.2.1⟩
          refine ⟨m2, less, j + 1, H', I'.unpinned.weak (by rw [← same9, wipe_length]) (fun j v e => by rw [← same9] at e; exact (wipe_some e).1), T1.keep _ _ _ st8 fun b hb u e => (pin1 b hb u e).1, fun b hb => ?_, w2⟩
          obtain ⟨u, e, _⟩ := T1.obj _ _ st8 b hb
          exact (pin1 b hb u e).2
        match b, q10 with
        | false, q10 =>
          simp only [Bool.false_eq_true, if_false] at q10 ⊢
          exact back I10 q10
        | true, q10 =>
          simp only [if_true] at q10 ⊢
          refine thnF (pk.run _ t10 σ9 H10 _ I10 q10) fun a t11 ⟨y, H11, I11, r11, q11⟩ => ?_
          refine thnF (pv.run _ t11 σ9 H11 _ I11 q11) fun b t12 ⟨z, H12, I12, r12, H13, dp, nx⟩ => ?_
          exact put_comp (X := Cb) room I12 dp r11 r12 fun t13 I13 => back I13 nx
    exact inner_start all (T1.self X.A 0 _ _ _ st5 all)
  · intro env it Dd R J turn n t hJ
    refine outer_loop (plain1 env) J (fun n t hJ => wpAny_mono (turn n t hJ) (fun r t1 m1 => ?_) fun _ _ z => z) n hJ
    match r, m1 with
    | none, m1 => exact m1
    | some v, m1 => exact wpAny_mono m1 (fun _ t2 m2 => wpAny_mono m2 (fun _ t3 m3 => wpAny_mono m3 (fun ok t4 m4 => by
        match ok, m4 with
        | false, m4 => exact m4
        | true, m4 => exact thnF m4 fun a t5 m5 => thnF m5 fun b t6 m6 => m6) fun _ _ z => z) fun _ _ z => z) fun _ _ z => z
theorem pe_dg2 {o : HO} {kx vx tg iter tg1 iter1 : Expr} {ifs ifs1 : List Expr} {scope : Scope} {own : List (Str × Nat)} {vs1 : List Nat} {pos : Pos} {wi wi1 : TI} {g g1 : TG} {tt tt1 : TT} {tk tv : TE} (emp : Emp o) (calm : X.calm = true) (room : X.A.units + 1 < cLine) (nd : X.N.Nodup) (walked : PI X tg iter wi) (ok : BlkOk X.N X.env.scope scope own) (inn : ∀ i ∈ vs1, i ∈ own.map (·.2))
    (target : ∀ (s : Shared) (H : Hp) (C : Addr) (cl : List (Str × Addr)) (fp : List Addr), PG (X.blk s H scope (compEnvC scope cl C X.env) fp) tg g) (tests : ∀ (s : Shared) (H : Hp) (C : Addr) (cl : List (Str × Addr)) (fp : List Addr), PTs (X.blk s H scope (compEnvC scope cl C X.env) fp) ifs tt)
    (walked1 : ∀ (s : Shared) (H : Hp) (C : Addr) (cl : List (Str × Addr)) (fp : List Addr), PI (X.blk s H scope (compEnvC scope cl C X.env) fp) tg1 iter1 wi1)
    (target1 : ∀ (s : Shared) (H : Hp) (C : Addr) (cl : List (Str × Addr)) (fp : List Addr), PG (X.blk s H scope (compEnvC scope cl C X.env) fp) tg1 g1) (tests1 : ∀ (s : Shared) (H : Hp) (C : Addr) (cl : List (Str × Addr)) (fp : List Addr), PTs (X.blk s H scope (compEnvC scope cl C X.env) fp) ifs1 tt1)
    (key : ∀ (s : Shared) (H : Hp) (C : Addr) (cl : List (Str × Addr)) (fp : List Addr), PE (X.blk s H scope (compEnvC scope cl C X.env) fp) kx tk) (val : ∀ (s : Shared) (H : Hp) (C : Addr) (cl : List (Str × Addr)) (fp : List Addr), PE (X.blk s H scope (compEnvC scope cl C X.env) fp) vx tv)
    (plain : ∀ x, foldedSetIterable iter X.env x = pure x := by intro _; rfl) (plain1 : ∀ env x, foldedSetIterable iter1 env x = pure x := by intro _ _; rfl) : PE X (two kx vx tg iter tg1 iter1 ifs ifs1 scope pos) (tDg o wi g tt (tIn wi1 g1 tt1 tk tv vs1) (own.map (·.2))) := by
  refine ⟨fun pins s σ H Q I h => ?_⟩
  rw [arm_eval_DictComp]
  refine dg2_core emp calm room nd walked ok inn target tests walked1 target1 tests1 key val plain plain1 I h fun Dd C t m H' I' q hn f => ⟨m, hn, fun h2 sb => ?_⟩
  have ⟨f0, f1, f2, f3, f4, f5⟩ := f
  exact ⟨.ref Dd, H', I'.turned (t' := t.toks) (fun b u hb e => (sb.2 b hb).trans e) f0 f1 f3 f4 f5, rfl, q⟩
theorem ps_setDg2 {o : HO} {kx vx tg iter tg1 iter1 : Expr} {ifs ifs1 : List Expr} {scope : Scope} {own : List (Str × Nat)} {vs1 : List Nat} {pos : Pos} {wi wi1 : TI} {g g1 : TG} {tt tt1 : TT} {tk tv : TE} {i : Nat} {y : Str} {py spos : Pos} (emp : Emp o) (calm : X.calm = true) (room : X.A.units + 1 < cLine) (nd : X.N.Nodup) (walked : PI X tg iter wi) (ok : BlkOk X.N X.env.scope scope own) (inn : ∀ i ∈ vs1, i ∈ own.map (·.2))
    (target : ∀ (s : Shared) (H : Hp) (C : Addr) (cl : List (Str × Addr)) (fp : List Addr), PG (X.blk s H scope (compEnvC scope cl C X.env) fp) tg g) (tests : ∀ (s : Shared) (H : Hp) (C : Addr) (cl : List (Str × Addr)) (fp : List Addr), PTs (X.blk s H scope (compEnvC scope cl C X.env) fp) ifs tt)
    (walked1 : ∀ (s : Shared) (H : Hp) (C : Addr) (cl : List (Str × Addr)) (fp : List Addr), PI (X.blk s H scope (compEnvC scope cl C X.env) fp) tg1 iter1 wi1)
    (target1 : ∀ (s : Shared) (H : Hp) (C : Addr) (cl : List (Str × Addr)) (fp : List Addr), PG (X.blk s H scope (compEnvC scope cl C X.env) fp) tg1 g1) (tests1 : ∀ (s : Shared) (H : Hp) (C : Addr) (cl : List (Str × Addr)) (fp : List Addr), PTs (X.blk s H scope (compEnvC scope cl C X.env) fp) ifs1 tt1)
    (key : ∀ (s : Shared) (H : Hp) (C : Addr) (cl : List (Str × Addr)) (fp : List Addr), PE (X.blk s H scope (compEnvC scope cl C X.env) fp) kx tk) (val : ∀ (s : Shared) (H : Hp) (C : Addr) (cl : List (Str × Addr)) (fp : List Addr), PE (X.blk s H scope (compEnvC scope cl C X.env) fp) vx tv)
    (plain : ∀ x, foldedSetIterable iter X.env x = pure x := by intro _; rfl) (plain1 : ∀ env x, foldedSetIterable iter1 env x = pure x := by intro _ _; rfl)
    (here : X.N[i]? = some y) (loc : X.env.scope.names.lookup y = some .local) (swap : swapsWith (two kx vx tg iter tg1 iter1 ifs ifs1 scope pos) (some (.Name y py)) spos.line X.env = pure true) :
    PS X (.Assign [.Name y py] (two kx vx tg iter tg1 iter1 ifs ifs1 scope pos) spos) (tAsg (tDg o wi g tt (tIn wi1 g1 tt1 tk tv vs1) (own.map (·.2))) (gName i)) := by
  refine ⟨fun pins s σ H D I h => ?_⟩
  rw [exec_Assign_Name_used _ _ _ _ swap]
  refine wpAny_bind (wpAny_standAt (wpAny_bind ?_))
  show wpAny _ X.A (do let _ ← comprehension (two kx vx tg iter tg1 iter1 ifs ifs1 scope pos) scope X.env (firstIterPos [⟨tg, iter, ifs, 0⟩, ⟨tg1, iter1, ifs1, 0⟩] pos) newDict false (eval iter X.env) (some (assign (.Name y py) X.env))) _ _ s
  have h : (tDg o wi g tt (tIn wi1 g1 tt1 tk tv vs1) (own.map (·.2))) σ H (fun x H1 => gName i x σ H1 D.nx) := h
  refine wpAny_bind (thn (dg2_core (Qf := fun _ t => SP X pins D .next t) emp calm room nd walked ok inn target tests walked1 target1 tests1 key val plain plain1 I h fun L C t m H' I' q hn f => ?_) fun _ t hq => wpAny_pure (wpAny_pure hq))
  show wpAny _ _ (assign (.Name y py) X.env (.ref L)) _ _ _
  refine wpAny_assign_Name (store_ok2 (v := V.ref L) I' nd here (.inl loc) rfl (fun t2 I2 ⟨a, sb, ha⟩ => ?_) (.inr loc))
  have ⟨f0, f1, f2, f3, f4, f5⟩ := f
  have neq : C ≠ a := ha.elim (fun z => z ▸ f1) fun z e => f4 y a z e.symm
  exact ⟨m, hn.sameBut sb neq, fun h3 sb3 => ⟨_, H', I2.turned (t' := t2.toks) (fun b u hb e => (sb3.2 b hb).trans e) f0 f1 f3 f4 f5, q⟩⟩
theorem sw_dict {kx vx : Expr} {gs : List Comprehension} {scope : Scope} {pos py : Pos} {y : Str} {l : Nat} {env : Env} (fn : env.scope.kind = .function) (loc : env.scope.names.lookup y = some .local) (line : (py.line == pos.line) = true)
    (other : (scope.names.any fun (n, k) => n == y && (k == .local || k == .cell)) = false) : swapsWith (.DictComp kx vx gs scope pos) (some (.Name y py)) l env = pure true := by
  have k1 : env.kindOf y = some .local := loc
  have k2 : env.blockKind = .function := by
    unfold Env.blockKind
    rw [fn]; rfl
  unfold swapsWith
  simp only [k2, k1, other, Expr.pos, line]
  rfl
end
end L2
/-! PwW: dicts locked while they are walked; dict comprehensions read. -/
namespace Pw
open PySem L2
def dicty : HO → Bool
  | .dK _ => true
  | .dT _ => true
  | _ => false
theorem dicty_mut {u : HO} (h : dicty u = true) : Mut (some u) := by
  cases u <;> first | exact True.intro | cases h
/-- the same things may be read -/
structure Sm (H H' : Hp) : Prop where
  t : ∀ a xs, H a = some (.tup xs) → H' a = some (.tup xs)
  l : ∀ a xs, Rd H a (.lst xs) → Rd H' a (.lst xs)
  k : ∀ a ks, Rd H a (.dK ks) → Rd H' a (.dK ks)
  s : ∀ a ks, Rd H a (.dT ks) → Rd H' a (.dT ks)
  o : ∀ a C dx fs, H a = some (.ins C dx fs) → H' a = some (.ins C dx fs)
section
variable {K : PySem.W.Frag} {H H' : Hp} {d : Addr} {u : HO} {od : Obj}
theorem Sm.lock (hd : H d = some u) (hu : dicty u = true) : Sm H (upd H d (.frz od u)) := by
  have other : ∀ a o, H a = some o → a ≠ d → (upd H d (.frz od u)) a = some o := fun a o e n => by rw [upd_ne n]; exact e
  have rd : ∀ a o, dicty o = true ∨ (∃ xs, o = .lst xs) → Rd H a o → Rd (upd H d (.frz od u)) a o := fun a o w h => by
    by_cases e : a = d
    · subst e
      rcases h with h | ⟨o', h⟩
      · rw [hd] at h; cases h; exact .inr ⟨od, upd_same⟩
      · rw [hd] at h; cases h; cases hu
    · exact h.imp (fun h => other a _ h e) fun ⟨o', h⟩ => ⟨o', other a _ h e⟩
  refine ⟨fun a xs h => ?_, fun a xs h => rd a _ (.inr ⟨xs, rfl⟩) h, fun a ks h => rd a _ (.inl rfl) h, fun a ks h => rd a _ (.inl rfl) h, fun a C dx fs h => ?_⟩
  · exact other a _ h fun e => by subst e; rw [hd] at h; cases h; cases hu
  · exact other a _ h fun e => by subst e; rw [hd] at h; cases h; cases hu
theorem Sm.unlock (hd : H d = some (.frz od u)) (hu : dicty u = true) : Sm H (upd H d u) := by
  have other : ∀ a o, H a = some o → a ≠ d → (upd H d u) a = some o := fun a o e n => by rw [upd_ne n]; exact e
  have rd : ∀ a o, (∀ o' v, o ≠ .frz o' v) → Rd H a o → Rd (upd H d u) a o := fun a o w h => by
    by_cases e : a = d
    · subst e
      rcases h with h | ⟨o', h⟩
      · rw [hd] at h; cases h; exact absurd rfl (w od u)
      · rw [hd] at h; cases h; exact .inl upd_same
    · exact h.imp (fun h => other a _ h e) fun ⟨o', h⟩ => ⟨o', other a _ h e⟩
  refine ⟨fun a xs h => ?_, fun a xs h => rd a _ (fun _ _ z => nomatch z) h, fun a ks h => rd a _ (fun _ _ z => nomatch z) h, fun a ks h => rd a _ (fun _ _ z => nomatch z) h, fun a C dx fs h => ?_⟩
  · exact other a _ h fun e => by subst e; rw [hd] at h; cases h
  · exact other a _ h fun e => by subst e; rw [hd] at h; cases h
mutual
theorem Rp.same (e : Sm H H') : ∀ (d : D) (v : V), Rp K H d v → Rp K H' d v
  | .non, _, h => h
  | .bl _, _, h => h
  | .int _, _, h => h
  | .str _, _, h => h
  | .byt _, _, h => h
  | .ob _ _ ds, _, ⟨a, dx, xs, h1, h2, h0, h3⟩ => ⟨a, dx, xs, h1, e.o _ _ _ _ h2, h0, RpL.same e ds xs h3⟩
  | .lst ds, _, ⟨a, xs, h1, h2, h3⟩ => ⟨a, xs, h1, h2.imp (e.l a xs) id, RpL.same e ds xs h3⟩
  | .tup ds, _, ⟨a, xs, h1, h2, h3⟩ => ⟨a, xs, h1, e.t _ _ h2, RpL.same e ds xs h3⟩
  | .dk _ ds, _, ⟨a, xs, h1, h2, h0, h3⟩ => ⟨a, xs, h1, e.k _ _ h2, h0, RpL.same e ds xs h3⟩
  | .dt _ ds, _, ⟨a, xs, h1, h2, h0, h3⟩ => ⟨a, xs, h1, e.s _ _ h2, h0, RpL.same e ds xs h3⟩
theorem RpL.same (e : Sm H H') : ∀ (ds : List D) (xs : List V), RpL K H ds xs → RpL K H' ds xs
  | [], _, h => h
  | d :: ds, _, ⟨x, r, h1, h2, h3⟩ => ⟨x, r, h1, Rp.same e d x h2, RpL.same e ds r h3⟩
end
theorem Cell.same {B B' : Hp} {a : Addr} {c : D} (e : Sm B B') (q : H' a = H a) (h : Cell K B H a c) : Cell K B' H' a c := by
  cases c with
  | lst ds => obtain ⟨xs, h1, h2⟩ := h; exact ⟨xs, by rw [q]; exact h1, RpL.same e _ _ h2⟩
  | dk ks ds => obtain ⟨xs, h1, h0, h2⟩ := h; exact ⟨xs, by rw [q]; exact h1, h0, RpL.same e _ _ h2⟩
  | dt ks ds => obtain ⟨xs, h1, h0, h2⟩ := h; exact ⟨xs, by rw [q]; exact h1, h0, RpL.same e _ _ h2⟩
  | ob C ns ds => obtain ⟨dx, xs, h1, h0, h2⟩ := h; exact ⟨dx, xs, by rw [q]; exact h1, h0, RpL.same e _ _ h2⟩
  | _ => exact h
theorem hid_lock {m : Addr → Prop} (hm : ¬ m d) (hd : H d = some u) (hu : dicty u = true) : Sm (hid m H) (hid m (upd H d (.frz od u))) := by
  rw [hid_new hm]
  exact Sm.lock (by rw [hid_out hm]; exact hd) hu
theorem hid_unlock {m : Addr → Prop} (hm : ¬ m d) (hd : H d = some (.frz od u)) (hu : dicty u = true) : Sm (hid m H) (hid m (upd H d u)) := by
  rw [hid_new hm]
  exact Sm.unlock (by rw [hid_out hm]; exact hd) hu
end

section
variable {K : PySem.W.Frag} {We : WX} {X : Addr → Prop} {a0 : Addr} {H0 : Hp} {M M' : Msk} {ad ad' : Nat → List Addr} {σ σ' τ : L2.St} {H H' H1 : Hp} {env env' env'' : List Bd} {l l' : Lv} {p q : Bool} {d0 d' e : D} {ta tb te ti tx tk tv : TE} {i j : Nat} {b c : Bool} {ts tu : TS} {o : Out} {Dn : Ends} {tsA : TA} {d : Addr} {u : HO} {od : Obj} {g : TG} {vs : List Nat}
mutual
theorem Ow.same {B B' H H' : Hp} (e : Sm B B') : ∀ (t : Tr) (v : V) (as : List Addr), (∀ a ∈ as, H' a = H a) → Ow K B H t v as → Ow K B' H' t v as
  | .f d, _, _, _, ⟨h1, h2⟩ => ⟨h1, Rp.same e _ _ h2⟩
  | .n k ts, _, _, q, ⟨a, xs, rest, h1, h2, h3, h4⟩ => by
    subst h2
    exact ⟨a, xs, rest, h1, rfl, h3.eq (q a (List.mem_cons_self ..)), OwL.same e ts xs rest (fun b hb => q b (List.mem_cons_of_mem _ hb)) h4⟩
theorem OwL.same {B B' H H' : Hp} (e : Sm B B') : ∀ (ts : List Tr) (xs : List V) (as : List Addr), (∀ a ∈ as, H' a = H a) → OwL K B H ts xs as → OwL K B' H' ts xs as
  | [], _, _, _, h => h
  | t :: ts, _, _, q, ⟨x, r, a1, a2, h1, h2, h3, h4⟩ => by
    subst h2
    exact ⟨x, r, a1, a2, h1, rfl, Ow.same e t x a1 (fun b hb => q b (List.mem_append_left _ hb)) h3, OwL.same e ts r a2 (fun b hb => q b (List.mem_append_right _ hb)) h4⟩
end
theorem ER.lock (E : ER K X a0 H0 M ad σ H env) (hd : H d = some u) (hu : dicty u = true) (hm : ¬ M.m d) (hx : ¬ X d) : ER K X a0 (hid M.m (upd H d (.frz od u))) M ad σ (upd H d (.frz od u)) env := by
  have nd : ∀ a, M.m a → a ≠ d := fun a h z => hm (z ▸ h)
  have nx : ∀ a, X a → a ≠ d := fun a h z => hx (z ▸ h)
  refine ⟨E.len, hid_all, fun a ha => by rw [upd_ne (nx a ha)]; exact E.xin a ha, fun a ha => by rw [upd_ne (nd a ha)]; exact E.min a ha, fun a ha => hid_in ha, fun j e q => ?_, fun j e q => ?_, fun j t q => ?_, E.xt, fun j t q => ?_, E.dj, E.t0⟩
  · obtain ⟨w, h1, h2⟩ := E.im j e q
    exact ⟨w, h1, Rp.same (hid_lock (fun z => z.elim hm hx) hd hu) _ _ h2⟩
  · obtain ⟨w, h1, h2⟩ := E.rd j e q
    exact ⟨w, h1, Rp.same (hid_lock hm hd hu) _ _ h2⟩
  · obtain ⟨h1, h2, x, h3, h4⟩ := E.ws j t q
    exact ⟨h1, h2, x, h3, Ow.same (hid_lock (fun z => z.elim hm hx) hd hu) _ _ _ (fun b hb => upd_ne (nd _ (M.le _ (h1 b hb)))) h4⟩
  · obtain ⟨x, as, h1, h2, h3, h4⟩ := E.tq j t q
    exact ⟨x, as, h1, h2, h3, Ow.same (hid_lock (fun z => z.elim hm hx) hd hu) _ _ _ (fun b hb => upd_ne (nx _ (h2 b hb).1)) h4⟩
theorem ER.locked (E' : ER K X a0 (hid M.m (upd H d (.frz od u))) M' ad' σ' H' env') (hm : ¬ M.m d) : H' d = some (.frz od u) ∧ ¬ M'.m d := by
  have h0 : (hid M.m (upd H d (.frz od u))) d = some (.frz od u) := by rw [hid_out hm, upd_same]
  exact ⟨E'.ex d _ h0, fun z => by rw [E'.mout d z] at h0; cases h0⟩
theorem ER.unlock (E : ER K X a0 H0 M ad σ H env) (hd : H d = some u) (hu : dicty u = true) (hm : ¬ M.m d) (hx : ¬ X d) (E' : ER K X a0 (hid M.m (upd H d (.frz od u))) M' ad' σ' H' env') : ER K X a0 H0 M' ad' σ' (upd H' d u) env' := by
  obtain ⟨hd', hm'⟩ := E'.locked hm
  have nd : ∀ a, M'.m a → a ≠ d := fun a h z => hm' (z ▸ h)
  have nx : ∀ a, X a → a ≠ d := fun a h z => hx (z ▸ h)
  have up : ∀ a v, H0 a = some v → (hid M.m (upd H d (.frz od u))) a = some v ∨ (a = d ∧ v = u) := fun a v h => by
    have m : ¬ M.m a := fun z => by rw [E.mout a z] at h; cases h
    by_cases z : a = d
    · refine .inr ⟨z, ?_⟩
      have := E.ex a v h
      rw [z, hd] at this; exact (Option.some.inj this).symm
    · refine .inl ?_
      rw [hid_out m, upd_ne z]; exact E.ex a v h
  refine ⟨E'.len, fun a v h => ?_, fun a ha => by rw [upd_ne (nx a ha)]; exact E'.xin a ha, fun a ha => by rw [upd_ne (nd a ha)]; exact E'.min a ha, fun a ha => ?_, fun j e q => ?_, fun j e q => ?_, fun j t q => ?_, E'.xt, fun j t q => ?_, E'.dj, E'.t0⟩
  · rcases up a v h with z | ⟨z, z'⟩
    · by_cases w : a = d
      · subst w
        rw [hid_out hm, upd_same] at z
        rw [upd_same]
        have := E.ex a v h
        rw [hd] at this; exact this
      · rw [upd_ne w]; exact E'.ex a v z
    · rw [z, z', upd_same]
  · have no := E'.mout a ha
    cases q : H0 a with
    | none => rfl
    | some v =>
      rcases up a v q with z | ⟨z, _⟩
      · rw [z] at no; cases no
      · exact absurd z (nd a ha)
  · obtain ⟨w, h1, h2⟩ := E'.im j e q
    exact ⟨w, h1, Rp.same (hid_unlock (fun z => z.elim hm' hx) hd' hu) _ _ h2⟩
  · obtain ⟨w, h1, h2⟩ := E'.rd j e q
    exact ⟨w, h1, Rp.same (hid_unlock hm' hd' hu) _ _ h2⟩
  · obtain ⟨h1, h2, x, h3, h4⟩ := E'.ws j t q
    exact ⟨h1, h2, x, h3, Ow.same (hid_unlock (fun z => z.elim hm' hx) hd' hu) _ _ _ (fun b hb => upd_ne (nd _ (M'.le _ (h1 b hb)))) h4⟩
  · obtain ⟨x, as, h1, h2, h3, h4⟩ := E'.tq j t q
    exact ⟨x, as, h1, h2, h3, Ow.same (hid_unlock (fun z => z.elim hm' hx) hd' hu) _ _ _ (fun b hb => upd_ne (nx _ (h2 b hb).1)) h4⟩

/-! ### the lock, where it is wanted -/
def Fz (i : Nat) (σ : L2.St) (H : Hp) : Prop := ∃ d od u, σ[i]? = some (some (V.ref d)) ∧ dicty u = true ∧ H d = some (.frz od u)
def wG (i : Nat) (wi : TI) : TI := fun σ H R => Fz i σ H → wi σ H R
def tLk (t : TE) : TE := fun σ H Q => tLockE t σ H Q ∨ t σ H Q
def tLkS (t : TS) : TS := fun D σ H => tLock t D σ H ∨ t D σ H
theorem pe_lk {X : Cx} {x : Expr} {t : TE} (h : PE X x t) : PE X x (tLk t) := ⟨fun pins s σ H Q I z => z.elim ((pe_lock h).run pins s σ H Q I) (h.run pins s σ H Q I)⟩
theorem ps_lk {X : Cx} {x : Stmt} {t : TS} (h : PS X x t) : PS X x (tLkS t) := ⟨fun pins s σ H D I z => z.elim ((ps_lock h).run pins s σ H D I) (h.run pins s σ H D I)⟩
def isDct : D → Bool
  | .dk _ _ => true
  | .dt _ _ => true
  | _ => false
theorem dct_at (hc : isDct d0 = true) {B : Hp} {v : V} (r : Rp K B d0 v) : ∃ a u, v = .ref a ∧ dicty u = true ∧ (B a = some u ∨ ∃ od, B a = some (.frz od u)) := by
  cases d0 with
  | dk ks ds => obtain ⟨a, xs, h1, h2, _⟩ := r; exact ⟨a, _, h1, rfl, h2⟩
  | dt ks ds => obtain ⟨a, xs, h1, h2, _⟩ := r; exact ⟨a, _, h1, rfl, h2⟩
  | _ => cases hc
theorem ef_lk {t t' : TE} (hi : env[i]? = some (.im d0)) (hc : isDct d0 = true) (h : EvF K p t' env env' e) (hg : ∀ σ H Q, Fz i σ H → t' σ H Q → t σ H Q) : EvF K p (tLk t) env env' e := fun X a0 H0 M ad σ H Q E k => by
  obtain ⟨v, h1, h2⟩ := E.im i _ hi
  obtain ⟨a, u, rfl, hu, hd⟩ := dct_at hc h2
  rcases hd with hd | ⟨od, hd⟩
  · obtain ⟨hm, hd⟩ := of_hid hd
    have hm1 : ¬ M.m a := fun z => hm (.inl z)
    have hx1 : ¬ X a := fun z => hm (.inr z)
    refine .inl ⟨a, u, hd, dicty_mut hu, fun od => hg _ _ _ ⟨a, od, u, h1, hu, upd_same⟩ ?_⟩
    refine h X a0 _ M ad σ _ _ (E.lock hd hu hm1 hx1) fun b H2 H3 hb hs E2 g0 e1 p1 r1 => ?_
    obtain ⟨q2, _⟩ := E2.locked hm1
    have q3 := g0 _ _ q2
    refine ⟨q3, ?_⟩
    have ba : b ≠ a := fun z => by rw [z, q2] at hb; cases hb
    have nH : ∀ c v, H c = some v → c ≠ a → (upd H a (.frz od u)) c = some v := fun c v z n => by rw [upd_ne n]; exact z
    refine k b (upd H2 a u) (upd H3 a u) (by rw [upd_ne ba]; exact hb) (fun c v z => ?_) (E.unlock hd hu hm1 hx1 E2) (fun c v z => ?_) (fun c v z => ?_) (fun hp c v z => ?_) ?_
    · by_cases w : c = a
      · rw [w, upd_same]; simp
      · rw [upd_ne w]; exact hs c v (nH c v z w)
    · by_cases w : c = a
      · rw [w, upd_same] at z ⊢; exact z
      · rw [upd_ne w] at z ⊢; exact g0 c v z
    · obtain ⟨z1, z2⟩ := of_hid z
      rw [hid_out z1]
      by_cases w : c = a
      · rw [w, upd_same]; rw [w, hd] at z2; exact z2
      · rw [upd_ne w]
        exact (of_hid (e1 c v (by rw [hid_out z1]; exact nH c v z2 w))).2
    · by_cases w : c = a
      · rw [w, upd_same]; rw [w, hd] at z; exact z
      · rw [upd_ne w]; exact p1 hp c v (nH c v z w)
    · exact r1.same (hid_unlock hm q2 hu) (upd_ne ba)
  · obtain ⟨_, hd⟩ := of_hid hd
    exact .inr (hg _ _ _ ⟨a, od, u, h1, hu, hd⟩ (h X a0 H0 M ad σ H Q E k))
def unD (Dn : Ends) (d : Addr) (od : Obj) (u : HO) : Ends := ⟨fun σ' H' => H' d = some (.frz od u) ∧ Dn.nx σ' (upd H' d u), fun v H' => H' d = some (.frz od u) ∧ Dn.rt v (upd H' d u), fun σ' H' => H' d = some (.frz od u) ∧ Dn.bk σ' (upd H' d u), fun σ' H' => H' d = some (.frz od u) ∧ Dn.ct σ' (upd H' d u)⟩
theorem OK.unlock (E : ER K X a0 H0 M ad σ H env) (hd : H d = some u) (hu : dicty u = true) (hm : ¬ M.m d) (hx : ¬ X d) (kE : ∀ e env, o ≠ .er e env) (k : OK K We X a0 H0 Dn o) : OK K We X a0 (hid M.m (upd H d (.frz od u))) (unD Dn d od u) o := by
  cases o with
  | nx env1 => exact fun M' ad' σ' H' E' => ⟨(E'.locked hm).1, k M' ad' σ' _ (E.unlock hd hu hm hx E')⟩
  | bk env1 => exact fun M' ad' σ' H' E' => ⟨(E'.locked hm).1, k M' ad' σ' _ (E.unlock hd hu hm hx E')⟩
  | ct env1 => exact fun M' ad' σ' H' E' => ⟨(E'.locked hm).1, k M' ad' σ' _ (E.unlock hd hu hm hx E')⟩
  | rx c => exact fun env1 M' ad' σ' v H' E' r => ⟨(E'.locked hm).1, k env1 M' ad' σ' v _ (E.unlock hd hu hm hx E') (Rp.same (hid_unlock hx (E'.locked hm).1 hu) _ _ r)⟩
  | rm c c' => exact fun env1 M' ad' σ' v H' h E' r => ⟨(E'.locked hm).1, k env1 M' ad' σ' v _ h (E.unlock hd hu hm hx E') (Rp.same (hid_unlock hx (E'.locked hm).1 hu) _ _ r)⟩
  | er e env1 => exact fun M' ad' σ' cls dd H' E' r => (kE e env1 rfl).elim
  | rt t =>
    exact fun env1 M' ad' σ' v as H' E' nd hn w => by
      have q := (E'.locked hm).1
      have ba : ∀ b ∈ as, b ≠ d := fun b hb z => by
        have := (hn b hb).1
        rw [z, hid_out hm, upd_same] at this; cases this
      refine ⟨q, k env1 M' ad' σ' v as _ (E.unlock hd hu hm hx E') nd (fun b hb => ⟨?_, (hn b hb).2⟩) (Ow.same (hid_unlock (fun z => z.elim hx fun z => ba d z rfl) q hu) _ _ _ (fun b hb => upd_ne (ba b hb)) w)⟩
      have := (hn b hb).1
      cases e : H0 b with
      | none => rfl
      | some o =>
        have m : ¬ M.m b := fun z => by rw [E.mout b z] at e; cases e
        rw [hid_out m, upd_ne (ba b hb), E.ex b o e] at this; cases this
  | rs c t => exact fun env1 M' ad' σ' v H' h E' r => ⟨(E'.locked hm).1, k env1 M' ad' σ' v _ h (E.unlock hd hu hm hx E') (Rp.same (hid_unlock (fun z => z.elim (E'.locked hm).2 hx) (E'.locked hm).1 hu) _ _ r)⟩
  | rf c =>
    exact fun env1 M' ad' σ' a H2 H' h E' g0 r => by
      have q := (E'.locked hm).1
      have ba : a ≠ d := fun z => by rw [z, q] at h; cases h
      have q' := g0 _ _ q
      refine ⟨q', k env1 M' ad' σ' a (upd H2 d u) _ (by rw [upd_ne ba]; exact h) (E.unlock hd hu hm hx E') (fun c v z => ?_) (r.same (hid_unlock hx q hu) (upd_ne ba))⟩
      by_cases w : c = d
      · rw [w, upd_same] at z ⊢; exact z
      · rw [upd_ne w] at z ⊢; exact g0 c v z
theorem sd_lk {t t' : TS} (hi : env[i]? = some (.im d0)) (hc : isDct d0 = true) (h : SD K We t' env o) (hg : ∀ D σ H, Fz i σ H → t' D σ H → t D σ H) (kE : o.noer = true := by rfl) : SD K We (tLkS t) env o := fun X a0 H0 M ad σ H Dn E k => by
  obtain ⟨v, h1, h2⟩ := E.im i _ hi
  obtain ⟨a, u, rfl, hu, hd⟩ := dct_at hc h2
  rcases hd with hd | ⟨od, hd⟩
  · obtain ⟨hm, hd⟩ := of_hid hd
    have hm1 : ¬ M.m a := fun z => hm (.inl z)
    have hx1 : ¬ X a := fun z => hm (.inr z)
    exact .inl ⟨a, u, hd, dicty_mut hu, fun od => hg _ _ _ ⟨a, od, u, h1, hu, upd_same⟩ (h X a0 _ M ad σ _ _ (E.lock hd hu hm1 hx1) (OK.unlock E hd hu hm1 hx1 (fun e env z => by rw [z] at kE; cases kE) k))⟩
  · obtain ⟨_, hd⟩ := of_hid hd
    exact .inr (hg _ _ _ ⟨a, od, u, h1, hu, hd⟩ (h X a0 H0 M ad σ H Dn E k))

/-! ### the keys of a dict, walked -/
def keyD : Key → D
  | .inl n => .int n
  | .inr s => .str s
theorem keyD_rp (k : Key) (B : Hp) : Rp K B (keyD k) (kV k) := by cases k <;> rfl
theorem keyD_eq {k : Key} {B : Hp} {v : V} (h : Rp K B (keyD k) v) : v = kV k := by cases k <;> exact h
theorem rpl_kd : ∀ (ks : List Key) (B : Hp), RpL K B (ks.map keyD) (ks.map kV)
  | [], _ => rfl
  | k :: ks, B => ⟨_, _, rfl, keyD_rp k B, rpl_kd ks B⟩
theorem scl_kd : ∀ ks : List Key, (ks.map keyD).all scl = true
  | [] => rfl
  | k :: ks => by
    rw [List.map_cons, List.all_cons, scl_kd ks]
    cases k <;> rfl
theorem zip_get {κ : Type} {ks : List κ} {xs : List V} (hl : xs.length = ks.length) {i : Nat} {k : κ} (h : ks[i]? = some k) : ∃ v, (ks.zip xs)[i]? = some (k, v) := by
  have hi : i < ks.length := (List.getElem?_eq_some_iff.mp h).1
  have hx : xs[i]? = some xs[i] := List.getElem?_eq_getElem (by omega)
  exact ⟨xs[i], by rw [List.getElem?_zip_eq_some]; exact ⟨h, hx⟩⟩
theorem ei_keysK {ks : List Key} {ds : List D} (hi : env[i]? = some (.im (.dk ks ds))) : EvI K l true (wG i (iKeys (tVar i))) env env (ks.map keyD) := fun X a0 H0 M ad σ H R E k hf => by
  obtain ⟨v, h1, a, xs, rfl, h2, h3, h4⟩ := E.im i _ hi
  obtain ⟨d, od, u, g1, gu, g2⟩ := hf
  rw [h1] at g1; cases g1
  obtain rfl : u = .dK (ks.zip xs) := by
    rcases h2 with h2 | ⟨o', h2⟩
    · have := (of_hid h2).2; rw [g2] at this; cases this
    · have := (of_hid h2).2; rw [g2] at this; cases this; rfl
  have hl : xs.length = ks.length := by rw [h4.length, h3]
  refine ⟨_, h1, a, od, rfl, .inl ⟨_, g2, k _ H E (Ex.refl _) (fun _ => Ex.refl _) fun n H2 g => ?_⟩⟩
  have hm : ¬ M.m a := fun z => by
    rcases h2 with h2 | ⟨o', h2⟩ <;> exact (of_hid h2).1 (.inl z)
  have fz : H2 a = some (.frz od (.dK (ks.zip xs))) := g a _ (by rw [hid_out hm]; exact g2)
  refine ⟨fun c hc => ?_, fun hn => ⟨fz, by simp [List.length_zip, hl]; simpa using hn⟩⟩
  rw [List.getElem?_map] at hc
  obtain ⟨k0, hk0, rfl⟩ := Option.map_eq_some_iff.mp hc
  obtain ⟨w, hw⟩ := zip_get hl hk0
  refine ⟨⟨fz, (List.getElem?_eq_some_iff.mp hw).1⟩, fun x H' y => .inl ⟨y.1, ?_⟩⟩
  obtain ⟨k1, v1, e1, rfl⟩ := y.2
  rw [hw] at e1; cases e1
  exact keyD_rp k0 _
theorem ei_keysT {ks : List (List Key)} {ds : List D} (hi : env[i]? = some (.im (.dt ks ds))) : EvI K l true (wG i (iKeys (tVar i))) env env (ks.map fun k => .tup (k.map keyD)) := fun X a0 H0 M ad σ H R E k hf => by
  obtain ⟨v, h1, a, xs, rfl, h2, h3, h4⟩ := E.im i _ hi
  obtain ⟨d, od, u, g1, gu, g2⟩ := hf
  rw [h1] at g1; cases g1
  obtain rfl : u = .dT (ks.zip xs) := by
    rcases h2 with h2 | ⟨o', h2⟩
    · have := (of_hid h2).2; rw [g2] at this; cases this
    · have := (of_hid h2).2; rw [g2] at this; cases this; rfl
  have hl : xs.length = ks.length := by rw [h4.length, h3]
  refine ⟨_, h1, a, od, rfl, .inr ⟨_, g2, k _ H E (Ex.refl _) (fun _ => Ex.refl _) fun n H2 g => ?_⟩⟩
  have hm : ¬ M.m a := fun z => by
    rcases h2 with h2 | ⟨o', h2⟩ <;> exact (of_hid h2).1 (.inl z)
  have fz : H2 a = some (.frz od (.dT (ks.zip xs))) := g a _ (by rw [hid_out hm]; exact g2)
  refine ⟨fun c hc => ?_, fun hn => ⟨fz, by simp [List.length_zip, hl]; simpa using hn⟩⟩
  rw [List.getElem?_map] at hc
  obtain ⟨k0, hk0, rfl⟩ := Option.map_eq_some_iff.mp hc
  obtain ⟨w, hw⟩ := zip_get hl hk0
  refine ⟨⟨fz, (List.getElem?_eq_some_iff.mp hw).1⟩, fun x H' y => .inr (.inr (.inl ⟨y.1, ?_⟩))⟩
  obtain ⟨k1, v1, b, e1, rfl, hb⟩ := y.2
  rw [hw] at e1; cases e1
  exact ⟨b, _, _, rfl, hb, rfl, scl_kd k0, fun B' => rpl_kd k0 B'⟩
end
end Pw
/-! PwX: dict comprehensions read. -/
namespace Pw
open PySem L2
theorem rpl_keyD {K : PySem.W.Frag} {B : Hp} : ∀ {ks : List Key} {vs : List V}, RpL K B (ks.map keyD) vs → vs = ks.map kV
  | [], _, h => h
  | k :: ks, _, ⟨x, r, h1, h2, h3⟩ => by rw [h1, keyD_eq h2, rpl_keyD h3]; rfl
/-- a kind of keys: what the dict holds, its data, a key as data -/
structure Kd (κ : Type) [DecidableEq κ] where
  ob : List (κ × V) → HO
  md : List (κ × D) → D
  key : κ → D
  nt : ∀ l xs, ob l ≠ .tup xs
  cell : ∀ (K : PySem.W.Frag) (B H : Hp) (a : Addr) (kvs : List (κ × V)) (l : List (κ × D)), H a = some (ob kvs) → RpK K B kvs l → Cell K B H a (md l)
  put : ∀ (K : PySem.W.Frag) (B H : Hp) (a : Addr) (k : κ) (y v : V) (kvs : List (κ × V)), Rp K B (key k) y → Ex B H → H a = some (ob kvs) → kvs.length < sizeLine → DPut H a y v (upd H a (ob (putK kvs k v)))
def kdK : Kd Key where
  ob := .dK
  md := dkL
  key := keyD
  nt := fun _ _ z => nomatch z
  cell := fun K B H a kvs l h r => by
    obtain ⟨xs, rfl, r2⟩ := of_rpk r
    exact ⟨xs, h, by simp, r2⟩
  put := fun K B H a k y v kvs r e h z => by
    rw [keyD_eq r]
    exact DPut.k h z
def kdT : Kd (List Key) where
  ob := .dT
  md := dtL
  key := fun k => .tup (k.map keyD)
  nt := fun _ _ z => nomatch z
  cell := fun K B H a kvs l h r => by
    obtain ⟨xs, rfl, r2⟩ := of_rpk r
    exact ⟨xs, h, by simp, r2⟩
  put := fun K B H a k y v kvs r e h z => by
    obtain ⟨b, xs, rfl, h1, h2⟩ := r
    have : xs = k.map kV := rpl_keyD h2
    subst this
    exact DPut.t h (e _ _ h1) z
section
variable {K : PySem.W.Frag} {We : WX} {X : Addr → Prop} {a0 : Addr} {H0 : Hp} {M M' : Msk} {ad ad' : Nat → List Addr} {σ σ' τ : L2.St} {H H' H1 : Hp} {env env' env'' : List Bd} {l l' : Lv} {p q : Bool} {d d' e : D} {ta tb te ti tx tk tv : TE} {i j : Nat} {b c : Bool} {ts tu : TS} {o : Out} {Dn : Ends} {tsA : TA} {Dl : Addr} {g : TG} {vs : List Nat}
theorem RpK.mono {κ : Type} {B B' : Hp} (e : Ex B B') : ∀ {kvs : List (κ × V)} {ll : List (κ × D)}, RpK K B kvs ll → RpK K B' kvs ll
  | [], [], _ => trivial
  | _ :: _, _ :: _, ⟨h1, h2, h3⟩ => ⟨h1, Rp.mono e _ _ h2, RpK.mono e h3⟩
  | [], _ :: _, h => h.elim
  | _ :: _, [], h => h.elim
/-- one turn that lays a pair and changes nothing else -/
structure TurnK (K : PySem.W.Frag) (l : Lv) (g : TG) (tk tv : TE) (vs : List Nat) (d : D) (env : List Bd) (kd vd : D) : Prop where
  go : ∃ envt, TgD K l g d env envt ∧ EvD K .l2 true tk envt envt kd ∧ EvD K .l2 true tv envt envt vd ∧ (vs.all fun v => !isMu envt[v]?) = true ∧ env = wipeE envt vs
def putAll {κ α : Type} [DecidableEq κ] (acc : List (κ × α)) (ps : List (κ × α)) : List (κ × α) := ps.foldl (fun a kv => putA a kv.1 kv.2) acc
theorem putAll_len {κ α : Type} [DecidableEq κ] : ∀ (ps acc : List (κ × α)), (putAll acc ps).length ≤ acc.length + ps.length
  | [], acc => Nat.le_refl _
  | p :: ps, acc => by
    have := putAll_len ps (putA acc p.1 p.2)
    have h := putA_len (l := acc) (k := p.1) (v := p.2)
    show (putAll (putA acc p.1 p.2) ps).length ≤ acc.length + (ps.length + 1)
    omega
theorem putAll_app {κ α : Type} [DecidableEq κ] (acc ps qs : List (κ × α)) : putAll acc (ps ++ qs) = putAll (putAll acc ps) qs := List.foldl_append ..
theorem putAll_take {κ α : Type} [DecidableEq κ] {acc ps : List (κ × α)} {i : Nat} {x : κ × α} (h : ps[i]? = some x) : putAll acc (ps.take (i + 1)) = putA (putAll acc (ps.take i)) x.1 x.2 := by
  rw [List.take_add_one, h, putAll_app]
  rfl
/-- a walk that lays a pair a turn -/
theorem walk_put {κ : Type} [DecidableEq κ] (C : Kd κ) (hl : l.lp = true) {J : It} {ds : List D} {ps : List (κ × D)} {acc0 : List (κ × D)} {kvs0 : List (κ × V)} {B H4 : Hp} {Fin : Hp → Prop} (nM : ¬ M.m Dl) (bD : B Dl = none) (it : ItOk K J ds (mx l X) B) (hw : TgW g vs)
    (hlen : ps.length = ds.length) (hn : acc0.length + ds.length < 100000) (turn : ∀ (i : Nat) d kv, ds[i]? = some d → ps[i]? = some kv → TurnK K l g tk tv vs d env (C.key kv.1) kv.2)
    (E : ER K X a0 B (M.hide Dl) ad (wipe τ vs) H4 env) (hD : H4 Dl = some (C.ob kvs0)) (hr : RpK K (hid (fun b => (M.hide Dl).m b ∨ X b) H4) kvs0 acc0)
    (fin : ∀ H kvs, ER K X a0 B (M.hide Dl) ad (wipe τ vs) H env → Ex (hid (fun b => b = Dl) H4) H → H Dl = some (C.ob kvs) → RpK K (hid (fun b => (M.hide Dl).m b ∨ X b) H) kvs (putAll acc0 ps) → Fin H) :
    ∃ W : Nat → Nat → Hp → Prop, (∃ m, W 0 m H4) ∧ ∀ i m Hc, W i m Hc →
      (J.stop i Hc ∧ Fin Hc) ∨ (J.go i Hc ∧ ∃ Nx : Hp → Prop, (∀ Hn, Nx Hn → ∃ m1, m1 < m ∧ W (i + 1) m1 Hn) ∧ ∀ x Hn, J.yld i Hc x Hn → g x (wipe τ vs) Hn fun σ2 H2 => wipe σ2 vs = wipe τ vs ∧ tYes σ2 H2 fun b H3 => if b = true then tPut tk tv Dl σ2 H3 Nx else Nx H3) := by
  let P : Nat → Hp → Prop := fun i H => ∃ kvs, ER K X a0 B (M.hide Dl) ad (wipe τ vs) H env ∧ Ex (hid (fun b => b = Dl) H4) H ∧ H Dl = some (C.ob kvs) ∧ RpK K (hid (fun b => (M.hide Dl).m b ∨ X b) H) kvs (putAll acc0 (ps.take i))
  refine ⟨fun i m H => m = ds.length - i ∧ i ≤ ds.length ∧ P i H, ⟨ds.length, by simp, Nat.zero_le _, kvs0, E, hid_all, hD, hr⟩, ?_⟩
  rintro i m H ⟨rfl, hle, kvs, Ei, exi, hDi, hri⟩
  obtain ⟨it1, it2⟩ := it i H Ei.ex
  by_cases hlt : i < ds.length
  · refine .inr ?_
    have hd : ds[i]? = some ds[i] := List.getElem?_eq_getElem hlt
    have hp : ps[i]? = some ps[i] := List.getElem?_eq_getElem (by omega)
    obtain ⟨go, yl⟩ := it1 _ hd
    obtain ⟨envt, hT, hK, hV, hmu, henv⟩ := (turn i _ _ hd hp).go
    refine ⟨go, P (i + 1), fun Hn n => ⟨ds.length - (i + 1), by omega, rfl, hlt, n⟩, fun x H2 y => ?_⟩
    obtain ⟨gx, E2, r2⟩ := turn_in hl Ei (yl x H2 y)
    refine hw.mono _ _ _ _ _ (fun σ3 H3 z => ⟨z.1.trans wipe_wipe, z.2 (z.1.trans wipe_wipe)⟩) (hw.w x (L2.wipe τ vs) H2 (fun σ3 H3 => L2.wipe σ3 vs = L2.wipe τ vs → _) ?_)
    refine hT X a0 _ _ ad _ H2 x _ E2 r2 fun σ3 E3 hσ => ?_
    show tPut tk tv Dl σ3 H2 (P (i + 1))
    refine hK X a0 _ _ ad σ3 H2 _ E3 fun y1 H5 E5 e5 p5 r5 => ?_
    refine hV X a0 _ _ ad σ3 H5 _ E5 fun v H6 E6 e6 p6 r6 => ?_
    have g6 : Ex H H6 := (gx.trans (p5 rfl)).trans (p6 rfl)
    have hD6 := g6 _ _ hDi
    have hri6 := RpK.mono (hid_ex g6) hri
    have hz : kvs.length < sizeLine := by
      rw [rpk_len hri]
      have a1 := putAll_len (ps.take i) acc0
      have a2 : (ps.take i).length ≤ ds.length := by rw [List.length_take]; omega
      exact Nat.lt_of_le_of_lt (Nat.le_trans a1 (Nat.add_le_add_left a2 _)) (Nat.lt_of_lt_of_le hn (by decide))
    refine ⟨_, C.put K _ H6 Dl (ps[i].1) y1 v kvs (Rp.mono (hid_ex (p6 rfl)) _ _ r5) hid_all hD6 hz, _, ?_, fun b u hb => ?_, upd_same, ?_⟩
    · have E7 := ((E6.wipe hmu).1).updHid bD nM (C.nt (putK kvs (ps[i].1) v))
      rw [hσ, ← henv] at E7
      exact E7
    · obtain ⟨z1, z2⟩ := of_hid hb
      rw [upd_ne z1]
      exact g6 _ _ (exi b u hb)
    · rw [putAll_take hp, show hid (fun b => (M.hide Dl).m b ∨ X b) (upd H6 Dl (C.ob (putK kvs (ps[i].1) v))) = hid (fun b => (M.hide Dl).m b ∨ X b) H6 from hid_upd (.inl (.inr rfl))]
      exact rpk_put r6 hri6
  · have e : i = ds.length := by omega
    subst e
    refine .inl ⟨it2 (Nat.le_refl _), fin H kvs Ei exi hDi ?_⟩
    rw [← hlen, List.take_length] at hri
    exact hri
/-- {k: v for target in iter}, nothing changed within -/
theorem ef_dg {κ : Type} [DecidableEq κ] (C : Kd κ) (hl : l.lp = true) {wi : TI} {ds : List D} {ps : List (κ × D)} (hi : EvI K l true wi env env ds) (hw : TgW g vs) (han : ∀ v ∈ vs, env[v]? = some .an) (hlen : ps.length = ds.length) (hn : ds.length < 100000)
    (turn : ∀ (i : Nat) d kv, ds[i]? = some d → ps[i]? = some kv → TurnK K l g tk tv vs d env (C.key kv.1) kv.2) : EvF K true (tDg (C.ob []) wi g tYes (tPut tk tv) vs) env env (C.md (putAll [] ps)) := fun X a0 H0 M ad σ H Q E k =>
  hi X a0 H0 M ad σ H _ E fun J H1 E1 e1 p1 it => fun Dl hD => by
    have g0 : Ex H1 (upd H1 Dl (C.ob [])) := Ex.new hD
    have nM : ¬ M.m Dl := fun z => (E1.min _ z).1 hD
    have nX : ¬ X Dl := fun z => (E1.has z).1 hD
    have bD : (hid M.m H1) Dl = none := by rw [hid_out nM]; exact hD
    have σan : ∀ (j : Nat) b, env[j]? = some b → b = .an ∨ (wipe σ vs)[j]? = σ[j]? := fun j b hb => by
      by_cases m : j ∈ vs
      · rw [han j m] at hb; exact .inl (Option.some.inj hb).symm
      · rw [wipe_get, if_neg fun z => m z.1]; exact .inr rfl
    have E1w : ER K X a0 (hid M.m H1) M ad (wipe σ vs) H1 env := (E1.rebase).anyAt (wipe_length _ _) σan
    have ES : ER K X a0 (hid M.m H1) (M.hide Dl) ad (wipe σ vs) (upd H1 Dl (C.ob [])) env := E1w.mask hD g0 (by rw [upd_same]; exact ⟨by simp, fun xs e => C.nt _ xs (Option.some.inj e)⟩)
    refine walk_put C hl nM bD it hw hlen (acc0 := []) (by simpa using hn) turn ES (kvs0 := []) upd_same trivial fun H' kvs E' ex' hD' hr' => ?_
    have back := (E'.unhide bD nM nX)
    have EF : ER K X a0 (hid M.m H1) M ad σ (hid (fun b => b = Dl) H') env := back.anyAt (wipe_length _ _).symm fun j b hb => by
      by_cases m : j ∈ vs
      · rw [han j m] at hb; exact .inl (Option.some.inj hb).symm
      · rw [wipe_get, if_neg fun z => m z.1]; exact .inr rfl
    have ne1 : ∀ b o, H1 b = some o → b ≠ Dl := fun b o h z => by rw [z, hD] at h; cases h
    have all : Ex H1 (hid (fun b => b = Dl) H') := fun b o h => by
      have n := ne1 b o h
      rw [hid1 n]
      exact ex' b o (by rw [hid1 n, upd_ne n]; exact h)
    refine k Dl (hid (fun b => b = Dl) H') H' (hid_in (m := fun b => b = Dl) rfl) (fun b o hb => ?_) (E1.back EF) hid_all (e1.trans (hid_ex all)) (fun z => (p1 z).trans all) (C.cell K _ _ _ _ _ hD' (by rw [← hid_hide nM nX]; exact hr'))
    rw [all b o ((p1 rfl) b o hb)]; simp
/-- a turn of the outer walk: the inner items and the pairs they lay -/
structure TurnO (K : PySem.W.Frag) (l l1 : Lv) (g g1 : TG) (wi1 : TI) (tk tv : TE) (vs vs1 : List Nat) (d : D) (env : List Bd) {κ : Type} [DecidableEq κ] (C : Kd κ) (ps : List (κ × D)) : Prop where
  go : ∃ envt ds1, TgD K l g d env envt ∧ EvI K l1 true wi1 envt envt ds1 ∧ (∀ v ∈ vs1, envt[v]? = some .an) ∧ (vs.all fun v => !isMu envt[v]?) = true ∧ env = wipeE envt vs ∧ ps.length = ds1.length ∧
    ∀ (i : Nat) d kv, ds1[i]? = some d → ps[i]? = some kv → TurnK K l1 g1 tk tv vs1 d envt (C.key kv.1) kv.2
theorem wipe_sub {vs vs1 : List Nat} (h : ∀ i ∈ vs1, i ∈ vs) : wipe (wipe σ vs1) vs = wipe σ vs := by
  apply List.ext_getElem?
  intro j
  rw [wipe_get (σ := L2.wipe σ vs1), wipe_get (σ := σ) (vs := vs), wipe_length]
  by_cases hl : j ∈ vs ∧ j < σ.length
  · rw [if_pos hl, if_pos hl]
  · rw [if_neg hl, if_neg hl, wipe_get, if_neg fun z => hl ⟨h j z.1, z.2⟩]
theorem ef_dg2 {κ : Type} [DecidableEq κ] (C : Kd κ) (hl : l.lp = true) {l1 : Lv} (hl1 : l1.lp = true) {wi wi1 : TI} {g1 : TG} {vs1 : List Nat} {ds : List D} {pss : List (List (κ × D))} (hi : EvI K l true wi env env ds) (hw : TgW g vs) (hw1 : TgW g1 vs1) (inn : ∀ i ∈ vs1, i ∈ vs) (han : ∀ v ∈ vs, env[v]? = some .an)
    (hlen : pss.length = ds.length) (hn : ds.length ≤ 100) (hn1 : ∀ ps ∈ pss, ps.length ≤ 100)
    (turn : ∀ (i : Nat) d ps, ds[i]? = some d → pss[i]? = some ps → TurnO K l l1 g g1 wi1 tk tv vs vs1 d env C ps) : EvF K true (tDg (C.ob []) wi g tYes (tIn wi1 g1 tYes tk tv vs1) vs) env env (C.md (putAll [] pss.flatten)) := fun X a0 H0 M ad σ H Q E k =>
  hi X a0 H0 M ad σ H _ E fun J H1 E1 e1 p1 it => fun Dl hD => by
    have g0 : Ex H1 (upd H1 Dl (C.ob [])) := Ex.new hD
    have nM : ¬ M.m Dl := fun z => (E1.min _ z).1 hD
    have nX : ¬ X Dl := fun z => (E1.has z).1 hD
    have bD : (hid M.m H1) Dl = none := by rw [hid_out nM]; exact hD
    have σan : ∀ (j : Nat) b, env[j]? = some b → b = .an ∨ (wipe σ vs)[j]? = σ[j]? := fun j b hb => by
      by_cases m : j ∈ vs
      · rw [han j m] at hb; exact .inl (Option.some.inj hb).symm
      · rw [wipe_get, if_neg fun z => m z.1]; exact .inr rfl
    have E1w : ER K X a0 (hid M.m H1) M ad (wipe σ vs) H1 env := (E1.rebase).anyAt (wipe_length _ _) σan
    have ES : ER K X a0 (hid M.m H1) (M.hide Dl) ad (wipe σ vs) (upd H1 Dl (C.ob [])) env := E1w.mask hD g0 (by rw [upd_same]; exact ⟨by simp, fun xs e => C.nt _ xs (Option.some.inj e)⟩)
    have ne1 : ∀ b o, H1 b = some o → b ≠ Dl := fun b o h z => by rw [z, hD] at h; cases h
    let P : Nat → Hp → Prop := fun i Hi => ∃ kvs, ER K X a0 (hid M.m H1) (M.hide Dl) ad (wipe σ vs) Hi env ∧ Ex H1 (hid (fun b => b = Dl) Hi) ∧ Hi Dl = some (C.ob kvs) ∧ RpK K (hid (fun b => (M.hide Dl).m b ∨ X b) Hi) kvs (putAll [] (pss.take i).flatten)
    refine ⟨fun i m Hi => m = ds.length - i ∧ i ≤ ds.length ∧ P i Hi, ⟨ds.length, by simp, Nat.zero_le _, [], ES, fun b o h => by
      have n := ne1 b o h
      rw [hid1 n, upd_ne n]; exact h, upd_same, trivial⟩, ?_⟩
    rintro i m Hi ⟨rfl, hle, kvs, Ei, exi, hDi, hri⟩
    obtain ⟨it1, it2⟩ := it i Hi Ei.ex
    by_cases hlt : i < ds.length
    · refine .inr ?_
      have hd : ds[i]? = some ds[i] := List.getElem?_eq_getElem hlt
      have hp : pss[i]? = some pss[i] := List.getElem?_eq_getElem (by omega)
      obtain ⟨go, yl⟩ := it1 _ hd
      obtain ⟨envt, ds1, hT, hI1, han1, hmu, henv, hlen1, turn1⟩ := (turn i _ _ hd hp).go
      refine ⟨go, P (i + 1), fun Hn n => ⟨ds.length - (i + 1), by omega, rfl, hlt, n⟩, fun x H2 y => ?_⟩
      obtain ⟨gx, E2, r2⟩ := turn_in hl Ei (yl x H2 y)
      refine hw.mono _ _ _ _ _ (fun σ3 H3 z => ⟨z.1.trans wipe_wipe, z.2 (z.1.trans wipe_wipe)⟩) (hw.w x (L2.wipe σ vs) H2 (fun σ3 H3 => L2.wipe σ3 vs = L2.wipe σ vs → _) ?_)
      refine hT X a0 _ _ ad _ H2 x _ E2 r2 fun σ3 E3 hσ => ?_
      show tIn wi1 g1 tYes tk tv vs1 Dl σ3 H2 (P (i + 1))
      refine hI1 X a0 _ _ ad σ3 H2 _ E3 fun J1 H4 E4 e4 p4 itn => ?_
      have g4 : Ex Hi H4 := gx.trans (p4 rfl)
      have hD4 := g4 _ _ hDi
      have σan1 : ∀ (j : Nat) b, envt[j]? = some b → b = .an ∨ (wipe σ3 vs1)[j]? = σ3[j]? := fun j b hb => by
        by_cases m : j ∈ vs1
        · rw [han1 j m] at hb; exact .inl (Option.some.inj hb).symm
        · rw [wipe_get, if_neg fun z => m z.1]; exact .inr rfl
      have E4w := (E4.rebase).anyAt (wipe_length σ3 vs1) σan1
      have bD4 : (hid (M.hide Dl).m H4) Dl = none := hid_in (m := (M.hide Dl).m) (.inr rfl)
      have small : (putAll [] (pss.take i).flatten).length + ds1.length < 100000 := by
        have a1 := putAll_len (pss.take i).flatten ([] : List (κ × D))
        have a2 : (pss.take i).flatten.length ≤ i * 100 := by
          have : ∀ (n : Nat) (qs : List (List (κ × D))), (∀ q ∈ qs, q.length ≤ 100) → (qs.take n).flatten.length ≤ n * 100 := fun n => by
            induction n with
            | zero => intro qs _; simp
            | succ n ih =>
              intro qs hq
              cases qs with
              | nil => simp
              | cons q qs =>
                have := ih qs fun z hz => hq z (List.mem_cons_of_mem _ hz)
                have := hq q List.mem_cons_self
                rw [List.take_succ_cons, List.flatten_cons, List.length_append]
                omega
          exact this i pss hn1
        have a3 := hn1 _ (List.getElem_mem (show i < pss.length by omega))
        have a4 : ([] : List (κ × D)).length = 0 := rfl
        omega
      refine walk_put C hl1 (B := hid (M.hide Dl).m H4) (kvs0 := kvs) (acc0 := putAll [] (pss.take i).flatten) nM bD4 itn hw1 hlen1 small turn1 E4w hD4 (RpK.mono (hid_ex g4) hri) fun H' kvs' E' ex' hD' hr' => ?_
      have E5 := E4.back E'
      have E6 := (E5.wipe hmu).1
      rw [wipe_sub inn, hσ, ← henv] at E6
      refine ⟨kvs', E6, fun b u hb => ?_, hD', ?_⟩
      · have n := ne1 b u hb
        have := exi b u hb
        rw [hid1 n] at this ⊢
        exact ex' b u (by rw [hid1 n]; exact g4 b u this)
      · rw [List.take_add_one, hp, List.flatten_append, putAll_app]
        simpa using hr'
    · have e : i = ds.length := by omega
      subst e
      refine .inl ⟨it2 (Nat.le_refl _), ?_⟩
      rw [← hlen, List.take_length] at hri
      have back := (Ei.unhide bD nM nX)
      have EF : ER K X a0 (hid M.m H1) M ad σ (hid (fun b => b = Dl) Hi) env := back.anyAt (wipe_length _ _).symm fun j b hb => by
        by_cases m : j ∈ vs
        · rw [han j m] at hb; exact .inl (Option.some.inj hb).symm
        · rw [wipe_get, if_neg fun z => m z.1]; exact .inr rfl
      refine k Dl (hid (fun b => b = Dl) Hi) Hi (hid_in (m := fun b => b = Dl) rfl) (fun b o hb => ?_) (E1.back EF) hid_all (e1.trans (hid_ex exi)) (fun z => (p1 z).trans exi) (C.cell K _ _ _ _ _ hDi (by rw [← hid_hide nM nX]; exact hri))
      rw [exi b o ((p1 rfl) b o hb)]; simp
end
end Pw
/-! PwY: printed readings' rules for dicts: comprehensions, keys, items, values, get. -/
namespace L2
open PySem PySem.Spec PyProof.Rows
section
variable {X : Cx}
/-- max(e.values()), ints, one at least -/
def tMaxVals (td : TE) : TE := fun σ H Q => td σ H fun x H1 => ∃ a kvs ns, x = V.ref a ∧ Rd H1 a (.dK kvs) ∧ kvs.map (·.2) = ns.map V.int ∧ ns ≠ [] ∧ ∀ m, m ∈ ns → (∀ j ∈ ns, j ≤ m) → Q (.int m) H1
theorem pe_maxVals {ob : Expr} {p pos ap mp : Pos} {td : TE} (calm : X.calm = true) (gl : Gl X "max") (none' : X.mg "max" = none) (dict : PE X ob td) (base : attributeBase ob "values" X.env (eval ob X.env) = eval ob X.env := by rfl) (line : (ap.endLine == mp.line) = true := by rfl)
    (star : starEach [Expr.Call (.Attribute ob "values" ap) [] [] mp] X.env = [(false, eval (Expr.Call (.Attribute ob "values" ap) [] [] mp) X.env)] := by rfl) :
    PE X (.Call (.Name "max" p) [.Call (.Attribute ob "values" ap) [] [] mp] [] pos) (tMaxVals td) := by
  refine ⟨fun pins s σ H Q I h => ?_⟩
  refine wpAny_Call_Name_kw (ld_blt I gl none' (u := .builtin "max") (by first | rfl | decide +kernel) ?_ (by first | decide +kernel | decide) (by first | decide +kernel | decide))
  rw [star]
  refine PySem.callWith_builtin1 (wpAny_Call_method0_late base line (thn (dict.run pins s σ H _ I h) fun v t1 ⟨x, H1, I1, r1, a, kvs, ns, ex, ha, hv, some1, q⟩ => ?_))
  subst ex
  obtain rfl : v = Value.ref a := r1
  obtain ⟨_, nsys, vs, rel, whole⟩ := dk_rd I1.hok ha
  obtain ⟨ep, dat⟩ := whole.dictAt
  have dat2 := dat
  obtain ⟨o, es, ho, exd, _⟩ := dat2
  refine ⟨"dict", "dict.values", F.plainAttrs_dict, F.slot_dict_values, F.type_dict_values, ⟨o, ho, exd.1⟩, fun b e => ?_, Calls.callWith_builtin rfl (PySem.evalArgs_none ?_)⟩
  · cases e
    exact ⟨o, ho, exd.2.1⟩
  refine call_meetsIn F.slot_dict_values ⟨o, ho, exd.1⟩ F.entry_dict_values (F.args_dict_values_1 _) (meets_dict_values (mixKind X.prog X.w) a nsys) ⟨⟨vs, whole⟩, ?_⟩
  have old : ∀ b u, t1.heap.get? b = some u → (t1.heap.push { cls := .type "dict_values", data := .fields #[.ref a] }).get? b = some u := fun b u e => Heap.get?_push_of_some _ e
  have dat3 : (t1.heap.push { cls := .type "dict_values", data := .fields #[.ref a] }).DictAt (mixKind X.prog X.w) a vs ep := dat.keep old
  have many : vs.length = ns.length := by
    have := congrArg List.length hv
    simp only [List.length_map] at this
    rw [← this, KV.length rel]
  have pos0 : 0 < vs.length := by rw [many]; exact List.length_pos_iff.mpr some1
  have item : ∀ (i : Nat) (v : Value), (∃ k, vs[i]? = some (k, v)) → ∃ t, v = Value.int (ns.getD i 0) t := fun i v ⟨k, hk⟩ => by
    obtain ⟨x, g1, g2⟩ := KV.at' rel hk
    have g3 : (ns.map V.int)[i]? = some x := by rw [← hv, List.getElem?_map, g1]; rfl
    rw [List.getElem?_map] at g3
    obtain ⟨j, hj, rfl⟩ := Option.map_eq_some_iff.mp g3
    obtain ⟨t, g4⟩ := g2
    exact ⟨t, by rw [g4, List.getD_eq_getElem?_getD, hj]; rfl⟩
  refine call_max_walk (wpAny_pyIter_values (v := t1.heap.objs.size) (d := a) ⟨_, Heap.get?_push_size _ rfl, rfl, rfl⟩ dat3 ?_)
  have below : a < t1.heap.objs.size := Heap.lt_size ho
  have size1 : (t1.heap.push { cls := .type "dict_values", data := .fields #[.ref a] }).objs.size = t1.heap.objs.size + 1 := Heap.size_push _ _
  refine ⟨_, _, _, _, _, _, _, rfl, Walks.dictValues (knd := mixKind X.prog X.w) (A := X.A.in1) (I.ok.hd calm) (t1.heap.push { cls := .type "dict_values", data := .fields #[.ref a] }).objs.size a (by rw [size1]; exact Nat.ne_of_lt (Nat.lt_succ_of_lt below)) vs ep,
    ⟨⟨_, Heap.get?_push_size _ rfl, rfl, rfl⟩, dat3.keep fun b u e => Heap.get?_push_of_some _ e⟩, fun b hb => ?_, pos0, CmpOf.ints_gt (fun i => ns.getD i 0) item, fun v h2 tk hP hk => ?_⟩
  · show b < ((t1.heap.push _).push _).objs.size
    rw [Heap.size_push, Heap.size_push]
    rw [size1] at hb
    have e : b = t1.heap.objs.size + 1 ∨ b = a := by simpa using hb
    rcases e with rfl | rfl
    · exact Nat.lt_succ_self _
    · exact Nat.lt_succ_of_lt (Nat.lt_succ_of_lt below)
  · obtain ⟨t, rfl⟩ := item _ v hP
    obtain ⟨b1, b2⟩ := argBest_gt (fun i => ns.getD i 0) (vs.length - 1)
    refine ⟨.int _, H1, I1.kept (t' := tk) fun b u e => hk b u (fun hmem => ?_) (Heap.get?_push_of_some _ (old b u e)), ⟨t, rfl⟩, q _ ?_ fun j hj => ?_⟩
    · have e1 := List.mem_singleton.mp hmem
      have e2 := Heap.lt_size e
      rw [size1] at e1
      rw [e1] at e2
      exact absurd e2 (Nat.not_lt.mpr (Nat.le_succ _))
    · have inb : argBest (fun i j => decide (ns.getD i 0 > ns.getD j 0)) (vs.length - 1) < ns.length := by omega
      rw [List.getD_eq_getElem?_getD, List.getElem?_eq_getElem inb]
      exact List.getElem_mem inb
    · obtain ⟨i, hi, e⟩ := List.mem_iff_getElem.mp hj
      have e2 : ns.getD i 0 = j := by rw [List.getD_eq_getElem?_getD, List.getElem?_eq_getElem hi, ← e]; rfl
      rw [← e2]
      exact b2 i (by omega)
/-- a value that is locked from here on -/
def tLkR (td : TE) : TE := fun σ H Q => td σ H fun x H1 => ∃ a u, x = V.ref a ∧ H1 a = some u ∧ Mut (some u) ∧ ∀ od, Q x (upd H1 a (.frz od u))
theorem pe_lkR {e : Expr} {td : TE} (h : PE X e td) : PE X e (tLkR td) := ⟨fun pins s σ H Q I z => thn (h.run pins s σ H _ I z) fun v s1 ⟨x, H1, I1, r1, a, u, ex, ha, mu, q⟩ => by
  obtain ⟨od, I2⟩ := I1.lock ha mu
  exact ⟨x, _, I2, r1, q od⟩⟩
end
end L2
namespace Pw
open PySem L2
def maxI : List Int → Option Int
  | [] => none
  | x :: r => some (r.foldl (fun a b => if a < b then b else a) x)
def minI : List Int → Option Int
  | [] => none
  | x :: r => some (r.foldl (fun a b => if b < a then b else a) x)
theorem foldmax : ∀ (r : List Int) (x : Int), r.foldl (fun a b => if a < b then b else a) x ∈ x :: r ∧ ∀ y ∈ x :: r, y ≤ r.foldl (fun a b => if a < b then b else a) x
  | [], x => by simp
  | y :: r, x => by
    have ih := foldmax r (if x < y then y else x)
    rw [List.foldl_cons]
    refine ⟨?_, fun z hz => ?_⟩
    · rcases List.mem_cons.mp ih.1 with h | h
      · rw [h]; split <;> simp
      · exact List.mem_cons_of_mem _ (List.mem_cons_of_mem _ h)
    · have h0 := ih.2 _ (List.mem_cons_self ..)
      have h1 := fun h => ih.2 z (List.mem_cons_of_mem _ h)
      generalize List.foldl _ _ r = F at h0 h1 ⊢
      rcases List.mem_cons.mp hz with h | h
      · rw [h]; split at h0 <;> omega
      · rcases List.mem_cons.mp h with h | h
        · rw [h]; split at h0 <;> omega
        · exact h1 h
theorem foldmin : ∀ (r : List Int) (x : Int), r.foldl (fun a b => if b < a then b else a) x ∈ x :: r ∧ ∀ y ∈ x :: r, r.foldl (fun a b => if b < a then b else a) x ≤ y
  | [], x => by simp
  | y :: r, x => by
    have ih := foldmin r (if y < x then y else x)
    rw [List.foldl_cons]
    refine ⟨?_, fun z hz => ?_⟩
    · rcases List.mem_cons.mp ih.1 with h | h
      · rw [h]; split <;> simp
      · exact List.mem_cons_of_mem _ (List.mem_cons_of_mem _ h)
    · have h0 := ih.2 _ (List.mem_cons_self ..)
      have h1 := fun h => ih.2 z (List.mem_cons_of_mem _ h)
      generalize List.foldl _ _ r = F at h0 h1 ⊢
      rcases List.mem_cons.mp hz with h | h
      · rw [h]; split at h0 <;> omega
      · rcases List.mem_cons.mp h with h | h
        · rw [h]; split at h0 <;> omega
        · exact h1 h
theorem maxI_spec {ns : List Int} {m : Int} (h : maxI ns = some m) : m ∈ ns ∧ ∀ y ∈ ns, y ≤ m := by
  cases ns with
  | nil => cases h
  | cons x r => cases h; exact foldmax r x
theorem minI_spec {ns : List Int} {m : Int} (h : minI ns = some m) : m ∈ ns ∧ ∀ y ∈ ns, m ≤ y := by
  cases ns with
  | nil => cases h
  | cons x r => cases h; exact foldmin r x
section
variable {K : PySem.W.Frag} {We : WX} {X : Addr → Prop} {a0 : Addr} {H0 : Hp} {M M' : Msk} {ad ad' : Nat → List Addr} {σ σ' τ : L2.St} {H H' H1 : Hp} {env env' env'' : List Bd} {l l' : Lv} {p q : Bool} {d d' e : D} {ta tb te ti tx tk tv : TE} {i j : Nat} {b c : Bool} {ts tu : TS} {o : Out} {Dn : Ends} {tsA : TA} {g : TG} {vs : List Nat}
theorem zip_snd {κ : Type} {ks : List κ} {xs : List V} (h : xs.length = ks.length) : (ks.zip xs).map (·.2) = xs := by
  rw [show (ks.zip xs).map (·.2) = (ks.zip xs).unzip.2 by rw [List.unzip_eq_map]]
  rw [List.unzip_zip h.symm]
theorem ev_maxVals {l1 : List (Int × Int)} {m : Int} (hm : maxI (l1.map (·.2)) = some m) (h : EvD K l p te env env' (dkL (l1.map fun z => ((Sum.inl z.1 : Key), D.int z.2)))) : EvD K l' p (tMaxVals te) env env' (.int m) := fun X a0 H0 M ad σ H Q E k =>
  h X a0 H0 M ad σ H _ E fun x H1 E1 e1 p1 r1 => by
    obtain ⟨a, xs, rfl, h1, h2, h3⟩ := r1
    have hx : xs = (l1.map (·.2)).map V.int := RpL.ints (by
      have : (l1.map fun z => ((Sum.inl z.1 : Key), D.int z.2)).map (·.2) = (l1.map (·.2)).map D.int := by simp [List.map_map, Function.comp_def]
      rw [← this]; exact h3)
    obtain ⟨m1, m2⟩ := maxI_spec hm
    have hl : xs.length = ((l1.map fun z => ((Sum.inl z.1 : Key), D.int z.2)).map (·.1)).length := by rw [h3.length, h2]
    exact ⟨a, _, l1.map (·.2), rfl, ex_rd hid_all h1, by rw [zip_snd hl, hx], fun z => (by rw [z] at m1; cases m1), fun m' a1 a2 => by
      have : m' = m := Int.le_antisymm (m2 _ a1) (a2 _ m1)
      rw [this]; exact k _ H1 E1 e1 p1 rfl⟩
theorem rc_maxJ {ns : List Int} {m : Int} (hm : maxI ns = some m) : RC K l l' (rMax K) [.lst (ns.map D.int)] (.int m) := fun X a0 H0 M ad σ H env xs Q E r k => by
  obtain ⟨x, rfl, a, ys, rfl, h1, h2⟩ := r.one'
  obtain ⟨m1, m2⟩ := maxI_spec hm
  refine ⟨a, ns, rfl, ex_l hid_all (by rw [← h2.ints]; exact h1), List.length_pos_of_mem m1, fun m' a1 a2 => ?_⟩
  have : m' = m := Int.le_antisymm (m2 _ a1) (a2 _ m1)
  rw [this]; exact k _ H E (Ex.refl _) rfl
theorem rc_minJ {ns : List Int} {m : Int} (hm : minI ns = some m) : RC K l l' (rMin K) [.lst (ns.map D.int)] (.int m) := fun X a0 H0 M ad σ H env xs Q E r k => by
  obtain ⟨x, rfl, a, ys, rfl, h1, h2⟩ := r.one'
  obtain ⟨m1, m2⟩ := minI_spec hm
  refine ⟨a, ns, rfl, ex_l hid_all (by rw [← h2.ints]; exact h1), List.length_pos_of_mem m1, fun m' a1 a2 => ?_⟩
  have : m' = m := Int.le_antisymm (a2 _ m1) (m2 _ a1)
  rw [this]; exact k _ H E (Ex.refl _) rfl
theorem maxLK {Y : Cx} (h : Y.K = K) (hc : Y.calm = true) : CallR Y (.builtin "max") (rMax K) := h ▸ cr_max hc
theorem minLK {Y : Cx} (h : Y.K = K) (hc : Y.calm = true) : CallR Y (.builtin "min") (rMin K) := h ▸ cr_min hc

/-! ### get of a dict that is only read -/
theorem ev_dget2G {l1 : List (List Key × D)} {ns : List Int} (h : EvD K l true ta env env (dtL l1)) (hi : EvA K .l2 true tsA env env (ns.map .int)) (hn : ns.length ≤ 1000) (hx : EvD K .l2 true tx env env e) : EvD K l true (tDGet2 ta (tTup tsA) tx) env env ((getA l1 (ns.map Sum.inl)).getD e) := fun X a0 H0 M ad σ H Q E k =>
  h X a0 H0 M ad σ H _ E fun x H1 E1 e1 p1 r1 => by
    obtain ⟨a, xs, rfl, h1, h2, h3⟩ := r1
    refine ⟨a, rfl, .inr ⟨_, ex_rd hid_all h1⟩, hi X a0 H0 M ad σ H1 _ E1 fun ys H2 E2 e2 p2 r2 => ?_⟩
    have hy := r2.ints
    subst hy
    refine ⟨by rw [List.length_map]; exact Nat.le_trans hn (by decide), fun c hc => ?_⟩
    have g2 : Ex H2 (upd H2 c (.tup (ns.map V.int))) := Ex.new hc
    refine hx X a0 H0 M ad σ _ _ (E2.grow g2) fun z H3 E3 e3 p3 r3 => ?_
    have hck : H3 c = some (.tup ((ns.map Sum.inl : List Key).map kV)) := by
      rw [p3 rfl c _ upd_same, List.map_map]
      rfl
    have w2 : Ex H1 H3 := ((p2 rfl).trans g2).trans (p3 rfl)
    have w1 : Ex (hid M.n H) (hid M.n H3) := ((e1.trans e2).trans (hid_ex g2)).trans e3
    have gg := rpk_get (k := (ns.map Sum.inl : List Key)) (rpk_of h3)
    cases hg : getA l1 (ns.map Sum.inl) with
    | none => exact ⟨none, .inr ⟨_, _, c, ex_rd (hid_all.trans w2) h1, rfl, hck, (gg.2 hg).symm⟩, k z H3 E3 w1 (fun z => (p1 z).trans w2) (by rw [hg]; exact Rp.mono (hid_le mk_le) _ _ r3)⟩
    | some d =>
      obtain ⟨v, q1, q2⟩ := gg.1 d hg
      exact ⟨some v, .inr ⟨_, _, c, ex_rd (hid_all.trans w2) h1, rfl, hck, q1.symm⟩, k v H3 E3 w1 (fun z => (p1 z).trans w2) (by rw [hg]; exact Rp.mono (hid_ex w2) _ _ q2)⟩
theorem ev_dget2Gt {α β : Type} {f : α → D} {f' : β → D} {c : α → β} {l1 : List (List Int × α)} {ns : List Int} {v : β} (hc : ∀ x, f' (c x) = f x) (h : EvD K l true ta env env (dtL (l1.map fun z => ((z.1.map Sum.inl : List Key), f z.2)))) (hi : EvA K .l2 true tsA env env (ns.map .int)) (hn : ns.length ≤ 1000) (hx : EvD K .l2 true tx env env (f' v)) :
    EvD K l true (tDGet2 ta (tTup tsA) tx) env env (f' (((getA l1 ns).map c).getD v)) := by
  have := ev_dget2G h hi hn hx
  rw [getA_map (fun z : List Int => (z.map Sum.inl : List Key)) f inls_inj] at this
  refine ev_is this ?_
  cases getA l1 ns with
  | none => rfl
  | some x => exact (hc x).symm

/-! ### keys, items -/
theorem ei_keysTt {α : Type} {f : α → D} {l1 : List (List Int × α)} (hi : env[i]? = some (.im (dtL (l1.map fun z => ((z.1.map Sum.inl : List Key), f z.2))))) : EvI K l true (wG i (iKeys (tVar i))) env env ((l1.map (·.1)).map fun ns => D.tup (ns.map D.int)) := by
  have h := ei_keysT (K := K) (l := l) (i := i) (env := env) (ks := (l1.map fun (z : List Int × α) => ((z.1.map Sum.inl : List Key), f z.2)).map fun (z : List Key × D) => z.1) (ds := (l1.map fun (z : List Int × α) => ((z.1.map Sum.inl : List Key), f z.2)).map fun (z : List Key × D) => z.2) hi
  have e : (((l1.map fun (z : List Int × α) => ((z.1.map Sum.inl : List Key), f z.2)).map fun (z : List Key × D) => z.1).map fun k => D.tup (List.map keyD k)) = ((l1.map (·.1)).map fun ns => D.tup (ns.map D.int)) := by
    rw [List.map_map, List.map_map, List.map_map]
    refine List.map_congr_left fun z _ => ?_
    show D.tup ((z.1.map Sum.inl : List Key).map keyD) = D.tup (z.1.map D.int)
    rw [List.map_map]; rfl
  rw [← e]; exact h
theorem ei_keysKt {α : Type} {f : α → D} {l1 : List (Int × α)} (hi : env[i]? = some (.im (dkL (l1.map fun z => ((Sum.inl z.1 : Key), f z.2))))) : EvI K l true (wG i (iKeys (tVar i))) env env ((l1.map (·.1)).map D.int) := by
  have h := ei_keysK (K := K) (l := l) (i := i) (env := env) (ks := (l1.map fun (z : Int × α) => ((Sum.inl z.1 : Key), f z.2)).map fun (z : Key × D) => z.1) (ds := (l1.map fun (z : Int × α) => ((Sum.inl z.1 : Key), f z.2)).map fun (z : Key × D) => z.2) hi
  have e : (((l1.map fun (z : Int × α) => ((Sum.inl z.1 : Key), f z.2)).map fun (z : Key × D) => z.1).map keyD) = ((l1.map (·.1)).map D.int) := by
    rw [List.map_map, List.map_map, List.map_map]
    rfl
  rw [← e]; exact h
theorem ei_items {l1 : List (Key × D)} (hl : l.lp = true) (h : EvF K p te env env' (dkL l1)) : EvI K l p (iItems (tLkR te)) env env' (l1.map fun z => .tup [keyD z.1, z.2]) := fun X a0 H0 M ad σ H R E k =>
  h X a0 H0 M ad σ H _ E fun a H1 H2 ha hs E1 g0 e1 p1 rc => by
    obtain ⟨xs, h1, h2, h3⟩ := rc
    refine ⟨a, _, rfl, h1, True.intro, fun od => ⟨a, od, _, rfl, upd_same, ?_⟩⟩
    have ne1 : ∀ b o, H1 b = some o → b ≠ a := fun b o h z => by rw [z, ha] at h; cases h
    have gr : Ex H1 (upd H2 a (.frz od (.dK ((l1.map (·.1)).zip xs)))) := fun b o h => by rw [upd_ne (ne1 b o h)]; exact g0 b o h
    have nm : ¬ M.m a := fun z => (E1.min a z).1 ha
    refine k _ _ (E1.grow gr) (e1.trans (hid_ex gr)) (fun z => (p1 z).trans gr) fun n H3 g3 => ?_
    have fz : H3 a = some (.frz od (.dK ((l1.map (·.1)).zip xs))) := g3 a _ (by rw [hid_out nm, upd_same])
    have hl2 : xs.length = (l1.map (·.1)).length := by rw [h3.length]; simp
    refine ⟨fun c hc => ?_, fun hn => ⟨fz, by simpa [List.length_zip, hl2] using hn⟩⟩
    rw [List.getElem?_map] at hc
    obtain ⟨z0, hz0, rfl⟩ := Option.map_eq_some_iff.mp hc
    have hk : (l1.map (·.1))[n]? = some z0.1 := by rw [List.getElem?_map, hz0]; rfl
    obtain ⟨w, hw⟩ := zip_get hl2 hk
    have hd : (l1.map (·.2))[n]? = some z0.2 := by rw [List.getElem?_map, hz0]; rfl
    obtain ⟨w', hw', rw'⟩ := h3.get hd
    have : w = w' := by
      have := (List.getElem?_zip_eq_some.mp hw).2
      rw [hw'] at this
      exact (Option.some.inj this).symm
    subst this
    refine ⟨⟨fz, (List.getElem?_eq_some_iff.mp hw).1⟩, fun x H4 y => .inr (.inr (.inr (.inl ?_)))⟩
    obtain ⟨T, kk, vv, y1, y2, y3, y4⟩ := y
    rw [hw] at y1; cases y1
    refine ⟨T, _, _, _, _, y2, y3, y4, rfl, fun B' => keyD_rp _ B', ?_⟩
    rw [← hid_mx hl]
    exact Rp.mono ((hid_ex gr).trans (hid_le mk_le)) _ _ rw'
theorem ei_itemsKt {α : Type} {f : α → D} {l1 : List (Int × α)} (hl : l.lp = true) (h : EvF K p te env env' (dkL (l1.map fun z => ((Sum.inl z.1 : Key), f z.2)))) : EvI K l p (iItems (tLkR te)) env env' (l1.map fun z => D.tup [D.int z.1, f z.2]) := by
  have := ei_items hl h
  rw [List.map_map] at this
  exact this

/-! ### dict comprehensions, printed -/
def dictO {α κ β : Type} [DecidableEq κ] (f : α → Option (κ × β)) (xs : List α) : Option (List (κ × β)) := (compO (fun x => (f x).map some) xs).bind fun ps => (okL xs.length).map fun _ => putAll [] ps
def dictO2 {α γ κ β : Type} [DecidableEq κ] (h : α → Option (List γ)) (f : α → γ → Option (κ × β)) (xs : List α) : Option (List (κ × β)) :=
  if xs.length ≤ 100 then (compO (fun x => ((h x).bind fun ys => if ys.length ≤ 100 then compO (fun y => (f x y).map some) ys else none).map some) xs).map fun pss => putAll [] pss.flatten else none
theorem compL_get {α β : Type} {f : α → Option β} : ∀ {xs : List α} {ys : List β}, compL (fun x => (f x).map some) xs = some ys → ys.length = xs.length ∧ ∀ (i : Nat) x, xs[i]? = some x → ∃ y, ys[i]? = some y ∧ f x = some y
  | [], ys, h => by
    unfold compL at h
    cases h
    exact ⟨rfl, fun i x e => by simp at e⟩
  | x :: xs, ys, h => by
    unfold compL at h
    obtain ⟨r, h1, h⟩ := Option.bind_eq_some_iff.mp h
    obtain ⟨zs, h2, h⟩ := Option.bind_eq_some_iff.mp h
    obtain ⟨y, hy, rfl⟩ := Option.map_eq_some_iff.mp h1
    obtain ⟨l1, g1⟩ := compL_get h2
    have h : y :: zs = ys := Option.some.inj h
    subst h
    refine ⟨by simp [l1], fun i x' e => ?_⟩
    cases i with
    | zero => simp at e; subst e; exact ⟨y, rfl, hy⟩
    | succ i => simpa using g1 i x' (by simpa using e)
theorem putAll_map {κ κ' α β : Type} [DecidableEq κ] [DecidableEq κ'] (f : κ → κ') (g : α → β) (hf : ∀ a b, f a = f b → a = b) : ∀ (ps acc : List (κ × α)), putAll (acc.map fun z => (f z.1, g z.2)) (ps.map fun z => (f z.1, g z.2)) = (putAll acc ps).map fun z => (f z.1, g z.2)
  | [], acc => rfl
  | p :: ps, acc => by
    show putAll (putA (acc.map fun z => (f z.1, g z.2)) (f p.1) (g p.2)) (ps.map fun z => (f z.1, g z.2)) = _
    rw [putA_map f g hf]
    exact putAll_map f g hf ps _
theorem ef_dictG {α κ κ' β : Type} [DecidableEq κ] [DecidableEq κ'] (C : Kd κ') (kf : κ → κ') (hk : ∀ a b, kf a = kf b → a = b) {f : α → Option (κ × β)} {xs : List α} {r : List (κ × β)} {en : α → D} {eb : β → D} {wi : TI} (hs : dictO f xs = some r) (hl : l.lp = true) (hi : EvI K l true wi env env (xs.map en)) (hw : TgW g vs) (han : ∀ v ∈ vs, env[v]? = some .an)
    (turn : ∀ x kv, f x = some kv → TurnK K l g tk tv vs (en x) env (C.key (kf kv.1)) (eb kv.2)) : EvF K true (tDg (C.ob []) wi g tYes (tPut tk tv) vs) env env (C.md (r.map fun z => (kf z.1, eb z.2))) := by
  unfold dictO at hs
  obtain ⟨ps, h1, hs⟩ := Option.bind_eq_some_iff.mp hs
  obtain ⟨u, h2, hs⟩ := Option.map_eq_some_iff.mp hs
  subst hs
  obtain ⟨l1, g1⟩ := compL_get (compO_of h1).2
  rw [← putAll_map kf eb hk ps []]
  refine ef_dg C hl hi hw han (by simp [l1]) (by rw [List.length_map]; exact okL_of h2) fun i d kv hd hkv => ?_
  rw [List.getElem?_map] at hd hkv
  obtain ⟨x, hx, rfl⟩ := Option.map_eq_some_iff.mp hd
  obtain ⟨y, hy, rfl⟩ := Option.map_eq_some_iff.mp hkv
  obtain ⟨y', hy', hf⟩ := g1 i x hx
  rw [hy] at hy'; cases hy'
  exact turn x y hf
theorem ef_dictK {α β : Type} {f : α → Option (Int × β)} {xs : List α} {r : List (Int × β)} {en : α → D} {eb : β → D} {wi : TI} (hs : dictO f xs = some r) (hl : l.lp = true) (hi : EvI K l true wi env env (xs.map en)) (hw : TgW g vs) (han : ∀ v ∈ vs, env[v]? = some .an)
    (turn : ∀ x kv, f x = some kv → TurnK K l g tk tv vs (en x) env (.int kv.1) (eb kv.2)) : EvF K true (tDg (.dK []) wi g tYes (tPut tk tv) vs) env env (dkL (r.map fun z => ((Sum.inl z.1 : Key), eb z.2))) :=
  ef_dictG kdK (fun n : Int => (Sum.inl n : Key)) inl_inj hs hl hi hw han turn
theorem keyI (ns : List Int) : D.tup ((ns.map Sum.inl : List Key).map keyD) = D.tup (ns.map D.int) := by rw [List.map_map]; rfl
theorem ef_dictT {α β : Type} {f : α → Option (List Int × β)} {xs : List α} {r : List (List Int × β)} {en : α → D} {eb : β → D} {wi : TI} (hs : dictO f xs = some r) (hl : l.lp = true) (hi : EvI K l true wi env env (xs.map en)) (hw : TgW g vs) (han : ∀ v ∈ vs, env[v]? = some .an)
    (turn : ∀ x kv, f x = some kv → TurnK K l g tk tv vs (en x) env (.tup (kv.1.map D.int)) (eb kv.2)) : EvF K true (tDg (.dT []) wi g tYes (tPut tk tv) vs) env env (dtL (r.map fun z => ((z.1.map Sum.inl : List Key), eb z.2))) :=
  ef_dictG kdT (fun z : List Int => (z.map Sum.inl : List Key)) inls_inj hs hl hi hw han fun x kv h => by
    show TurnK K l g tk tv vs (en x) env (D.tup ((kv.1.map Sum.inl : List Key).map keyD)) (eb kv.2)
    rw [keyI]; exact turn x kv h
theorem turnK {kd vd : D} {envt : List Bd} (hT : TgD K l g d env envt) (hK : EvD K .l2 true tk envt envt kd) (hV : EvD K .l2 true tv envt envt vd) (hm : (vs.all fun v => !isMu envt[v]?) = true) (he : env = wipeE envt vs) : TurnK K l g tk tv vs d env kd vd := ⟨envt, hT, hK, hV, hm, he⟩
theorem ef_dictT2 {α γ β : Type} {h : α → Option (List γ)} {f : α → γ → Option (List Int × β)} {xs : List α} {r : List (List Int × β)} {en : α → D} {en1 : γ → D} {eb : β → D} {l1 : Lv} {wi wi1 : TI} {g1 : TG} {vs1 : List Nat} (hs : dictO2 h f xs = some r) (hl : l.lp = true) (hl1 : l1.lp = true) (hi : EvI K l true wi env env (xs.map en)) (hw : TgW g vs) (hw1 : TgW g1 vs1) (inn : ∀ i ∈ vs1, i ∈ vs) (han : ∀ v ∈ vs, env[v]? = some .an)
    (turn : ∀ x ys, h x = some ys → ∃ envt, TgD K l g (en x) env envt ∧ EvI K l1 true wi1 envt envt (ys.map en1) ∧ (∀ v ∈ vs1, envt[v]? = some .an) ∧ (vs.all fun v => !isMu envt[v]?) = true ∧ env = wipeE envt vs ∧
      ∀ y kv, f x y = some kv → TurnK K l1 g1 tk tv vs1 (en1 y) envt (.tup (kv.1.map D.int)) (eb kv.2)) : EvF K true (tDg (.dT []) wi g tYes (tIn wi1 g1 tYes tk tv vs1) vs) env env (dtL (r.map fun z => ((z.1.map Sum.inl : List Key), eb z.2))) := by
  unfold dictO2 at hs
  by_cases hn : xs.length ≤ 100
  · rw [if_pos hn] at hs
    obtain ⟨pss, h1, hs⟩ := Option.map_eq_some_iff.mp hs
    subst hs
    obtain ⟨l1', g1'⟩ := compL_get (compO_of h1).2
    have q := putAll_map (fun z : List Int => (z.map Sum.inl : List Key)) eb inls_inj pss.flatten []
    rw [show (putAll [] pss.flatten).map (fun z => ((z.1.map Sum.inl : List Key), eb z.2)) = putAll [] ((pss.map fun ps => ps.map fun z => ((z.1.map Sum.inl : List Key), eb z.2)).flatten) by rw [← q, List.map_flatten]; rfl]
    have shape : ∀ (i : Nat) x, xs[i]? = some x → ∃ ps ys, pss[i]? = some ps ∧ h x = some ys ∧ ys.length ≤ 100 ∧ ps.length = ys.length ∧ ∀ (j : Nat) y, ys[j]? = some y → ∃ kv, ps[j]? = some kv ∧ f x y = some kv := fun i x hx => by
      obtain ⟨ps, hp, hf⟩ := g1' i x hx
      obtain ⟨ys, hy, hf⟩ := Option.bind_eq_some_iff.mp hf
      by_cases hny : ys.length ≤ 100
      · rw [if_pos hny] at hf
        obtain ⟨l2, g2⟩ := compL_get (compO_of hf).2
        exact ⟨ps, ys, hp, hy, hny, l2, g2⟩
      · rw [if_neg hny] at hf; cases hf
    refine ef_dg2 kdT hl hl1 hi hw hw1 inn han (by simp [l1']) (by simpa using hn) (fun ps hps => ?_) fun i d ps hd hps => ?_
    · obtain ⟨qs, hq, rfl⟩ := List.mem_map.mp hps
      obtain ⟨i, hi', e⟩ := List.mem_iff_getElem.mp hq
      obtain ⟨ps', ys, s1, s2, s3, s4, _⟩ := shape i xs[i] (List.getElem?_eq_getElem (by omega))
      rw [List.getElem?_eq_getElem hi', e] at s1
      cases s1
      rw [List.length_map, s4]; exact s3
    · rw [List.getElem?_map] at hd hps
      obtain ⟨x, hx, rfl⟩ := Option.map_eq_some_iff.mp hd
      obtain ⟨qs, hq, rfl⟩ := Option.map_eq_some_iff.mp hps
      obtain ⟨ps', ys, s1, s2, s3, s4, s5⟩ := shape i x hx
      rw [hq] at s1; cases s1
      obtain ⟨envt, t1, t2, t3, t4, t5, t6⟩ := turn x ys s2
      refine ⟨envt, ys.map en1, t1, t2, t3, t4, t5, by simp [s4], fun j d kv hd hkv => ?_⟩
      rw [List.getElem?_map] at hd hkv
      obtain ⟨y, hy, rfl⟩ := Option.map_eq_some_iff.mp hd
      obtain ⟨z, hz, rfl⟩ := Option.map_eq_some_iff.mp hkv
      obtain ⟨kv, u1, u2⟩ := s5 j y hy
      rw [hz] at u1; cases u1
      show TurnK K l1 g1 tk tv vs1 (en1 y) envt (D.tup ((z.1.map Sum.inl : List Key).map keyD)) (eb z.2)
      rw [keyI]; exact t6 y z u2
  · rw [if_neg hn] at hs; cases hs
def toPair : List Int → Option (Int × Int)
  | [a, b] => some (a, b)
  | _ => none
theorem toPair_eq {ns : List Int} {p : Int × Int} (h : toPair ns = some p) : ns = [p.1, p.2] := by
  unfold toPair at h
  split at h
  · cases h; rfl
  · cases h
end
end Pw
/-! PwZ: options opened, tagged tuples, stores of two places at once, list(d). -/
namespace L2
open PySem PySem.Spec PyProof.Rows
def rSetDt : V → V → V → Hp → (Hp → Prop) → Prop := fun o i v H Q => ∃ a H', o = .ref a ∧ DPut H a i v H' ∧ Q H'
theorem set_dict {X : Cx} (room : X.A.units + 1 < cLine) : PSet X rSetDt := by
  intro pins s σ H o i v ov iv u Q I ro ri rv h
  obtain ⟨a, H', rfl, g, q⟩ := h
  cases ro
  exact d_setItem room I g ri rv fun t I' => ⟨H', I', q⟩
/-- a, b, c = x, y, z with plain local names: stored from the right -/
def tPar3 (i j k : Nat) (ta : TA) : TS := fun D σ H => ta σ H fun vs H1 => ∃ v w u, vs = [v, w, u] ∧ D.nx (((σ.set i (some v)).set j (some w)).set k (some u)) H1
theorem ps_par3 {X : Cx} {i j k : Nat} {x y z : Str} {a b c : Expr} {ta : TA} {px py pz pt pt2 pos : Pos} {kt k2 : Nat} (calm : X.calm = true) (nd : X.N.Nodup) (hi : X.N[i]? = some x) (hj : X.N[j]? = some y) (hk : X.N[k]? = some z) (ne : i ≠ j ∧ i ≠ k ∧ j ≠ k)
    (lx : X.env.scope.names.lookup x = some .local) (ly : X.env.scope.names.lookup y = some .local) (lz : X.env.scope.names.lookup z = some .local) (parts : PA X [a, b, c] ta)
    (sw : swappedStores [.Tuple [.Name x px, .Name y py, .Name z pz] kt pt] (.Tuple [a, b, c] k2 pt2) X.env = pure (some [x, y, z]))
    (so : swapsWithSole [.Tuple [.Name x px, .Name y py, .Name z pz] kt pt] (.Tuple [a, b, c] k2 pt2) pos.line X.env = pure false := by rfl) :
    PS X (.Assign [.Tuple [.Name x px, .Name y py, .Name z pz] kt pt] (.Tuple [a, b, c] k2 pt2) pos) (tPar3 i j k ta) := by
  refine ⟨fun pins s σ H D I h => ?_⟩
  rw [exec_Assign_arm]
  refine wpAny_bind (wpAny_standAt ?_)
  rw [so]
  refine wpAny_bind (wpAny_pure ?_)
  rw [if_neg (by decide)]
  refine wpAny_bind (Tuple_ (thn (parts.run _ pins s σ H _ I h) fun us t1 ⟨vs, H1, I1, r1, q1⟩ => ?_))
  obtain ⟨v, w, u, e1, q1⟩ := q1
  subst e1
  obtain ⟨u1, u2, u3, rfl, p1, p2, p3⟩ : ∃ u1 u2 u3, us = [u1, u2, u3] ∧ RelV v u1 ∧ RelV w u2 ∧ RelV u u3 := by
    cases r1 with
    | cons p q =>
      cases q with
      | cons p' q' =>
        cases q' with
        | cons p'' q'' =>
          cases q''
          exact ⟨_, _, _, rfl, p, p', p''⟩
  refine wpAny_newObj_type ?_ (by show 3 ≤ sizeLine; decide)
  have I2 : Inv X pins σ H1 { t1 with heap := t1.heap.push { cls := .type "tuple", data := .seq [u1, u2, u3].toArray } } := I1.kept (t' := t1.toks) fun b o e => Heap.get?_push_of_some _ e
  rw [sw]
  refine wpAny_bind (wpAny_pure ?_)
  show wpAny (model X.prog X.w) X.A (do rule "assign.swapped-stores"; let items ← unpackItems (.ref t1.heap.objs.size) 3 none; assignInOrder [fun v => bindName X.env z v, fun v => bindName X.env y v, fun v => bindName X.env x v] items.reverse; pure Flow.next) _ _ _
  refine wpAny_bind (wpAny_rule (wpAny_bind (unpackItems_tuple (items := #[u1, u2, u3]) (I.ok.hd calm) (IsTup.new t1.heap _) fun h2 ext => ?_)))
  have I3 := I2.kept (h' := h2) (t' := t1.toks) fun b o e => ext b o (Nat.ne_of_lt (Heap.lt_size e)) e
  show wpAny _ _ (assignInOrder [fun v => bindName X.env z v, fun v => bindName X.env y v, fun v => bindName X.env x v] [u3, u2, u1] >>= fun _ => pure Flow.next) _ _ _
  refine wpAny_bind (assignInOrder_cons (wpAny_bindName (store_ok I3 nd hk (.inl lz) p3 (fun t2 I4 => ?_) (.inr lz))))
  refine assignInOrder_cons (wpAny_bindName (store_ok I4 nd hj (.inl ly) p2 (fun t3 I5 => ?_) (.inr ly)))
  refine assignInOrder_cons (wpAny_bindName (store_ok I5 nd hi (.inl lx) p1 (fun t4 I6 => assignInOrder_nil (wpAny_pure ?_)) (.inr lx)))
  rw [List.set_comm _ _ (Ne.symm ne.1), List.set_comm _ _ (Ne.symm ne.2.1), List.set_comm _ _ (Ne.symm ne.2.2)] at I6
  exact ⟨_, H1, I6, q1⟩
/-- code that is never reached -/
def tDead : TS := fun _ _ _ => False
theorem ps_dead {X : Cx} {s : Stmt} : PS X s tDead := ⟨fun pins s σ H D I h => h.elim⟩
end L2
namespace Pw
open PySem L2 PySem.Spec PyProof.Rows
section
variable {K : PySem.W.Frag} {We : WX} {X : Addr → Prop} {a0 : Addr} {H0 : Hp} {M M' : Msk} {ad ad' : Nat → List Addr} {σ σ' τ : L2.St} {H H' H1 : Hp} {env env' env'' : List Bd} {l l' : Lv} {p q : Bool} {d d' e : D} {ta tb te ti tx tk tv : TE} {i j : Nat} {b c : Bool} {ts tu : TS} {o : Out} {Dn : Ends} {tsA : TA} {g : TG} {vs : List Nat}
theorem ev_maxOw {k0 : List Int} {r : List (List Int)} (h : env[i]? = some (.ow (.lst ((k0 :: r).map tI)))) : EvD K l true (tCB (rMaxD K) (tCons (tVar i) tNil)) env env (tI (maxK k0 r)) := fun X a0 H0 M ad σ H Q E k => by
  obtain ⟨_, h2, ys, h3, h4⟩ := E.ow i _ h
  refine ⟨_, h2, rt ad i, ys, pI k0, r.map pI, rfl, SqL.of h3, DpAM hid_all (dp_tIs h4), alikes (k0 :: r), Nat.le_trans (depth_pIs (k0 :: r)) (by decide), fun d hd => ?_, fun j v hv he => ?_⟩
  · obtain ⟨z, _, rfl⟩ := List.mem_map.mp (show d ∈ (k0 :: r).map pI from hd)
    exact lay_pI z
  · obtain ⟨d, hd1, hd2⟩ := h4.get' hv
    rw [List.getElem?_map] at hd1
    obtain ⟨z, hz, rfl⟩ := Option.map_eq_some_iff.mp hd1
    have he' : ((k0 :: r).map pI)[j]? = some (pI (maxK k0 r)) := by rw [← maxD_tI]; exact he
    rw [List.getElem?_map, hz] at he'
    have := pI_inj (Option.some.inj he')
    exact k v H E (Ex.refl _) (fun _ => Ex.refl _) (Rp.mono (hid_le mk_le) _ _ (by rw [← this]; exact hd2))
theorem ev_maxOwT {α : Type} {key : α → List Int} {xs : List α} {m : α} (h : env[i]? = some (.ow (.lst (xs.map fun a => tI (key a))))) (hm : maxO key xs = some m) : EvD K l true (tCB (rMaxD K) (tCons (tVar i) tNil)) env env (tI (key m)) := by
  cases xs with
  | nil => cases hm
  | cons x r =>
    have hm : some (maxT key x r) = some m := hm
    cases hm
    have h' : env[i]? = some (.ow (.lst ((key x :: r.map key).map tI))) := by rw [h, List.map_cons, List.map_cons, List.map_map]; rfl
    have := ev_maxOw (K := K) (l := l) h'
    rw [maxK_key] at this
    exact this
theorem ei_toF {wi : TI} {ds : List D} (h : EvI K l p wi env env' ds) : EvI K l false wi env env' ds := fun X a0 H0 M ad σ H R E k =>
  h X a0 H0 M ad σ H R E fun J H' E' e' p' r => k J H' E' e' (fun z => by cases z) r
theorem ifS {c : Prop} [Decidable c] {u : Unit} (h : (if c then some () else none) = some u) : c := by
  by_cases g : c
  · exact g
  · rw [if_neg g] at h; cases h
theorem ev_some {α : Type} {f : α → D} {v : Option α} {x : α} (hv : v = some x) (h : EvD K l p te env env' (encO f v)) : EvD K l p te env env' (f x) := by
  subst hv; exact h
def encTg : Option (PySem.Str × List Int) → D
  | none => .non
  | some z => .tup (.str z.1 :: z.2.map .int)
/-- d[a, b], xs[n] = x, y for one's own dict and list -/
theorem sd_parDL {α β : Type} {f : α → D} {h : β → D} {l1 : List (List Int × α)} {v : α} {ns : List Int} {xs : List β} {w : β} {n : Int} {jj : Nat} (hij : i ≠ j) (hd : env[i]? = some (.ow (dtL (l1.map fun z => ((z.1.map Sum.inl : List Key), f z.2))))) (hx : env[j]? = some (.ow (.lst (xs.map h))))
    (ha : EvD K .l2 true ta env env (f v)) (hb : EvD K .l2 true tb env env (h w)) (hk : EvA K .l2 true tsA env env (ns.map .int)) (hns : ns.length ≤ 1000) (hn : l1.length < 100000) (hi : EvD K .l2 true ti (env.set i (.ow (dtL ((putA l1 ns v).map fun z => ((z.1.map Sum.inl : List Key), f z.2))))) (env.set i (.ow (dtL ((putA l1 ns v).map fun z => ((z.1.map Sum.inl : List Key), f z.2))))) (.int n)) (hj : ixN xs.length n = some jj) :
    SD K We (tAsg (tTup (tCons ta (tCons tb tNil))) (gTup K 2 (gCons (gSub (tVar i) (tTup tsA) rSetDt) (gCons (gSub (tVar j) ti rSetL) gNil)))) env (.nx ((env.set i (.ow (dtL ((putA l1 ns v).map fun z => ((z.1.map Sum.inl : List Key), f z.2))))).set j (.ow (.lst ((xs.set jj w).map h))))) := fun X a0 H0 M ad σ H Dn E k => by
  refine ha X a0 H0 M ad σ H _ E fun x H1 E1 e1 p1 r1 => hb X a0 H0 M ad σ H1 _ E1 fun y H2 E2 e2 p2 r2 => ⟨show 2 ≤ sizeLine from by decide, fun c hc => ?_⟩
  have g2 : Ex H2 (upd H2 c (.tup [x, y])) := Ex.new hc
  have E3 := E2.grow g2
  refine ⟨c, [x, y], rfl, SqT.of upd_same, rfl, x, [y], rfl, ?_⟩
  obtain ⟨_, h2, _⟩ := E3.ow i _ hd
  refine ⟨_, h2, hk X a0 H0 M ad σ _ _ E3 fun zs H4 E4 e4 p4 r4 => ?_⟩
  have hz := r4.ints
  subst hz
  refine ⟨by rw [List.length_map]; exact Nat.le_trans hns (by decide), fun b hb => ?_⟩
  have g5 : Ex H4 (upd H4 b (.tup (ns.map V.int))) := Ex.new hb
  have E5 := E4.grow g5
  obtain ⟨_, _, ys, h4, h0, h5⟩ := E5.ow i _ hd
  have hp := rpk_of (l := l1.map fun z => ((z.1.map Sum.inl : List Key), f z.2)) h5
  have up5 : Ex H1 (upd H4 b (.tup (ns.map V.int))) := (((p2 rfl).trans g2).trans (p4 rfl)).trans g5
  have rx := Rp.mono (hid_ex up5) _ _ r1
  have hzl : ((((l1.map fun z => ((z.1.map Sum.inl : List Key), f z.2)).map (·.1)).zip ys : List (List Key × V))).length < sizeLine := by rw [rpk_len hp, List.length_map]; exact Nat.lt_of_lt_of_le hn (by decide)
  obtain ⟨zs, z1, z2⟩ := of_rpk (rpk_put (k := (ns.map Sum.inl : List Key)) rx hp)
  have hbk : (upd H4 b (.tup (ns.map V.int))) b = some (.tup ((ns.map Sum.inl : List Key).map kV)) := by rw [upd_same, List.map_map]; rfl
  refine ⟨rt ad i, _, rfl, DPut.t (k := ns.map Sum.inl) h4 hbk hzl, ?_⟩
  have pm := putA_map (fun z : List Int => (z.map Sum.inl : List Key)) f inls_inj ns v l1
  rw [pm] at z1 z2
  have E6 := E5.cellOw (d' := dtL ((putA l1 ns v).map fun (z : List Int × α) => ((z.1.map Sum.inl : List Key), f z.2))) (o := .dT (putK (((l1.map fun (z : List Int × α) => ((z.1.map Sum.inl : List Key), f z.2)).map (·.1)).zip ys) (ns.map Sum.inl) x)) hd ⟨zs, by rw [upd_same, z1], by simp, z2⟩
  refine ⟨y, [], rfl, ?_⟩
  have hj6 : (env.set i (.ow (dtL ((putA l1 ns v).map fun z => ((z.1.map Sum.inl : List Key), f z.2)))))[j]? = some (.ow (.lst (xs.map h))) := by rw [List.getElem?_set_ne hij]; exact hx
  obtain ⟨_, h7, _⟩ := E6.ow j _ hj6
  refine ⟨_, h7, hi X a0 H0 M ad σ _ _ E6 fun m H7 E7 e7 p7 r7 => ?_⟩
  obtain ⟨_, _, us, h8, h9⟩ := E7.ow j _ hj6
  have hm : m = V.int n := r7
  have nMi : M.m (rt ad i) := M.le _ (E5.ow i _ hd).1
  have up6 : Ex (hid (fun b => M.m b ∨ X b) H2) (hid (fun b => M.m b ∨ X b) H7) := by
    have q1 : Ex H2 (upd H4 b (.tup (ns.map V.int))) := (g2.trans (p4 rfl)).trans g5
    have e6 : ∀ ob, hid (fun b => M.m b ∨ X b) (upd (upd H4 b (.tup (ns.map V.int))) (rt ad i) ob) = hid (fun b => M.m b ∨ X b) (upd H4 b (.tup (ns.map V.int))) := fun ob => hid_upd (.inl nMi)
    have q2 := hid_ex (m := fun b => M.m b ∨ X b) q1
    rw [← e6] at q2
    exact q2.trans (hid_ex (p7 rfl))
  refine ⟨rt ad j, us, n, jj, rfl, hm, h8, by rw [h9.length, List.length_map]; exact hj, ?_⟩
  refine ⟨rfl, k M ad σ _ (E7.cellOw hj6 ⟨us.set jj y, upd_same, ?_⟩)⟩
  have := RpL.set (i := jj) h9 (Rp.mono up6 _ _ r2)
  rw [List.map_set]
  exact this
theorem ef_listK {α : Type} {f : α → D} {l1 : List (Int × α)} (h : EvA K l p tsA env env' [dkL (l1.map fun z => ((Sum.inl z.1 : Key), f z.2))]) : EvF K p (tCB (fun xs H Q => ∃ (a : Addr) (kvs : List (Key × V)), xs = [.ref a] ∧ Rd H a (.dK kvs) ∧ ∀ p, H p = none → Q (.ref p) (upd H p (.lst (kvs.map fun kv => kV kv.1)))) tsA) env env' (.lst ((l1.map (·.1)).map D.int)) := fun X a0 H0 M ad σ H Q E k =>
  h X a0 H0 M ad σ H _ E fun xs H1 E1 e1 p1 r1 => by
    obtain ⟨x, rfl, a, ys, rfl, h1, h2, h3⟩ := r1.one'
    refine ⟨a, _, rfl, ex_rd hid_all h1, fun c hc => ?_⟩
    have hl : ys.length = (l1.map fun z => ((Sum.inl z.1 : Key), f z.2)).length := by rw [h3.length, List.length_map]
    refine k c H1 _ hc (stays E E1 e1) E1 (Ex.new hc) e1 p1 ⟨_, upd_same, ?_⟩
    have e : ((((l1.map fun (z : Int × α) => ((Sum.inl z.1 : Key), f z.2)).map (·.1)).zip ys : List (Key × V)).map fun kv => kV kv.1) = (l1.map (·.1)).map V.int := by
      have e1 : ((((l1.map fun (z : Int × α) => ((Sum.inl z.1 : Key), f z.2)).map (·.1)).zip ys : List (Key × V)).map fun kv => kV kv.1) = (((l1.map fun (z : Int × α) => ((Sum.inl z.1 : Key), f z.2)).map (·.1)).zip ys : List (Key × V)).unzip.1.map kV := by
        rw [List.unzip_eq_map]
        exact (List.map_map (g := kV) (f := Prod.fst)).symm
      rw [e1, List.unzip_zip (by rw [hl, List.length_map]), List.map_map, List.map_map, List.map_map]
      rfl
    rw [e]
    exact RpL.ofInts _
/-- list(range(n)) -/
theorem ef_listRg1 {n : Int} {ms : List Int} (hs : rngO 0 n = some ms) (hn : ms.length ≤ 100000) (h : EvD K .l2 p te env env' (.int n)) : EvF K p (tLstRg (tRg1 te)) env env' (.lst (ms.map D.int)) := fun X a0 H0 M ad σ H Q E k =>
  h X a0 H0 M ad σ H _ E fun x H1 E1 e1 p1 r1 => by
    unfold rngO at hs
    by_cases g : (inR 0 && inR n) = true
    · rw [if_pos g] at hs
      cases hs
      have g2 := (Bool.and_eq_true_iff.mp g).2
      unfold inR at g2
      simp only [Bool.and_eq_true, decide_eq_true_eq] at g2
      have hl : (n - 0).toNat ≤ 100000 := by
        have : (rng 0 (n - 0).toNat).length = (n - 0).toNat := by unfold rng; simp
        omega
      have hx : x = V.int n := r1
      refine ⟨n, hx, ⟨by decide, by decide, by omega, by omega, by omega⟩, fun c hc => k c H1 _ hc (stays E E1 e1) E1 (Ex.new hc) e1 p1 ⟨_, upd_same, ?_⟩⟩
      have : rgV 0 n = (rng 0 (n - 0).toNat).map V.int := by unfold rgV rng; rw [List.map_map]; rfl
      rw [this]
      exact RpL.ofInts _
    · rw [if_neg g] at hs; cases hs
theorem sd_endZ {S R : Type} {ev : S → List Bd} {fin : R → Out} {z : S ⊕ R} (vs : List Nat) (h : SD K We ts env (outZ ev fin z)) (h1 : ∀ s, z = .inl s → (vs.all fun v => !isMu (ev s)[v]?) = true ∧ Out.nx (wipeE (ev s) vs) = o) (h2 : ∀ r, z = .inr r → fin r = o) : SD K We ts env o := by
  cases z with
  | inl s =>
    obtain ⟨g1, g2⟩ := h1 s rfl
    rw [← g2]
    exact sd_wipe vs g1 h
  | inr r =>
    rw [← h2 r rfl]
    exact h
theorem sd_par3 {tA : TA} {x y z : Nat} (h : PF K tA (gCons (gName x) (gCons (gName y) (gCons (gName z) gNil))) env env env') : SD K We (tPar3 x y z tA) env (.nx env') := fun X a0 H0 M ad σ H Dn E k =>
  h X a0 H0 M ad ad σ σ H _ E E fun vs M' ad' τ' H' E' g f => by
    obtain ⟨v, r, h1, w, r', h2, u, r'', h3, h4, h5⟩ := f H' (fun s _ => s = τ') rfl
    subst h2 h3 h4
    exact ⟨v, w, u, h1, by rw [h5]; exact k M' ad' τ' H' E'⟩
end
end Pw
/-! QTa: trees: a part of a tree met, changed, read -/
namespace Pw
open PySem L2

section
variable {K : PySem.W.Frag} {We : WX} {X : Addr → Prop} {a0 : Addr} {H0 : Hp} {M M' : Msk} {ad ad' : Nat → List Addr} {σ σ' : St} {H H' H1 : Hp} {env env' env'' : List Bd} {l l' : Lv} {p q : Bool} {d d' e : D} {ta tb te ti tv : TE} {i j r : Nat} {b c : Bool} {ts tu : TS} {o : Out} {Dn : Ends} {tsA : TA} {t t' : Tr} {us : List Tr}
theorem noer_outZ {S R : Type} {ev : S → List Bd} {fin : R → Out} {z : S ⊕ R} (h : ∀ r, (fin r).noer = true) : (outZ ev fin z).noer = true := by
  cases z with
  | inl s => rfl
  | inr r => exact h r
/-- one of a node's parts -/
theorem OwL.at {B : Hp} : ∀ {us : List Tr} {xs : List V} {as : List Addr} {r : Nat} {t : Tr}, OwL K B H us xs as → us[r]? = some t → ∃ x a1 a2 a3, xs[r]? = some x ∧ as = a1 ++ (a2 ++ a3) ∧ Ow K B H t x a2 ∧
    ∀ (B' H' : Hp) (t' : Tr) (a2' : List Addr) (x' : V), Ex B B' → (∀ b, (b ∈ a1 ∨ b ∈ a3) → H' b = H b) → Ow K B' H' t' x' a2' → OwL K B' H' (us.set r t') (xs.set r x') (a1 ++ (a2' ++ a3))
  | [], _, _, _, _, _, e => by simp at e
  | u :: us, _, _, 0, t, ⟨x, s, b1, b2, h1, h2, h3, h4⟩, e => by
    subst h1 h2
    simp at e
    subst e
    refine ⟨x, [], b1, b2, rfl, rfl, h3, fun B' H' t' a2' x' g k w => ?_⟩
    exact ⟨x', s, a2', b2, rfl, rfl, w, OwL.mono g us s b2 (fun b hb => k b (.inr hb)) h4⟩
  | u :: us, _, _, r + 1, t, ⟨x, s, b1, b2, h1, h2, h3, h4⟩, e => by
    subst h1 h2
    obtain ⟨y, a1, a2, a3, g1, g2, g3, g4⟩ := OwL.at (r := r) h4 (by simpa using e)
    subst g2
    refine ⟨y, b1 ++ a1, a2, a3, by simpa using g1, by simp, g3, fun B' H' t' a2' x' g k w => ?_⟩
    have := g4 B' H' t' a2' x' g (fun b hb => k b (hb.imp (List.mem_append_right _) id)) w
    exact ⟨x, s.set r x', b1, a1 ++ (a2' ++ a3), rfl, by simp, Ow.mono g u x b1 (fun b hb => k b (.inl (List.mem_append_left _ hb))) h3, this⟩
theorem OwL.len {B : Hp} : ∀ {us : List Tr} {xs : List V} {as : List Addr}, OwL K B H us xs as → xs.length = us.length
  | [], _, _, h => by rw [h.1]; rfl
  | _ :: us, _, _, ⟨x, s, b1, b2, h1, _, _, h4⟩ => by rw [h1, List.length_cons, List.length_cons, OwL.len h4]
/-- the same slot, with another tree -/
def re : Bd → Tr → Bd
  | .tm _, t => .tm t
  | _, t => .tr t
theorem re_own {b : Bd} : own (some (re b t)) = some t := by cases b <;> rfl
theorem re_tr {bd : Bd} (h : env[i]? = some bd) (ho : own (some bd) = some t) : (∀ u, re bd t' = .tr u → ∃ u0, env[i]? = some (.tr u0)) ∧ ∀ u, re bd t' = .tm u → ∃ u0, env[i]? = some (.tm u0) := by
  cases bd with
  | tr t1 => exact ⟨fun u _ => ⟨t1, h⟩, fun u z => (nomatch z)⟩
  | tm t1 => exact ⟨fun u z => (nomatch z), fun u _ => ⟨t1, h⟩⟩
  | _ => cases ho

/-! ### a flat part of a tree, to be read and to be written -/
/-- te is an own object whose contents are d; behind a change of it the slots are put d' -/
def EvW (K : PySem.W.Frag) (te : TE) (env : List Bd) (d : D) (put : D → List Bd) : Prop :=
  ∀ X a0 H0 M ad σ H (Q : VK), ER K X a0 H0 M ad σ H env →
    (∀ a H', ER K X a0 H0 M ad σ H' env → Ex H H' → M.n a → Cell K (hid (fun b => M.m b ∨ X b) H') H' a d →
      (∀ H1, ER K X a0 H0 M ad σ H1 env → Ex H' H1 → Cell K (hid (fun b => M.m b ∨ X b) H1) H1 a d ∧
        ∀ o d', Cell K (hid (fun b => M.m b ∨ X b) H1) (upd H1 a o) a d' → ER K X a0 H0 M ad σ (upd H1 a o) (put d')) → Q (.ref a) H') → te σ H Q
/-- .. to be read -/
def EvO (K : PySem.W.Frag) (te : TE) (env : List Bd) (d : D) : Prop :=
  ∀ X a0 H0 M ad σ H (Q : VK), ER K X a0 H0 M ad σ H env → (∀ a H', ER K X a0 H0 M ad σ H' env → Ex H H' → Cell K (hid (fun b => M.m b ∨ X b) H') H' a d → Q (.ref a) H') → te σ H Q
theorem EvW.rd {put : D → List Bd} (h : EvW K te env d put) : EvO K te env d := fun X a0 H0 M ad σ H Q E k => h X a0 H0 M ad σ H Q E fun a H' E' g _ c _ => k a H' E' g c
theorem ew_slot {bd : Bd} (h : env[i]? = some bd) (ho : own (some bd) = some (Tr.of d)) : EvW K (tVar i) env d fun d' => env.set i (re bd (Tr.of d')) := fun X a0 H0 M ad σ H Q E k => by
  obtain ⟨ea, hn, hσ, hc⟩ := E.cl (by rw [h]; exact ho)
  refine ⟨_, hσ, k _ H E (Ex.refl _) hn hc fun H1 E1 g => ?_⟩
  obtain ⟨_, _, _, hc1⟩ := E1.cl (by rw [h]; exact ho)
  refine ⟨hc1, fun o d' c => ?_⟩
  have hk := re_tr (t' := Tr.of d') h ho
  exact E1.cellG (by rw [h]; exact ho) re_own hk.1 hk.2 c
/-- what a part's change makes of the whole -/
theorem ER.part {k : Nk} {bd : Bd} (E : ER K X a0 H0 M ad σ H env) (h : env[i]? = some bd) (ho : own (some bd) = some (.n k us)) (hr : us[r]? = some (Tr.of d)) :
    ∃ v xs rest a, σ[i]? = some (some (.ref v)) ∧ NodeAt H v xs k ∧ OwL K (hid (fun b => M.m b ∨ X b) H) H us xs rest ∧ xs[r]? = some (.ref a) ∧ M.n a ∧ a ≠ v ∧ Cell K (hid (fun b => M.m b ∨ X b) H) H a d ∧
      ∀ o d', Cell K (hid (fun b => M.m b ∨ X b) H) (upd H a o) a d' → ER K X a0 H0 M ad σ (upd H a o) (env.set i (re bd (.n k (us.set r (Tr.of d'))))) := by
  have hi : own env[i]? = some (.n k us) := by rw [h]; exact ho
  obtain ⟨an, nd, v', hv, w⟩ := E.ws i _ hi
  obtain ⟨v, xs, rest, rfl, e, hN, hL⟩ := id w
  obtain ⟨x, a1, a2, a3, g1, g2, g3, g4⟩ := hL.at hr
  obtain ⟨a, rfl, rfl, hc⟩ := Ow.cell.mp g3
  subst g2
  have ain : a ∈ ad i := by rw [e]; simp
  have nd' : v ∉ a1 ++ ([a] ++ a3) ∧ (a1 ++ ([a] ++ a3)).Nodup := by rw [e] at nd; exact List.nodup_cons.mp nd
  have av : a ≠ v := fun z => nd'.1 (by rw [z]; simp)
  have na : ∀ b, (b ∈ a1 ∨ b ∈ a3) → b ≠ a := fun b hb z => by
    subst z
    have q := nd'.2
    rw [List.nodup_append] at q
    obtain ⟨_, q2, q3⟩ := q
    rcases hb with hb | hb
    · exact q3 b hb b (by simp) rfl
    · have := (List.nodup_cons.mp q2).1
      exact this hb
  refine ⟨v, xs, _, a, hv, hN, hL, g1, an a ain, av, hc, fun o d' c => ?_⟩
  have hk := re_tr (t' := .n k (us.set r (Tr.of d'))) h ho
  have em : hid (fun b => M.m b ∨ X b) (upd H a o) = hid (fun b => M.m b ∨ X b) H := hid_upd (.inl (M.le _ (an a ain)))
  refine E.chg hi re_own hk.1 hk.2 hv (fun _ z => z) (fun _ z => .inl z) (fun _ z => z) (fun _ _ => rfl) (fun b hb => ⟨an b hb, .inl hb⟩) nd (fun b u hb q => ?_) (fun b hb => ?_) ?_
  · rw [upd_ne fun z => hb (by rw [z]; exact ain)]; exact q
  · by_cases z : b = a
    · rw [z]; exact c.some
    · rw [upd_ne z]; exact Ow.nt _ _ _ w b hb
  · rw [em]
    have := g4 (hid (fun b => M.m b ∨ X b) H) (upd H a o) (Tr.of d') [a] (.ref a) (Ex.refl _) (fun b hb => upd_ne (na b hb)) (Ow.cell.mpr ⟨a, rfl, rfl, c⟩)
    rw [show xs.set r (V.ref a) = xs from List.ext_getElem? fun m => by
      by_cases z : m = r
      · subst z; rw [g1, List.getElem?_set_self (List.getElem?_eq_some_iff.mp g1).1]
      · rw [List.getElem?_set_ne (Ne.symm z)]] at this
    exact ⟨v, xs, _, rfl, e, hN.eq (upd_ne (Ne.symm av)), this⟩
/-- xs[n] of an own list of own lists -/
theorem ew_ix {bd : Bd} {n : Int} (h : env[i]? = some bd) (ho : own (some bd) = some (.n .l us)) (hi : EvD K .l2 true ti env env (.int n)) (hn : ixN us.length n = some r) (hr : us[r]? = some (Tr.of d)) :
    EvW K (tOp (rIxL K) (tVar i) ti) env d fun d' => env.set i (re bd (.n .l (us.set r (Tr.of d')))) := fun X a0 H0 M ad σ H Q E k => by
  obtain ⟨v, xs, rest, a, hv, hN, hL, hx, hna, av, hc, _⟩ := E.part h ho hr
  refine ⟨_, hv, hi X a0 H0 M ad σ H _ E fun y H2 E2 e2 p2 r2 => ?_⟩
  have g := p2 rfl
  obtain ⟨v', xs', rest', a', hv', hN', hL', hx', hna', av', hc', up⟩ := E2.part h ho hr
  rw [hv] at hv'
  cases hv'
  refine ⟨v, xs', n, .ref a', rfl, r2, SqL.of hN', ?_, ?_⟩
  · unfold atI
    rw [hL'.len, hn]
    exact hx'
  · refine k a' H2 E2 g hna' hc' fun H3 E3 g3 => ?_
    obtain ⟨v3, xs3, rest3, a3, hv3, hN3, hL3, hx3, hna3, av3, hc3, up3⟩ := E3.part h ho hr
    rw [hv] at hv3
    cases hv3
    have e1 : H3 v = some (.lst xs') := g3 _ _ hN'
    rw [show H3 v = some (.lst xs3) from hN3] at e1
    cases e1
    rw [hx'] at hx3
    cases hx3
    exact ⟨hc3, up3⟩

/-! ### an own tree read as data, at the moment -/
theorem ev_tr0 {bd : Bd} (h : env[i]? = some bd) (ho : own (some bd) = some t) : EvD K .l0 true (tVar i) env env t.fr := fun X a0 H0 M ad σ H Q E k => by
  obtain ⟨an, nd, v, hv, w⟩ := E.ws i t (by rw [h]; exact ho)
  exact ⟨v, hv, k v H E (Ex.refl _) (fun _ => Ex.refl _) (Ow.rp (hid_le mk_le) _ _ _ (fun b hb => hid_out (m := mk .l0 M X) fun z => z) w)⟩
theorem ev_tr3 (h : env[i]? = some (.tr t)) : EvD K .l3 true (tVar i) env env t.fr := fun X a0 H0 M ad σ H Q E k => by
  obtain ⟨an, nd, v, hv, w⟩ := E.ws i t (by rw [h]; rfl)
  exact ⟨v, hv, k v H E (Ex.refl _) (fun _ => Ex.refl _) (Ow.rp (hid_le mk_le) _ _ _ (fun b hb => hid_out (m := mk .l3 M X) fun z => E.xt i t h b hb z) w)⟩
theorem ev_tq1 (h : env[i]? = some (.tq t)) (hl : l = .l0 ∨ l = .l1) : EvD K l true (tVar i) env env t.fr := fun X a0 H0 M ad σ H Q E k => by
  obtain ⟨v, as, hv, ha, nd, w⟩ := E.tq i t h
  refine ⟨v, hv, k v H E (Ex.refl _) (fun _ => Ex.refl _) (Ow.rp (hid_le mk_le) _ _ _ (fun b hb => ?_) w)⟩
  rcases hl with rfl | rfl
  · exact hid_out (m := mk .l0 M X) fun z => z
  · exact hid_out (m := mk .l1 M X) fun z => (ha b hb).2 z
theorem fr_lst {ds : List D} : (Tr.of (.lst ds)).fr = .lst ds := by show D.lst (Tr.frs (ds.map .f)) = _; rw [Tr.frs_f]
theorem fr_dk {ks : List Key} {ds : List D} : (Tr.of (.dk ks ds)).fr = .dk ks ds := by show D.dk ks (Tr.frs (ds.map .f)) = _; rw [Tr.frs_f]
theorem fr_dt {ks : List (List Key)} {ds : List D} : (Tr.of (.dt ks ds)).fr = .dt ks ds := by show D.dt ks (Tr.frs (ds.map .f)) = _; rw [Tr.frs_f]
theorem fr_map {α : Type} {g : α → Tr} {f : α → D} {xs : List α} (h : ∀ x, (g x).fr = f x) : (Tr.n .l (xs.map g)).fr = .lst (xs.map f) := by
  show D.lst (Tr.frs (xs.map g)) = _
  rw [Tr.frs_map, funext h]
theorem frs_nil : Tr.frs [] = [] := rfl
theorem frs_cons {d : D} {ds : List D} (h : t.fr = d) (hs : Tr.frs us = ds) : Tr.frs (t :: us) = d :: ds := by
  show Tr.fr t :: Tr.frs us = _
  rw [h, hs]
theorem fr_o {C : Addr} {ns : List Str} {ds : List D} (h : Tr.frs us = ds) : (Tr.n (.o C ns) us).fr = .ob C ns ds := by
  show D.ob C ns (Tr.frs us) = _
  rw [h]

/-! ### statements that write a part -/
theorem sd_appendW {ds : List D} {put : D → List Bd} (h : EvW K te env (.lst ds) put) (he : EvD K .l2 true ta env env d) (hn : ds.length < 100000) :
    SD K We (tDrop (tBM K "list" rAppend te (tCons ta tNil))) env (.nx (put (.lst (ds ++ [d])))) := fun X a0 H0 M ad σ H Dn E k =>
  h X a0 H0 M ad σ H _ E fun a H2 E2 g2 hna hc up => by
    obtain ⟨xs0, h3, _⟩ := hc
    refine ⟨.inl ⟨rfl, xs0, SqL.of h3⟩, he X a0 H0 M ad σ H2 _ E2 fun v H1 E1 _ p1 r => ?_⟩
    obtain ⟨⟨xs, h4, h5⟩, up⟩ := up H1 E1 (p1 rfl)
    have hz : xs.length < sizeLine := by rw [h5.length]; exact Nat.lt_of_lt_of_le hn (by decide)
    exact ⟨a, xs, v, rfl, rfl, h4, hz, k M ad σ _ (up _ _ ⟨_, upd_same, RpL.append h5 (RpL.one r)⟩)⟩
theorem sd_setW {ds : List D} {n : Int} {put : D → List Bd} (he : EvD K .l2 p tv env env' d) (h : EvW K te env' (.lst ds) put) (hi : EvD K .l2 true ti env' env' (.int n)) (hj : ixN ds.length n = some j) :
    SD K We (tAsg tv (gSub te ti rSetL)) env (.nx (put (.lst (ds.set j d)))) := fun X a0 H0 M ad σ H Dn E k =>
  he X a0 H0 M ad σ H _ E fun v H1 E1 _ _ r => h X a0 H0 M ad σ H1 _ E1 fun a H3 E3 g3 hna hc up => hi X a0 H0 M ad σ H3 _ E3 fun y H2 E2 e2 p2 r2 => by
    obtain ⟨⟨xs, h4, h5⟩, up⟩ := up H2 E2 (p2 rfl)
    exact ⟨a, xs, n, j, rfl, r2, h4, by rw [h5.length]; exact hj, k M ad σ _ (up _ _ ⟨_, upd_same, RpL.set h5 (Rp.mono (hid_ex (g3.trans (p2 rfl))) _ _ r)⟩)⟩
end
end Pw
/-! QTb: new trees; lists of new objects, comprehended -/
namespace Pw
open PySem L2

section
variable {K : PySem.W.Frag} {We : WX} {X : Addr → Prop} {a0 : Addr} {H0 : Hp} {M M' : Msk} {ad ad' : Nat → List Addr} {σ σ' : St} {H H' H1 : Hp} {env env' env'' : List Bd} {l l' : Lv} {p q : Bool} {d d' e : D} {ta tb te ti tv : TE} {i j r : Nat} {b c : Bool} {ts tu : TS} {o : Out} {Dn : Ends} {tsA : TA} {t t' : Tr} {us : List Tr}
/-- a new tree of one's own -/
def EvFT (K : PySem.W.Frag) (p : Bool) (te : TE) (env env' : List Bd) (t : Tr) : Prop :=
  ∀ X a0 H0 M ad σ H (Q : VK), ER K X a0 H0 M ad σ H env →
    (∀ v as H1 H', (∀ a ∈ as, H1 a = none) → (∀ b o, H b = some o → H1 b ≠ none) → ER K X a0 H0 M ad σ H1 env' → Ex H1 H' → Ex (hid M.n H) (hid M.n H1) → (p = true → Ex H H1) → as.Nodup → Ow K (hid (fun b => M.m b ∨ X b) H1) H' t v as → Q v H') → te σ H Q
theorem ef_t (h : EvF K p te env env' d) : EvFT K p te env env' (Tr.of d) := fun X a0 H0 M ad σ H Q E k =>
  h X a0 H0 M ad σ H Q E fun a H1 H' ha hb E1 g e1 p1 r1 => k (.ref a) [a] H1 H' (fun b hb => by rw [List.mem_singleton.mp hb]; exact ha) hb E1 g e1 p1 (List.pairwise_singleton ..) (Ow.cell.mpr ⟨a, rfl, rfl, r1⟩)
theorem ft_is (h : EvFT K p te env env' t) (e : t = t') : EvFT K p te env env' t' := e ▸ h
theorem ft_toF (h : EvFT K p te env env' t) : EvFT K false te env env' t := fun X a0 H0 M ad σ H Q E k =>
  h X a0 H0 M ad σ H Q E fun v as H1 H' ha hb E1 g e1 p1 nd w => k v as H1 H' ha hb E1 g e1 (fun z => nomatch z) nd w
/-- .. read as data -/
theorem ft_ev (h : EvFT K p te env env' t) : EvD K l p te env env' t.fr := fun X a0 H0 M ad σ H Q E k =>
  h X a0 H0 M ad σ H Q E fun v as H1 H' ha _ E1 g e1 p1 nd w => by
    refine k v H' (E1.grow g) (e1.trans (hid_ex g)) (fun z => (p1 z).trans g) (Ow.rp ((hid_ex g).trans (hid_le mk_le)) _ _ _ (fun b hb => hid_out (fresh_mk E1 (ha b hb))) w)
theorem sd_asgT (h : EvFT K p te env env' t) : SD K We (tAsg te (gName i)) env (.nx (env'.set i (.tr t))) := fun X a0 H0 M ad σ H Dn E k =>
  h X a0 H0 M ad σ H _ E fun v as H1 H' ha _ E1 g _ _ nd w => k _ _ _ H' (E1.setTr ha nd g w)
theorem ft_callA {ta : TA} {ks : List Bool} {ds : List D} {R : List D → Tr → Prop} {EK : XK} (hk : ks.length = ds.length) (h : EvA K .l2 p ta env env' ds) (hR : R ds t) : EvFT K p (tCall (SpFT K ks R) [] EK ta) env env' t := fun X a0 H0 M ad σ H Q E k =>
  h X a0 H0 M ad σ H _ E fun vs H1 E1 e1 p1 a => ⟨mk .l2 M X, ds, t, hR, mk_dom E1, by rw [List.append_nil]; exact ArgOk.ofL hk a, fun v as H' g nd h0 w => by
    have g1 : Ex H1 (hid (fun b => b ∈ as) H') := fun b o hb => by
      rw [hid_out (m := fun b => b ∈ as) fun z => by rw [h0 b z] at hb; cases hb]; exact g b o hb
    refine k v as (hid (fun b => b ∈ as) H') H' (fun a ha => hid_in (m := fun b => b ∈ as) ha) (fun b o hb => ?_) (E1.grow g1) hid_all (e1.trans (hid_ex g1)) (fun z => (p1 z).trans g1) nd ?_
    · have := stays E E1 e1 b o hb
      cases q : H1 b with
      | none => exact absurd q this
      | some u => rw [g1 b u q]; simp
    · refine Ow.mono (fun b o hb => ?_) _ _ _ (fun _ _ => rfl) w
      obtain ⟨h1, h2⟩ := of_hid hb
      rw [hid_out (m := fun b => M.m b ∨ X b) fun z => h1 (.inl z), hid_out (m := fun b => b ∈ as) fun z => h1 (.inr z)]
      exact h2⟩
/-- return of a new tree -/
theorem sd_retFT (h : EvFT K p te env env' t) : SD K We (tRet te) env (.rt t) := fun X a0 H0 M ad σ H Dn E k =>
  h X a0 H0 M ad σ H _ E fun v as H1 H' ha _ E1 g e1 p1 nd w => by
    have E2 := E1.maskL ha g (fun b hb => Ow.nt _ _ _ w b hb)
    refine k env' (M.plusL as) ad σ v as H' E2 nd (fun b hb => ⟨E2.mout b (.inr hb), fun z => (E1.xin b z).1 (ha b hb)⟩) (Ow.mono (fun b o hb => ?_) _ _ _ (fun _ _ => rfl) w)
    obtain ⟨h1, h2⟩ := of_hid hb
    rw [hid_out (m := fun b => X b ∨ b ∈ as) fun z => z.elim (fun z => h1 (.inr z)) fun z => by rw [ha b z] at h2; cases h2]
    exact g b o h2
/-- .. of a tree in a slot -/
theorem sd_retTr (h : env[i]? = some (.tr t)) : SD K We (tRet (tVar i)) env (.rt t) := fun X a0 H0 M ad σ H Dn E k => by
  obtain ⟨an, nd, v, hv, w⟩ := E.ws i t (by rw [h]; rfl)
  exact ⟨v, hv, k env M ad σ v (ad i) H E nd (fun b hb => ⟨E.mout b (M.le b (an b hb)), E.xt i t h b hb⟩) (Ow.mono (hid_le fun b z => z.elim .inr fun z => .inl (M.le b (an b z))) _ _ _ (fun _ _ => rfl) w)⟩
def Msk.hideL (M : Msk) (as : List Addr) : Msk := ⟨M.n, fun b => M.m b ∨ b ∈ as, fun b h => .inl (M.le b h)⟩
theorem ER.mskE {M1 M2 : Msk} (E : ER K X a0 H0 M1 ad σ H env) (hn : M1.n = M2.n) (hm : M1.m = M2.m) : ER K X a0 H0 M2 ad σ H env := by
  obtain ⟨n1, m1, l1⟩ := M1
  obtain ⟨n2, m2, l2⟩ := M2
  cases hn
  cases hm
  exact E
theorem ER.hideMore {L as : List Addr} (E : ER K X a0 H0 (M.hideL L) ad σ H1 env) (ha : ∀ a ∈ as, H1 a = none) (g : Ex H1 H') (hs : ∀ a ∈ as, Nt (H' a)) : ER K X a0 H0 (M.hideL (L ++ as)) ad σ H' env :=
  (E.mask0 (as := as) (M.hideL L).n (fun _ h => h) (fun b h => .inl ((M.hideL L).le b h)) ha g hs).mskE rfl (by
    funext b
    exact propext ⟨fun h => by
      rcases h with (h | h) | h
      · exact .inl h
      · exact .inr (List.mem_append_left _ h)
      · exact .inr (List.mem_append_right _ h), fun h => by
      rcases h with h | h
      · exact .inl (.inl h)
      · rcases List.mem_append.mp h with h | h
        · exact .inl (.inr h)
        · exact .inr h⟩)
theorem ER.updHidL {τ : L2.St} {L : List Addr} {Dl : Addr} (E : ER K X a0 H0 (M.hideL L) ad τ H env) (hD : Dl ∈ L) (hb : H0 Dl = none) (nM : ¬ M.m Dl) {o : HO} (ho : ∀ xs, o ≠ .tup xs) : ER K X a0 H0 (M.hideL L) ad τ (upd H Dl o) env := by
  have hm1 : hid (fun b => (M.hideL L).m b ∨ X b) (upd H Dl o) = hid (fun b => (M.hideL L).m b ∨ X b) H := hid_upd (.inl (.inr hD))
  have hm2 : hid (M.hideL L).m (upd H Dl o) = hid (M.hideL L).m H := hid_upd (.inr hD)
  have nt : ∀ b, Nt (H b) → Nt ((upd H Dl o) b) := fun b h => by
    by_cases z : b = Dl
    · rw [z, upd_same]; exact ⟨by simp, fun xs e => ho xs (Option.some.inj e)⟩
    · rw [upd_ne z]; exact h
  refine ⟨E.len, fun b u h => ?_, fun b h => nt b (E.xin b h), fun b h => nt b (E.min b h), E.mout, fun j e q => ?_, fun j e q => ?_, fun j u q => ?_, E.xt, fun j u q => ?_, E.dj, E.t0⟩
  · rw [upd_ne fun (z : b = Dl) => by rw [z, hb] at h; cases h]; exact E.ex b u h
  · rw [hm1]; exact E.im j e q
  · rw [hm2]; exact E.rd j e q
  · obtain ⟨g1, g2, x, g3, g4⟩ := E.ws j u q
    rw [hm1]
    exact ⟨g1, g2, x, g3, Ow.mono (Ex.refl _) _ _ _ (fun b hb => upd_ne fun z => nM (M.le _ (by rw [← z]; exact g1 b hb))) g4⟩
  · obtain ⟨x, as, h1, h2, h3, h4⟩ := E.tq j u q
    rw [hm1]
    exact ⟨x, as, h1, h2, h3, Ow.mono (Ex.refl _) _ _ _ (fun b hb => upd_ne fun (z : b = Dl) => (h2 b hb).2 (.inr (by rw [z]; exact hD))) h4⟩
theorem hid_hideL {L : List Addr} (nM : ∀ a ∈ L, ¬ M.m a) (nX : ∀ a ∈ L, ¬ X a) : hid (fun b => (M.hideL L).m b ∨ X b) H = hid (fun b => M.m b ∨ X b) (hid (fun b => b ∈ L) H) := by
  funext a
  by_cases h1 : a ∈ L
  · rw [hid_in (.inl (.inr h1)), hid_out (m := fun b => M.m b ∨ X b) (fun z => z.elim (nM a h1) (nX a h1)), hid_in (m := fun b => b ∈ L) h1]
  · by_cases h2 : M.m a ∨ X a
    · rw [hid_in (m := fun b => M.m b ∨ X b) h2, hid_in (m := fun b => (M.hideL L).m b ∨ X b) (h2.imp .inl id)]
    · rw [hid_out (m := fun b => M.m b ∨ X b) h2, hid_out (m := fun b => b ∈ L) h1, hid_out (m := fun b => (M.hideL L).m b ∨ X b) fun z => by
        rcases z with (z | z) | z
        · exact h2 (.inl z)
        · exact h1 z
        · exact h2 (.inr z)]
theorem hid_hideL1 {L : List Addr} (nM : ∀ a ∈ L, ¬ M.m a) : hid (M.hideL L).m H = hid M.m (hid (fun b => b ∈ L) H) := by
  funext a
  by_cases h1 : a ∈ L
  · rw [hid_in (m := (M.hideL L).m) (.inr h1), hid_out (m := M.m) (nM a h1), hid_in (m := fun b => b ∈ L) h1]
  · by_cases h2 : M.m a
    · rw [hid_in (m := M.m) h2, hid_in (m := (M.hideL L).m) (.inl h2)]
    · rw [hid_out (m := M.m) h2, hid_out (m := fun b => b ∈ L) h1, hid_out (m := (M.hideL L).m) fun z => z.elim h2 h1]
theorem ER.unhideL {τ : L2.St} {L : List Addr} (E : ER K X a0 H0 (M.hideL L) ad τ H env) (hb : ∀ a ∈ L, H0 a = none) (nM : ∀ a ∈ L, ¬ M.m a) (nX : ∀ a ∈ L, ¬ X a) : ER K X a0 H0 M ad τ (hid (fun b => b ∈ L) H) env := by
  have nD : ∀ b, M.m b → b ∉ L := fun b h z => nM b z h
  refine ⟨E.len, fun b u h => ?_, fun b h => ?_, fun b h => ?_, fun b h => E.mout b (.inl h), fun j e q => ?_, fun j e q => ?_, fun j u q => ?_, E.xt, fun j u q => ?_, E.dj, E.t0⟩
  · rw [hid_out (m := fun b => b ∈ L) fun z => by rw [hb b z] at h; cases h]; exact E.ex b u h
  · rw [hid_out (m := fun b => b ∈ L) fun z => nX b z h]; exact E.xin b h
  · rw [hid_out (m := fun b => b ∈ L) (nD b h)]; exact E.min b (.inl h)
  · rw [← hid_hideL nM nX]; exact E.im j e q
  · rw [← hid_hideL1 nM]; exact E.rd j e q
  · obtain ⟨g1, g2, x, g3, g4⟩ := E.ws j u q
    rw [← hid_hideL nM nX]
    exact ⟨g1, g2, x, g3, Ow.mono (Ex.refl _) _ _ _ (fun b hb => hid_out (m := fun b => b ∈ L) (nD _ (M.le _ (g1 b hb)))) g4⟩
  · obtain ⟨x, as, h1, h2, h3, h4⟩ := E.tq j u q
    rw [← hid_hideL nM nX]
    exact ⟨x, as, h1, fun b hb => ⟨(h2 b hb).1, fun z => (h2 b hb).2 (.inl z)⟩, h3, Ow.mono (Ex.refl _) _ _ _ (fun b hb => hid_out (m := fun b => b ∈ L) fun z => nX b z (h2 b hb).1) h4⟩
theorem OwL.app {B : Hp} : ∀ {us ws : List Tr} {xs ys : List V} {as bs : List Addr}, OwL K B H us xs as → OwL K B H ws ys bs → OwL K B H (us ++ ws) (xs ++ ys) (as ++ bs)
  | [], _, _, _, _, _, h, w => by
    obtain ⟨rfl, rfl⟩ := h
    exact w
  | u :: us, _, _, _, _, _, ⟨x, s, a1, a2, h1, h2, h3, h4⟩, w => by
    subst h1 h2
    exact ⟨x, _, a1, _, rfl, by simp, h3, OwL.app h4 w⟩
theorem OwL.one {B : Hp} {v : V} {as : List Addr} (h : Ow K B H t v as) : OwL K B H [t] [v] as := ⟨v, [], as, [], rfl, by simp, h, rfl, rfl⟩
/-- one turn that makes a new tree -/
structure TurnT (K : PySem.W.Frag) (l : Lv) (p : Bool) (g : TG) (te : TE) (vs : List Nat) (d : D) (env : List Bd) (t : Tr) (env' : List Bd) : Prop where
  an : ∀ v ∈ vs, env'[v]? = some .an ∨ env'[v]? = none
  go : ∃ envt env2, TgD K l g d env envt ∧ EvFT K p te envt env2 t ∧ (vs.all fun v => !isMu env2[v]?) = true ∧ env' = wipeE env2 vs
def CLoopT (B : D → List Bd → Tr → List Bd → Prop) : List D → List Bd → List Tr → List Bd → Prop
  | [], env, out, env' => out = [] ∧ env' = env
  | d :: ds, env, out, env' => ∃ r env1 out', B d env r env1 ∧ out = r :: out' ∧ CLoopT B ds env1 out' env'
theorem CLoopT.len {B : D → List Bd → Tr → List Bd → Prop} : ∀ {ds : List D} {env env' : List Bd} {out : List Tr}, CLoopT B ds env out env' → out.length = ds.length
  | [], _, _, _, h => by rw [h.1]; rfl
  | d :: ds, _, _, _, ⟨r, env1, out', _, h2, h3⟩ => by rw [h2, List.length_cons, List.length_cons, h3.len]
theorem ef_lcT (hl : l.lp = true) {wi : TI} {g : TG} {vs : List Nat} {ds : List D} {out : List Tr} (hi : EvI K l p wi env env' ds) (hw : TgW g vs) (han : ∀ v ∈ vs, env'[v]? = some .an) (hn : ds.length ≤ 100000)
    (h : CLoopT (TurnT K l p g te vs) ds env' out env'') : EvFT K p (tLc wi g tYes te vs) env env'' (.n .l out) := fun X a0 H0 M ad σ H Q E k =>
  hi X a0 H0 M ad σ H _ E fun J H1 E1 e1 p1 it => fun Dl hD => by
    have g0 : Ex H1 (upd H1 Dl (.lst [])) := Ex.new hD
    have σan : ∀ (j : Nat) b, env'[j]? = some b → b = .an ∨ (wipe σ vs)[j]? = σ[j]? := fun j b hb => by
      by_cases m : j ∈ vs
      · rw [han j m] at hb; exact .inl (Option.some.inj hb).symm
      · rw [wipe_get, if_neg fun z => m z.1]; exact .inr rfl
    have E1w : ER K X a0 (hid M.m H1) M ad (wipe σ vs) H1 env' := (E1.rebase).anyAt (wipe_length _ _) σan
    have ES : ER K X a0 (hid M.m H1) (M.hideL [Dl]) ad (wipe σ vs) (upd H1 Dl (.lst [])) env' := by
      have E0 : ER K X a0 (hid M.m H1) (M.hideL []) ad (wipe σ vs) H1 env' := E1w.mskE rfl (by funext b; exact propext ⟨.inl, fun z => z.elim id fun z => by cases z⟩)
      exact E0.hideMore (as := [Dl]) (fun b hb => by rw [List.mem_singleton.mp hb]; exact hD) g0 fun b hb => by rw [List.mem_singleton.mp hb, upd_same]; exact ⟨by simp, by simp⟩
    have hno : ∀ a, H1 a = none → (hid M.m H1) a = none := fun a ha => by
      cases q : (hid M.m H1) a with
      | none => rfl
      | some o => rw [(of_hid q).2] at ha; cases ha
    have keep : ∀ {H2 H3 : Hp} {b : Addr} {o : HO}, Ex (hid M.n H2) (hid M.n H3) → ¬ M.n b → H2 b = some o → H3 b = some o := fun {H2 H3 b o} e hb h => (of_hid (e b _ (by rw [hid_out hb]; exact h))).2
    refine ⟨fun i m H' => m = ds.length - i ∧ i ≤ ds.length ∧ ∃ envi acc xs as rest, ER K X a0 (hid M.m H1) (M.hideL (Dl :: as)) ad (wipe σ vs) H' envi ∧ (p = true → Ex H1 H') ∧ (∀ b o, ¬ M.n b → H1 b = some o → H' b = some o) ∧ H' Dl = some (.lst xs) ∧ (Dl :: as).Nodup ∧ (∀ a ∈ Dl :: as, H1 a = none) ∧
      OwL K (hid (fun b => (M.hideL (Dl :: as)).m b ∨ X b) H') H' acc xs as ∧ CLoopT (TurnT K l p g te vs) (ds.drop i) envi rest env'' ∧ out = acc ++ rest ∧ (∀ v ∈ vs, envi[v]? = some .an ∨ envi[v]? = none),
      ⟨ds.length, by simp, Nat.zero_le _, env', [], [], [], out, ES, fun _ => g0, fun b o _ hb => g0 b o hb, upd_same, List.pairwise_singleton .., fun a ha => by rw [List.mem_singleton.mp ha]; exact hD, ⟨rfl, rfl⟩, h, rfl, fun v hv => .inl (han v hv)⟩, ?_⟩
    rintro i m H' ⟨rfl, hle, envi, acc, xs, as, rest, E', pe, un', hDl, ndL, frL, hacc, L, hout, hani⟩
    have nML : ∀ a ∈ Dl :: as, ¬ M.m a := fun a ha z => (E1.min a z).1 (frL a ha)
    have nXL : ∀ a ∈ Dl :: as, ¬ X a := fun a ha z => (E1.xin a z).1 (frL a ha)
    obtain ⟨it1, it2⟩ := it i H' E'.ex
    by_cases hlt : i < ds.length
    · refine .inr ?_
      have hd : ds[i]? = some ds[i] := List.getElem?_eq_getElem hlt
      rw [List.drop_eq_getElem_cons hlt] at L
      obtain ⟨go, yl⟩ := it1 _ hd
      obtain ⟨r, env1, out', hB, hr, L⟩ := L
      obtain ⟨han1, envt, env2, hT, hE, hmu, henv⟩ := hB
      refine ⟨go, fun H2 => ∃ envi acc xs as rest, ER K X a0 (hid M.m H1) (M.hideL (Dl :: as)) ad (wipe σ vs) H2 envi ∧ (p = true → Ex H1 H2) ∧ (∀ b o, ¬ M.n b → H1 b = some o → H2 b = some o) ∧ H2 Dl = some (.lst xs) ∧ (Dl :: as).Nodup ∧ (∀ a ∈ Dl :: as, H1 a = none) ∧
        OwL K (hid (fun b => (M.hideL (Dl :: as)).m b ∨ X b) H2) H2 acc xs as ∧ CLoopT (TurnT K l p g te vs) (ds.drop (i + 1)) envi rest env'' ∧ out = acc ++ rest ∧ (∀ v ∈ vs, envi[v]? = some .an ∨ envi[v]? = none), fun H2 n => ⟨ds.length - (i + 1), by omega, rfl, hlt, n⟩, fun x H2 y => ?_⟩
      obtain ⟨gx, E2, r2⟩ := turn_in hl E' (yl x H2 y)
      have hlen : acc.length ≤ 100000 := by
        have a2 : out.length = ds.length := h.len
        rw [hout] at a2
        simp at a2
        omega
      refine hw.mono _ _ _ _ _ (fun σ3 H3 z => ⟨z.1.trans wipe_wipe, z.2 (z.1.trans wipe_wipe)⟩) (hw.w x (L2.wipe σ vs) H2 (fun σ3 H3 => L2.wipe σ3 vs = L2.wipe σ vs → _) ?_)
      refine hT X a0 _ _ ad _ H2 x _ E2 r2 fun σ3 E3 hσ => ?_
      show te σ3 H2 _
      refine hE X a0 _ _ ad σ3 H2 _ E3 fun v bs H3 H4 fb hb3 E5 g5 e5 p5 ndb w => ?_
      have e5' : Ex (hid M.n H2) (hid M.n H3) := e5
      have kb : ∀ b o, ¬ M.n b → H' b = some o → H4 b = some o := fun b o nb hb => g5 b o (keep e5' nb (gx b o hb))
      have hDl4 : H4 Dl = some (.lst xs) := kb _ _ (fun z => nML Dl (List.mem_cons_self ..) (M.le _ z)) hDl
      have E6 := (E5.wipe hmu).1
      rw [hσ, ← henv] at E6
      have E7 := E6.hideMore (as := bs) fb g5 fun b hb => Ow.nt _ _ _ w b hb
      have E8 : ER K X a0 (hid M.m H1) (M.hideL (Dl :: (as ++ bs))) ad (wipe σ vs) H4 env1 := E7
      have DlM : Dl ∈ Dl :: (as ++ bs) := List.mem_cons_self ..
      have hlx : xs.length < sizeLine := by
        rw [hacc.len]
        exact Nat.lt_of_le_of_lt hlen (by decide)
      have old : ∀ b, b ∈ Dl :: as → H4 b = H' b := fun b hb => by
        have nt : Nt (H' b) := E'.min b (.inr hb)
        cases q : H' b with
        | none => exact absurd q nt.1
        | some o => exact kb b o (fun z => nML b hb (M.le b z)) q
      have fb1 : ∀ b ∈ bs, H1 b = none := fun b hb => by
        cases q : H1 b with
        | none => rfl
        | some o =>
          by_cases mn : M.n b
          · have := E6.min b (.inl (M.le b mn)); exact absurd (fb b hb) this.1
          · have h2 := gx b o (un' b o mn q)
            have := keep e5' mn h2
            rw [fb b hb] at this; cases this
      have sep : ∀ b ∈ bs, b ∉ Dl :: as := fun b hb z => by
        have := E6.min b (.inr z)
        exact this.1 (fb b hb)
      have hm1 : ∀ o, hid (fun b => (M.hideL (Dl :: (as ++ bs))).m b ∨ X b) (upd H4 Dl o) = hid (fun b => (M.hideL (Dl :: (as ++ bs))).m b ∨ X b) H4 := fun o => hid_upd (.inl (.inr DlM))
      have up3 : Ex (hid (fun b => (M.hideL (Dl :: as)).m b ∨ X b) H') (hid (fun b => (M.hideL (Dl :: (as ++ bs))).m b ∨ X b) H4) := hid_two fun b o h1 h2 => by
        have h4 := kb b o (fun z => h1 (.inl (.inl (M.le b z)))) h2
        refine ⟨fun z => ?_, h4⟩
        rcases z with (z | z) | z
        · exact h1 (.inl (.inl z))
        · rcases List.mem_cons.mp z with z | z
          · exact h1 (.inl (.inr (by rw [z]; exact List.mem_cons_self ..)))
          · rcases List.mem_append.mp z with z | z
            · exact h1 (.inl (.inr (List.mem_cons_of_mem _ z)))
            · have := keep e5' (fun y => h1 (.inl (.inl (M.le b y)))) (gx b o h2)
              rw [fb b z] at this; cases this
        · exact h1 (.inr z)
      have up5 : Ex (hid (fun b => (M.hideL (Dl :: as)).m b ∨ X b) H3) (hid (fun b => (M.hideL (Dl :: (as ++ bs))).m b ∨ X b) H4) := hid_two fun b o h1 h2 => by
        refine ⟨fun z => ?_, g5 b o h2⟩
        rcases z with (z | z) | z
        · exact h1 (.inl (.inl z))
        · rcases List.mem_cons.mp z with z | z
          · exact h1 (.inl (.inr (by rw [z]; exact List.mem_cons_self ..)))
          · rcases List.mem_append.mp z with z | z
            · exact h1 (.inl (.inr (List.mem_cons_of_mem _ z)))
            · rw [fb b z] at h2; cases h2
        · exact h1 (.inr z)
      have nDl : ∀ b, b ∈ as ++ bs → b ≠ Dl := fun b hb z => by
        subst z
        rcases List.mem_append.mp hb with y | y
        · exact (List.nodup_cons.mp ndL).1 y
        · exact sep b y (List.mem_cons_self ..)
      refine ⟨xs, hDl4, hlx, env1, acc ++ [r], xs ++ [v], as ++ bs, out', E8.updHidL DlM (hno Dl hD) (nML Dl (List.mem_cons_self ..)) (fun _ z => nomatch z), fun z b o hb => ?_, fun b o hnb hb => ?_, upd_same, ?_, fun a ha => ?_, ?_, L, ?_, han1⟩
      · rw [upd_ne fun (y : b = Dl) => by rw [y, hD] at hb; cases hb]
        exact g5 b o (p5 z b o (gx b o (pe z b o hb)))
      · rw [upd_ne fun (y : b = Dl) => by rw [y, hD] at hb; cases hb]
        exact kb b o hnb (un' b o hnb hb)
      · rw [List.nodup_cons] at ndL ⊢
        refine ⟨fun z => ?_, ?_⟩
        · exact nDl Dl z rfl
        · rw [List.nodup_append]
          exact ⟨ndL.2, ndb, fun x hx y hy z => sep y hy (by rw [← z]; exact List.mem_cons_of_mem _ hx)⟩
      · rcases List.mem_cons.mp ha with z | z
        · rw [z]; exact hD
        · rcases List.mem_append.mp z with z | z
          · exact frL a (List.mem_cons_of_mem _ z)
          · exact fb1 a z
      · rw [hm1]
        refine OwL.app (OwL.mono up3 _ _ _ (fun b hb => ?_) hacc) (OwL.one (Ow.mono up5 _ _ _ (fun b hb => ?_) w))
        · rw [upd_ne (nDl b (List.mem_append_left _ hb))]; exact old b (List.mem_cons_of_mem _ hb)
        · rw [upd_ne (nDl b (List.mem_append_right _ hb))]
      · rw [hout, hr]; simp
    · have e : i = ds.length := by omega
      subst e
      rw [List.drop_length] at L
      obtain ⟨hL1, hL2⟩ := L
      subst hL1 hL2
      refine .inl ⟨it2 (Nat.le_refl _), ?_⟩
      have hacc' : acc = out := by rw [hout]; simp
      subst hacc'
      have back : ER K X a0 (hid M.m H1) M ad (wipe σ vs) (hid (fun b => b ∈ Dl :: as) H') env'' := E'.unhideL (fun a ha => hno a (frL a ha)) nML nXL
      have EF : ER K X a0 (hid M.m H1) M ad σ (hid (fun b => b ∈ Dl :: as) H') env'' := by
        refine back.anyAt (wipe_length _ _).symm fun j b hb => ?_
        by_cases m : j ∈ vs
        · rcases hani j m with z | z
          · rw [z] at hb; exact .inl (Option.some.inj hb).symm
          · rw [z] at hb; cases hb
        · rw [wipe_get, if_neg fun z => m z.1]; exact .inr rfl
      have nL : ∀ b o, H1 b = some o → b ∉ Dl :: as := fun b o hb z => by rw [frL b z] at hb; cases hb
      have un : Ex (hid M.n H1) (hid M.n (hid (fun b => b ∈ Dl :: as) H')) := fun b o hb => by
        obtain ⟨h1, h2⟩ := of_hid hb
        rw [hid_out h1, hid_out (m := fun b => b ∈ Dl :: as) (nL b o h2)]
        exact un' b o h1 h2
      refine k (.ref Dl) (Dl :: as) (hid (fun b => b ∈ Dl :: as) H') H' (fun a ha => hid_in (m := fun b => b ∈ Dl :: as) ha) (fun b o hb => ?_) (E1.back EF) hid_all (e1.trans un) (fun z b o hb => ?_) ndL ⟨Dl, xs, as, rfl, rfl, hDl, ?_⟩
      · exact stays E (E1.back EF) (e1.trans un) b o hb
      · have := p1 z b o hb
        rw [hid_out (m := fun b => b ∈ Dl :: as) (nL b o this)]; exact pe z b o this
      · rw [← hid_hideL nML nXL]; exact hacc
end
end Pw
/-! QTc: typed forms of QTa, QTb -/
namespace Pw
open PySem L2

section
variable {K : PySem.W.Frag} {We : WX} {X : Addr → Prop} {a0 : Addr} {H0 : Hp} {M M' : Msk} {ad ad' : Nat → List Addr} {σ σ' : St} {H H' H1 : Hp} {env env' env'' : List Bd} {l l' : Lv} {p q : Bool} {d d' e : D} {ta tb te ti tv tj : TE} {i j r : Nat} {b c : Bool} {ts tu : TS} {o : Out} {Dn : Ends} {tsA : TA} {t t' : Tr} {us : List Tr} {tt : TT}
theorem pf_tr {ts : TA} {gs : TGs} {envA envB : List Bd} (h : EvFT K true te env env t) (hr : PF K ts gs env (envA.set i (.tr t)) envB) : PF K (tCons te ts) (gCons (gName i) gs) env envA envB :=
  fun X a0 H0 M ad0 ad σ τ H Q E E' k => h X a0 H0 M ad0 σ H _ E fun v as H1 H2 ha _ E1 g e1 p1 nd w => hr X a0 H0 (M.plusL as) ad0 _ σ _ H2 _ (E1.maskL ha g fun b hb => Ow.nt _ _ _ w b hb) ((E'.grow (p1 rfl)).setTr ha nd g w) fun vs M' ad' τ' H' E2 g' f =>
    k (v :: vs) M' ad' τ' H' E2 (((p1 rfl).trans g).trans g') fun H'' R r => ⟨v, vs, rfl, f H'' R r⟩
theorem ef_if (h : EvB K p tt env env' b) (h1 : b = true → EvF K p ta env' env'' d) (h2 : b = false → EvF K p tb env' env'' d) : EvF K p (tIf tt ta tb) env env'' d := fun X a0 H0 M ad σ H Q E k =>
  h X a0 H0 M ad σ H _ E fun H1 E1 e1 p1 => by
    have go : ∀ {te : TE}, EvF K p te env' env'' d → te σ H1 Q := fun {te} h => h X a0 H0 M ad σ H1 Q E1 fun a H2 H' ha hb E2 g e2 p2 r => k a H2 H' ha (fun b o hb' => by
      have := stays E E1 e1 b o hb'
      cases q : H1 b with
      | none => exact absurd q this
      | some u => exact hb b u q) E2 g (e1.trans e2) (fun z => (p1 z).trans (p2 z)) r
    cases b with
    | true => exact go (h1 rfl)
    | false => exact go (h2 rfl)
theorem ft_if (h : EvB K p tt env env' b) (h1 : b = true → EvFT K p ta env' env'' t) (h2 : b = false → EvFT K p tb env' env'' t) : EvFT K p (tIf tt ta tb) env env'' t := fun X a0 H0 M ad σ H Q E k =>
  h X a0 H0 M ad σ H _ E fun H1 E1 e1 p1 => by
    have go : ∀ {te : TE}, EvFT K p te env' env'' t → te σ H1 Q := fun {te} h => h X a0 H0 M ad σ H1 Q E1 fun v as H2 H' ha hb E2 g e2 p2 nd w => k v as H2 H' ha (fun b o hb' => by
      have := stays E E1 e1 b o hb'
      cases q : H1 b with
      | none => exact absurd q this
      | some u => exact hb b u q) E2 g (e1.trans e2) (fun z => (p1 z).trans (p2 z)) nd w
    cases b with
    | true => exact go (h1 rfl)
    | false => exact go (h2 rfl)
/-- a list of own lists, their contents' data by f -/
abbrev LL {β : Type} (f : β → D) (rows : List (List β)) : Tr := .n .l (rows.map fun z => Tr.of (.lst (z.map f)))
theorem ew_ixT {β : Type} {f : β → D} {rows : List (List β)} {row : List β} {bd : Bd} {n : Int} (h : env[i]? = some bd) (ho : own (some bd) = some (LL f rows)) (hi : EvD K .l2 true ti env env (.int n)) (hn : ixN rows.length n = some r) (hr : rows[r]? = some row) :
    EvW K (tOp (rIxL K) (tVar i) ti) env (.lst (row.map f)) fun d' => env.set i (re bd (.n .l ((rows.map fun z => Tr.of (.lst (z.map f))).set r (Tr.of d')))) :=
  ew_ix h ho hi (by rw [List.length_map]; exact hn) (by rw [List.getElem?_map, hr]; rfl)
theorem ll_set {β : Type} {f : β → D} {rows : List (List β)} {row : List β} : (Tr.n .l ((rows.map fun z => Tr.of (.lst (z.map f))).set r (Tr.of (.lst (row.map f)))) : Tr) = LL f (rows.set r row) := by
  show Tr.n .l _ = Tr.n .l _
  rw [List.map_set]
/-- xs[m][n] = v -/
theorem sd_setLL {β : Type} {f : β → D} {rows : List (List β)} {row : List β} {v : β} {bd : Bd} {m n : Int} (he : EvD K .l2 p tv env env' (f v)) (h : env'[i]? = some bd) (ho : own (some bd) = some (LL f rows)) (hi : EvD K .l2 true ti env' env' (.int m)) (hn : ixN rows.length m = some r)
    (hr : rows[r]? = some row) (hk : EvD K .l2 true tj env' env' (.int n)) (hj : ixN row.length n = some j) :
    SD K We (tAsg tv (gSub (tOp (rIxL K) (tVar i) ti) tj rSetL)) env (.nx (env'.set i (re bd (LL f (rows.set r (row.set j v)))))) := by
  have := sd_setW (We := We) he (ew_ixT h ho hi hn hr) hk (by rw [List.length_map]; exact hj)
  rw [← List.map_set, ll_set] at this
  exact this
/-- xs[m].append(v) -/
theorem sd_appLL {β : Type} {f : β → D} {rows : List (List β)} {row : List β} {v : β} {bd : Bd} {m : Int} {un : Unit} (h : env[i]? = some bd) (ho : own (some bd) = some (LL f rows)) (hi : EvD K .l2 true ti env env (.int m)) (hn : ixN rows.length m = some r)
    (hr : rows[r]? = some row) (hl : okL row.length = some un) (he : EvD K .l2 true ta env env (f v)) :
    SD K We (tDrop (tBM K "list" rAppend (tOp (rIxL K) (tVar i) ti) (tCons ta tNil))) env (.nx (env.set i (re bd (LL f (rows.set r (row ++ [v])))))) := by
  have := sd_appendW (We := We) (ew_ixT h ho hi hn hr) he (by rw [List.length_map]; exact okL_of hl)
  rw [show row.map f ++ [f v] = (row ++ [v]).map f by simp, ll_set] at this
  exact this
theorem cloopLT {α β : Type} {B : D → List Bd → Tr → List Bd → Prop} {f : α → Option (Option β)} {en : α → D} {eb : β → Tr} (h : ∀ x r, f x = some r → ∃ b, r = some b ∧ B (en x) env (eb b) env) : ∀ {xs : List α} {ys : List β}, compL f xs = some ys → CLoopT B (xs.map en) env (ys.map eb) env
  | [], ys, e => by
    have e : some [] = some ys := e
    cases e
    exact ⟨rfl, rfl⟩
  | x :: xs, ys, e => by
    unfold compL at e
    obtain ⟨r, hr, e⟩ := Option.bind_eq_some_iff.mp e
    obtain ⟨zs, hz, e⟩ := Option.bind_eq_some_iff.mp e
    obtain ⟨b, rfl, hb⟩ := h x r hr
    have e := Option.some.inj e
    subst e
    exact ⟨eb b, env, zs.map eb, hb, rfl, cloopLT h hz⟩
theorem ef_lcOT {α β : Type} {f : α → Option (Option β)} {xs : List α} {ys : List β} {en : α → D} {eb : β → Tr} {vs : List Nat} {wi : TI} {g : TG} (hs : compO f xs = some ys) (hl : l.lp = true) (hi : EvI K l p wi env env' (xs.map en)) (hw : TgW g vs) (han : ∀ v ∈ vs, env'[v]? = some .an)
    (h : ∀ x r, f x = some r → ∃ b, r = some b ∧ TurnT K l p g te vs (en x) env' (eb b) env') : EvFT K p (tLc wi g tYes te vs) env env' (.n .l (ys.map eb)) := by
  obtain ⟨h1, h2⟩ := compO_of hs
  exact ef_lcT hl hi hw han (by rw [List.length_map]; exact h1) (cloopLT h h2)
theorem turnT {vs : List Nat} {g : TG} {envt env2 : List Bd} (hg : TgD K l g d env envt) (he : EvFT K p te envt env2 t) (hm1 : (vs.all fun v => !isMu env2[v]?) = true) (e : env' = wipeE env2 vs) (an : ∀ v ∈ vs, env'[v]? = some .an) : TurnT K l p g te vs d env t env' :=
  ⟨fun v hv => .inl (an v hv), envt, env2, hg, he, hm1, e⟩
end
end Pw
/-! QTd: max, min of tuples; tuples joined whose parts change something -/
namespace Pw
open PySem L2
section
variable {X : Cx}
def rMaxDT (K : PySem.W.Frag) : List V → Hp → VK → Prop := fun vs H Q => ∃ (a : Addr) (xs : List V) (x : PyData) (ds : List PyData), vs = [V.ref a] ∧ SqT K H a xs ∧ DpAll K H xs (x :: ds) ∧ PySem.W.AlikeAll (x :: ds) ∧ PyData.depthAll (x :: ds) ≤ 60 ∧
  (∀ d ∈ x :: ds, d.canLay0 = true) ∧ ∀ (i : Nat) v, xs[i]? = some v → (x :: ds)[i]? = some (PySem.W.maxD x ds) → Q v H
theorem cr_maxDtT (hc : X.calm = true) (hu : X.A.units + 64 < cLine) : CallR X (.builtin "max") (rMaxDT X.K) := by
  intro pins s σ H vs us Q I r h
  obtain ⟨a, xs, x, ds, rfl, hs, hd, hal, hdp, hcl, q⟩ := h
  obtain ⟨its, rv, hl, _⟩ := I.tuple hs
  rw [Vals.ref1 r]
  obtain ⟨as, hr⟩ := Dp.readsAll I _ _ _ hd rv
  refine PySem.W.max_tuple_data (I.ok.hd hc) hl (by simpa using hr) hal (u62 hu hdp) fun i v h' tk bs hv rd hk => ?_
  have hv' : its[i]? = some v := by simpa using hv
  have hi : i < xs.length := by
    rw [rv.length]
    exact (List.getElem?_eq_some_iff.mp hv').1
  have hx : xs[i]? = some xs[i] := List.getElem?_eq_getElem hi
  obtain ⟨u, hu1, ru⟩ := rv.get hx
  rw [hv'] at hu1
  cases hu1
  obtain ⟨d, hd1, hd2⟩ := dpall_get hd hx
  obtain ⟨cs, hcs⟩ := Dp.reads I d _ _ hd2 ru
  have e := PySem.SeqAt.Reads.unique d _ v cs bs (hcl d (List.mem_of_getElem? hd1)) (PyProof.Rows.Reads.keeps hk hcs) rd
  subst e
  exact ⟨xs[i], H, I.kept hk, ru, q i _ hx hd1⟩
end
section
variable {K : PySem.W.Frag} {We : WX} {X : Addr → Prop} {a0 : Addr} {H0 : Hp} {M M' : Msk} {ad ad' : Nat → List Addr} {σ σ' : St} {H H' H1 : Hp} {env env' env'' : List Bd} {l l' : Lv} {p q : Bool} {d d' e : D} {ta tb te ti tv tj : TE} {i j r : Nat} {b c : Bool} {ts tu : TS} {o : Out} {Dn : Ends} {tsA : TA} {t t' : Tr} {us : List Tr} {tt : TT}
theorem maxDTK {Xc : Cx} (h : Xc.K = K) (hc : Xc.calm = true) (hu : Xc.A.units + 64 < cLine) : CallR Xc (.builtin "max") (rMaxDT K) := h ▸ cr_maxDtT hc hu
theorem rc_maxWT {α : Type} {n : Nat} {f : α → D} {pd : α → PyData} {xs : List α} {m : α} (o : OrdD n f pd) (hn : n ≤ 59) (h : maxW pd xs = some m) : RC K l l (rMaxDT K) [.tup (xs.map f)] (f m) := fun X a0 H0 M ad σ H env vs Q E rx k => by
  cases xs with
  | nil => cases h
  | cons x0 r =>
    have h : some (r.foldl (fun a y => if PySem.W.dataLt (pd a) (pd y) = true then y else a) x0) = some m := h
    cases h
    obtain ⟨x, rfl, a, ys, rfl, h1, h2⟩ := rx.one'
    refine ⟨a, ys, pd x0, r.map pd, rfl, ex_s hid_all h1, DpAM hid_all (dp_map o h2), alk_map o (x0 :: r), Nat.le_trans (dep_map o (x0 :: r)) (by omega), fun d hd => ?_, fun i v hv he => ?_⟩
    · obtain ⟨z, _, rfl⟩ := List.mem_map.mp (show d ∈ (x0 :: r).map pd from hd)
      exact o.lay z
    · obtain ⟨d, hd1, hd2⟩ := h2.get' hv
      rw [List.getElem?_map] at hd1
      obtain ⟨z, hz, rfl⟩ := Option.map_eq_some_iff.mp hd1
      have he' : ((x0 :: r).map pd)[i]? = some (pd (r.foldl (fun a y => if PySem.W.dataLt (pd a) (pd y) = true then y else a) x0)) := by rw [← maxD_map (pd := pd) r x0]; exact he
      rw [List.getElem?_map, hz] at he'
      have := o.inj _ _ (Option.some.inj he')
      exact k v H E (Ex.refl _) (by rw [← this]; exact hd2)
theorem dataLt_int (a b : Int) : PySem.W.dataLt (.int a) (.int b) = decide (a < b) := by
  have h1 : PySem.W.keyToks (.int a) = [Sum.inl a] := rfl
  have h2 : PySem.W.keyToks (.int b) = [Sum.inl b] := rfl
  show PyProof.Rows.lexLt PyProof.Rows.itemOrd (PySem.W.keyToks (.int a)) (PySem.W.keyToks (.int b)) = _
  rw [h1, h2, toks_one]
  by_cases h : a = b
  · subst h
    rw [if_pos rfl]
    simp [PyProof.Rows.lexLt]
  · rw [if_neg h]
theorem maxW_int (ns : List Int) : maxW PyData.int ns = maxI ns := by
  cases ns with
  | nil => rfl
  | cons x r =>
    show some (r.foldl (fun a y => if PySem.W.dataLt (.int a) (.int y) = true then y else a) x) = some (r.foldl (fun a b => if a < b then b else a) x)
    congr 1
    congr 1
    funext a y
    rw [dataLt_int]
    by_cases h : a < y <;> simp [h]
theorem rc_maxIT {ns : List Int} {m : Int} (h : maxI ns = some m) : RC K l l (rMaxDT K) [.tup (ns.map D.int)] (.int m) := rc_maxWT (f := D.int) ord_int (by decide) ((maxW_int ns).trans h)
theorem tg_nameO {x : Option Int} (hm : isMu env[i]? = false) : TgD K l (gName i) (encO D.int x) env (env.set i (.im (encO D.int x))) := by
  cases x with
  | none => exact tg_nameS hm rfl
  | some y => exact tg_nameS hm rfl
def tgOk : Option (PySem.Str × List Int) → Bool
  | none => true
  | some z => (PyData.str z.1).canLay0
theorem eqv_tg : Eqv 4 (fun x : { x : Option (PySem.Str × List Int) // tgOk x = true } => encTg x.1) := ⟨fun o => match o.1 with | none => .none | some z => .tuple (.str z.1 :: z.2.map .int), fun x K H v h => by
    obtain ⟨x, hx⟩ := x
    cases x with
    | none => have h : v = V.non := h; subst h; exact .non
    | some z =>
      obtain ⟨a, xs, rfl, h1, x, r, rfl, h2, h3⟩ := h
      have h2 : x = V.str z.1 := h2
      subst h2
      exact .tup (SqT.of h1) (.cons (.str _) (dp_ints h3)),
  fun x => by
    obtain ⟨x, hx⟩ := x
    cases x with
    | none => exact ⟨rfl, by simp [PyData.depth]⟩
    | some z =>
      refine ⟨?_, ?_⟩
      · show PyData.canLayAll0 (.str z.1 :: z.2.map .int) = true
        unfold PyData.canLayAll0
        rw [lay_ints, show (PyData.str z.1).canLay0 = true from hx]
        rfl
      · have := depth_ints z.2
        simp only [PyData.depth, PyData.depthAll]
        omega,
  fun x y => by
    obtain ⟨x, hx⟩ := x
    obtain ⟨y, hy⟩ := y
    cases x with
    | none => cases y <;> simp [PyData.eqv]
    | some z =>
      cases y with
      | none => simp [PyData.eqv]
      | some w =>
        obtain ⟨z1, z2⟩ := z
        obtain ⟨w1, w2⟩ := w
        simp only [PyData.eqv, PyData.eqvAll, eqv_ints]
        by_cases h1 : z1 = w1
        · by_cases h2 : z2 = w2
          · subst h1 h2; simp
          · simp [h1, h2]
        · simp [h1]⟩
theorem rv_eqTg {x y : Option (PySem.Str × List Int)} (h : (tgOk x && tgOk y) = true) : RV K l l' (rEqD K) (encTg x) (encTg y) (.bl (decide (x = y))) := by
  have h' := Bool.and_eq_true_iff.mp h
  have := rv_eqV (K := K) (l := l) (l' := l') (x := (⟨x, h'.1⟩ : { x : Option (PySem.Str × List Int) // tgOk x = true })) (y := ⟨y, h'.2⟩) eqv_tg (by decide)
  rw [show (decide ((⟨x, h'.1⟩ : { x : Option (PySem.Str × List Int) // tgOk x = true }) = ⟨y, h'.2⟩)) = decide (x = y) from decide_eq_decide.mpr ⟨fun z => congrArg Subtype.val z, fun z => Subtype.ext z⟩] at this
  exact this
theorem rv_neTg {x y : Option (PySem.Str × List Int)} (h : (tgOk x && tgOk y) = true) : RV K l l' (rNeD K) (encTg x) (encTg y) (.bl (!decide (x = y))) := by
  have h' := Bool.and_eq_true_iff.mp h
  have := rv_neV (K := K) (l := l) (l' := l') (x := (⟨x, h'.1⟩ : { x : Option (PySem.Str × List Int) // tgOk x = true })) (y := ⟨y, h'.2⟩) eqv_tg (by decide)
  rw [show (decide ((⟨x, h'.1⟩ : { x : Option (PySem.Str × List Int) // tgOk x = true }) = ⟨y, h'.2⟩)) = decide (x = y) from decide_eq_decide.mpr ⟨fun z => congrArg Subtype.val z, fun z => Subtype.ext z⟩] at this
  exact this
theorem rv_isTg {x : Option (PySem.Str × List Int)} : RV K l l' (fun x y H Q => y = .non ∧ Q (.bl (decide (x = .non))) H) (encTg x) .non (.bl x.isNone) := by
  cases x with
  | none => exact rv_isN
  | some y => exact rv_isN
theorem rv_notTg {x : Option (PySem.Str × List Int)} : RV K l l' (fun x y H Q => y = .non ∧ Q (.bl (!decide (x = .non))) H) (encTg x) .non (.bl (!x.isNone)) := by
  cases x with
  | none => exact rv_notN
  | some y => exact rv_notN
theorem ev_catUTF {α : Type} {f : α → D} {xs ys zs : List α} (hl : l.st = true) (hs : catO xs ys = some zs) (h1 : EvD K l p ta env env' (.tup (xs.map f))) (h2 : EvD K l q tb env' env'' (.tup (ys.map f))) : EvD K l false (tOp (rCatU K) ta tb) env env'' (.tup (zs.map f)) := by
  unfold catO at hs
  split at hs
  · rename_i hz
    cases hs
    have := ev_toF (ev_catU (l := l) (q := q) (by rw [hl]; rfl) h1 h2 (by rw [List.length_map, List.length_map]; exact hz))
    rw [← List.map_append] at this
    exact this
  · cases hs
end
end Pw
/-! QTe: items of a dict with tuple keys; isinstance of what may be None -/
namespace Pw
open PySem PySem.Spec PyProof.Rows L2
section
variable {P : Program} {w : World} {K : PySem.W.Frag} {d : Addr} {o : Obj} {es : Array DictEntry} {ep : Nat}
theorem frzT2 {X : Cx} {pins : List (Addr × Obj)} {σ : L2.St} {H : Hp} {s : Shared} {kvs : List (List Key × V)} (I : Inv X pins σ H s) (h : H d = some (.frz o (.dT kvs))) :
    (d == sysModules) = false ∧ s.heap.get? d = some o ∧ o.ExactDict ∧ ∃ (es : Array DictEntry) (ep : Nat), o.data = .dict es ep ∧ es.size = kvs.length ∧
      ∀ (i : Nat) (k : List Key) (v : V), kvs[i]? = some (k, v) → ∃ (en : DictEntry) (q : Addr), es[i]? = some en ∧ en.key = .ref q ∧ H q = some (.tup (k.map kV)) ∧ RelV v en.val := by
  obtain ⟨hd, z, hs, xs, pr, o', es, ep, ho, hx, hdt, he, _⟩ := I.hok d _ h
  rw [hd] at ho
  cases ho
  refine ⟨hs, hd, hx, es, ep, hdt, ?_, fun i k v e => ?_⟩
  · have l1 : es.size = xs.length := size_of_entries he
    have l2 : kvs.length = xs.length := Paired.length pr
    omega
  · obtain ⟨b, hb, e1, e2, e3⟩ := paired_get pr e
    have q := entry_at he i
    rw [hb] at q
    exact ⟨_, b.2.1, q, rfl, e2, e3⟩
def ItiT (d : Addr) (o : Obj) (kvs : List (List Key × V)) : It :=
  ⟨fun i H => H d = some (.frz o (.dT kvs)) ∧ i < kvs.length, fun i H x H' => ∃ (T : Addr) (k : List Key) (v : V) (q : Addr), kvs[i]? = some (k, v) ∧ x = .ref T ∧ H T = none ∧ H q = some (.tup (k.map kV)) ∧ H' = upd H T (.tup [.ref q, v]), fun i H => H d = some (.frz o (.dT kvs)) ∧ kvs.length ≤ i⟩
theorem turn_itemsT {kvs : List (List Key × V)} {elts : List Expr} {kk : Nat} {tpos : Pos} (it : Addr) (hod : o.data = .dict es ep) :
    L2.Turn P w K (.Tuple elts kk tpos) (ItiT d o kvs) [it] it (fun i h => ∃ ok ov, IsItemIter h it d i kvs.length ep ok ov) where
  mem := by simp
  obj := fun i h st b hb => by
    have e : b = it := by simpa using hb
    subst e
    obtain ⟨ok, ov, e⟩ := st
    exact ⟨_, e, fun v z => nomatch z⟩
  keep := fun i h h' st k => let ⟨ok, ov, e⟩ := st; ⟨ok, ov, k it (by simp) _ e⟩
  item := by
    intro X hP hw hK hc i pins s σ H E I hf st hg
    subst hP hw hK
    obtain ⟨hd, hi⟩ := hg
    obtain ⟨hs, hgd, hx, es', ep', hdt, hsz, ent⟩ := frzT2 I hd
    obtain ⟨rfl, rfl⟩ := dict_ep hod hdt
    obtain ⟨⟨k, v⟩, hkv⟩ : ∃ p, kvs[i]? = some p := ⟨kvs[i], List.getElem?_eq_getElem hi⟩
    obtain ⟨en, q, hen, hkey, hq, rv⟩ := ent i k v hkv
    obtain ⟨hi2, hen2⟩ := Array.getElem?_eq_some_iff.mp hen
    obtain ⟨ok, ov, he⟩ := st
    rw [← hsz] at he
    have hlt : it < s.heap.objs.size := Heap.lt_size he
    refine wpAny_pyNext_items_item_raw he ⟨o, hgd, hx, hdt⟩ hi2 fun h' ho hT hz hk => ?_
    refine ⟨_, rfl, wpAny_letOwnedTupleGo_items (s := { s with heap := h' }) ho fun h'' he' sb => ?_⟩
    rw [hen2] at he' hT
    have hT2 : h''.get? s.heap.objs.size = some { cls := .type "tuple", data := .seq #[en.key, en.val] } := (sb.2 _ (Nat.ne_of_gt hlt)).trans hT
    have new : ObjOk X.prog X.w (upd H s.heap.objs.size (.tup [.ref q, v])) h'' s.heap.objs.size (.tup [.ref q, v]) :=
      ⟨by show 2 ≤ sizeLine; decide, [en.key, en.val], .cons hkey (.cons rv .nil), ⟨_, hT2, rfl, _, rfl⟩⟩
    have I1 : Inv X pins σ (upd H s.heap.objs.size (.tup [.ref q, v])) { s with heap := h'' } :=
      I.turnedNew (t' := s.toks) (ch := [it]) (fun b ob hb e => (sb.2 b (by simpa using hb)).trans (hk b ob (by simpa using hb) e)) hf (Nat.le_refl _) new
    refine ⟨.ref s.heap.objs.size, _, I1, rfl, ⟨_, k, v, q, hkv, rfl, I.hok.fresh (Nat.le_refl _), hq, rfl⟩, ⟨en.key, en.val, ?_⟩, fun b hb => ?_⟩
    · rw [← hsz]; exact he'
    · have e : b = it := by simpa using hb
      rw [e, upd_ne (Nat.ne_of_lt hlt)]
      exact (hf it (by simp)).1
  done := by
    intro X hP hw hK hc i pins s σ H E I hf st hg
    subst hP hw hK
    obtain ⟨hd, hi⟩ := hg
    obtain ⟨f0, f1, f2, f3, f4, f5⟩ := hf it (by simp)
    obtain ⟨hs, hgd, hx, es', ep', hdt, hsz, ent⟩ := frzT2 I hd
    obtain ⟨rfl, rfl⟩ := dict_ep hod hdt
    obtain ⟨ok, ov, he⟩ := st
    rw [← hsz] at he
    exact wpAny_pyNext_items_end_raw (I.ok.hd hc) he ⟨o, hgd, hx, hdt⟩ (by omega) fun h' eb => ⟨rfl, I.turned (t' := s.toks) (fun b ob hb e => eb b ob hb e) f0 f1 f3 f4 f5⟩
  self := fun A i s Q E st h => let ⟨_, _, e⟩ := st; PySem.W.kcp_self e h
end
def iItemsT (td : TE) : TI := fun σ H R => td σ H fun x H1 => ∃ d o kvs, x = .ref d ∧ H1 d = some (.frz o (.dT kvs)) ∧ R (ItiT d o kvs) H1
section
variable {X : Cx} {tg e : Expr} {td : TE} {apos cpos : Pos}
theorem pi_itemsT {elts : List Expr} {kk : Nat} {tpos : Pos} (he : PE X e td) (hbase : attributeBase e "items" X.env (eval e X.env) = eval e X.env := by rfl) (hline : (apos.endLine == cpos.line) = true := by rfl) :
    PI X (.Tuple elts kk tpos) (.Call (.Attribute e "items" apos) [] [] cpos) (iItemsT td) := by
  refine ⟨fun pins s σ H R I h => ?_⟩
  refine wpAny_Call_method (T := "dict") (id := "dict.items") hbase rfl hline F.plainAttrs_dict F.slot_dict_items F.type_dict_items (thn (he.run pins s σ H _ I h) fun u s1 ⟨x, H1, I1, rx, d, o, kvs, ex, hd, q⟩ => ?_)
  subst ex
  obtain rfl : u = Value.ref d := rx
  obtain ⟨hs, hgd, hx, es, ep, hdt, hsz, ent⟩ := frzT2 I1 hd
  have hm : s1.heap.DictRaw d es ep := ⟨o, hgd, hx, hdt⟩
  have I2 : Inv X pins σ H1 { s1 with heap := s1.heap.push { cls := .type "dict_items", data := .fields #[.ref d] } } := I1.kept (t' := s1.toks) fun b ob q => Heap.get?_push_of_some _ q
  have fin : wpAny (model X.prog X.w) X.A (pyIter (.ref s1.heap.objs.size)) (PIE X pins σ (.Tuple elts kk tpos) R) X.xe { s1 with heap := s1.heap.push { cls := .type "dict_items", data := .fields #[.ref d] } } := by
    refine wpAny_pyIter_items_raw (d := d) ⟨_, Heap.get?_push_size _ rfl, rfl, rfl⟩ (hm.at fun o q => Heap.get?_push_of_some _ q) (pi_one (tk := s1.toks) I2 _ (turn_itemsT _ hdt) ⟨.none, .none, ?_⟩ q)
    rw [← hsz]
    exact Heap.get?_push_size _ rfl
  refine ⟨hm.typeIs, ?_, ?_⟩
  · exact fun a e => by cases e; exact ⟨o, hgd, hx.2.1⟩
  · show wpAny _ _ (callWith cpos (.builtin "dict.items") [.ref d] [] []) _ X.xe s1
    exact method_meetsIn F.slot_dict_items F.entry_dict_items rfl (PySem.evalArgs_none ⟨rfl, hm.typeIs, F.args_dict_items_1 _, _, meets_dict_items_raw d hs, ⟨es, ep, hm⟩, fin⟩)
end
section
variable {K : PySem.W.Frag}
theorem ei_itemsT {l1 : List (List Key × D)} (hl : l.lp = true) (h : EvF K p te env env' (dtL l1)) : EvI K l p (iItemsT (tLkR te)) env env' (l1.map fun z => .tup [.tup (z.1.map keyD), z.2]) := fun X a0 H0 M ad σ H R E k =>
  h X a0 H0 M ad σ H _ E fun a H1 H2 ha hs E1 g0 e1 p1 rc => by
    obtain ⟨xs, h1, h2, h3⟩ := rc
    refine ⟨a, _, rfl, h1, True.intro, fun od => ⟨a, od, _, rfl, upd_same, ?_⟩⟩
    have ne1 : ∀ b o, H1 b = some o → b ≠ a := fun b o h z => by rw [z, ha] at h; cases h
    have gr : Ex H1 (upd H2 a (.frz od (.dT ((l1.map (·.1)).zip xs)))) := fun b o h => by rw [upd_ne (ne1 b o h)]; exact g0 b o h
    have nm : ¬ M.m a := fun z => (E1.min a z).1 ha
    refine k _ _ (E1.grow gr) (e1.trans (hid_ex gr)) (fun z => (p1 z).trans gr) fun n H3 g3 => ?_
    have fz : H3 a = some (.frz od (.dT ((l1.map (·.1)).zip xs))) := g3 a _ (by rw [hid_out nm, upd_same])
    have hl2 : xs.length = (l1.map (·.1)).length := by rw [h3.length]; simp
    refine ⟨fun c hc => ?_, fun hn => ⟨fz, by simpa [List.length_zip, hl2] using hn⟩⟩
    rw [List.getElem?_map] at hc
    obtain ⟨z0, hz0, rfl⟩ := Option.map_eq_some_iff.mp hc
    have hk : (l1.map (·.1))[n]? = some z0.1 := by rw [List.getElem?_map, hz0]; rfl
    obtain ⟨w, hw⟩ := zip_get hl2 hk
    have hd : (l1.map (·.2))[n]? = some z0.2 := by rw [List.getElem?_map, hz0]; rfl
    obtain ⟨w', hw', rw'⟩ := h3.get hd
    have : w = w' := by
      have := (List.getElem?_zip_eq_some.mp hw).2
      rw [hw'] at this
      exact (Option.some.inj this).symm
    subst this
    refine ⟨⟨fz, (List.getElem?_eq_some_iff.mp hw).1⟩, fun x H4 y => .inr (.inr (.inr (.inr ?_)))⟩
    obtain ⟨T, kk, vv, q, y1, y2, y3, y5, y4⟩ := y
    rw [hw] at y1; cases y1
    refine ⟨T, q, _, _, _, _, y2, y3, y4, y5, rfl, fun B' => rpl_kd _ B', ?_⟩
    rw [← hid_mx hl]
    exact Rp.mono ((hid_ex gr).trans (hid_le mk_le)) _ _ rw'
def toPairK {α : Type} (z : List Int × α) : Option ((Int × Int) × α) := (toPair z.1).map fun q => (q, z.2)
def pairsO (xs : List (List Int)) : Option (List (Int × Int)) := xs.mapM toPair
def pairsKO {α : Type} (xs : List (List Int × α)) : Option (List ((Int × Int) × α)) := xs.mapM toPairK
theorem mapM_map {α β γ : Type} {f : α → Option β} {g : α → γ} {h : β → γ} (hf : ∀ a b, f a = some b → g a = h b) : ∀ {xs : List α} {ys : List β}, xs.mapM f = some ys → xs.map g = ys.map h
  | [], ys, e => by
    rw [List.mapM_nil] at e
    cases e; rfl
  | x :: xs, ys, e => by
    rw [List.mapM_cons] at e
    obtain ⟨b, e1, e⟩ := Option.bind_eq_some_iff.mp e
    obtain ⟨bs, e2, e⟩ := Option.bind_eq_some_iff.mp e
    have e : b :: bs = ys := Option.some.inj e
    subst e
    rw [List.map_cons, List.map_cons, hf _ _ e1, mapM_map hf e2]
theorem pairsO_eq {xs : List (List Int)} {ys : List (Int × Int)} (h : pairsO xs = some ys) : (xs.map fun ns => D.tup (ns.map D.int)) = ys.map fun z => D.tup [D.int z.1, D.int z.2] :=
  mapM_map (fun a b e => by rw [toPair_eq e]; rfl) h
theorem pairsKO_eq {α : Type} {f : α → D} {xs : List (List Int × α)} {ys : List ((Int × Int) × α)} (h : pairsKO xs = some ys) : (xs.map fun z => D.tup [D.tup (z.1.map D.int), f z.2]) = ys.map fun z => D.tup [D.tup [D.int z.1.1, D.int z.1.2], f z.2] :=
  mapM_map (fun a b e => by
    obtain ⟨q, e1, rfl⟩ := Option.map_eq_some_iff.mp e
    rw [toPair_eq e1]; rfl) h
theorem ei_is {ds ds' : List D} (h : EvI K l p wi env env' ds) (e : ds = ds') : EvI K l p wi env env' ds' := e ▸ h
theorem ei_itemsTt {α : Type} {f : α → D} {l1 : List (List Int × α)} {ys : List ((Int × Int) × α)} (hy : pairsKO l1 = some ys) (hl : l.lp = true) (h : EvF K p te env env' (dtL (l1.map fun z => ((z.1.map Sum.inl : List Key), f z.2)))) : EvI K l p (iItemsT (tLkR te)) env env' (ys.map fun z => D.tup [D.tup [D.int z.1.1, D.int z.1.2], f z.2]) := by
  have := ei_itemsT hl h
  rw [List.map_map] at this
  refine ei_is this (Eq.trans (List.map_congr_left fun z _ => ?_) (pairsKO_eq hy))
  show D.tup [D.tup ((z.1.map Sum.inl : List Key).map keyD), f z.2] = _
  rw [List.map_map]; rfl
theorem ft_f (h : EvFT K p te env env' (Tr.of d)) : EvF K p te env env' d := fun X a0 H0 M ad σ H Q E k =>
  h X a0 H0 M ad σ H Q E fun v as H1 H' ha hb E1 g e1 p1 nd w => by
    obtain ⟨a, rfl, rfl, c⟩ := Ow.cell.mp w
    exact k a H1 H' (ha a (List.mem_singleton.mpr rfl)) hb E1 g e1 p1 c
theorem ev_slT2 {ds : List D} {m n : Nat} (h : EvD K l p te env env' (.tup ds)) (h1 : EvD K l1 true tl env' env' (.int (m : Int))) (h2 : EvD K l2 true ti env' env' (.int (n : Int))) (hm : m ≤ n ∧ n ≤ ds.length ∧ ¬ (m = 0 ∧ n = ds.length)) : EvD K l p (tSl (rSlT K) te (tPart tl) (tPart ti)) env env' (.tup ((ds.drop m).take (n - m))) := fun X a0 H0 M ad σ H Q E k =>
  h X a0 H0 M ad σ H _ E fun x H1 E1 e1 p1 r1 => h1 X a0 H0 M ad σ H1 _ E1 fun z Hz Ez ez pz rz => ⟨_, rz, h2 X a0 H0 M ad σ Hz _ Ez fun y H2 E2 e2 p2 r2 => by
    obtain ⟨a, xs, rfl, h3, h4⟩ := r1
    have hl : xs.length = ds.length := h4.length
    have s1 : HT.sIx xs.length 0 (some (m : Int)) = m := by rw [HT.sIx_nat]; omega
    have s2 : HT.sIx xs.length xs.length (some (n : Int)) = n := by rw [HT.sIx_nat]; omega
    have ec : cutV xs (some (m : Int)) (some (n : Int)) = (xs.drop m).take (n - m) := by
      unfold cutV
      rw [s1, s2]
    refine ⟨_, r2, a, xs, rfl, ex_s (hid_all.trans ((pz rfl).trans (p2 rfl))) h3, fun z => ?_, fun c hc => ?_⟩
    · rw [s1, s2] at z
      omega
    · rw [ec]
      have g : Ex H2 (upd H2 c (.tup ((xs.drop m).take (n - m)))) := Ex.new hc
      refine k _ _ (E2.grow g) (((e1.trans ez).trans e2).trans (hid_ex g)) (fun q => ((p1 q).trans ((pz rfl).trans (p2 rfl))).trans g) ⟨c, _, rfl, ?_, RpL.mono ((hid_ex ((pz rfl).trans (p2 rfl))).trans (hid_ex g)) _ _ ((h4.drop m).take (n - m))⟩
      rw [hid_out (fresh_mk E2 hc), upd_same]⟩
theorem inDK {X : Cx} (h : X.K = K) (hu : X.A.units + 65 < cLine) : OpR X (compareOp .In) (rInD K) := h ▸ op_inD hu
theorem notInDK {X : Cx} (h : X.K = K) (hu : X.A.units + 65 < cLine) : OpR X (compareOp .NotIn) (rNotInD K) := h ▸ op_notInD hu
theorem dpMap {α : Type} {f : α → D} {pd : α → PyData} (h1 : ∀ x K H v, Rp K H (f x) v → Dp K H v (pd x)) : ∀ (ys : List α) K H vs, RpL K H (ys.map f) vs → DpAll K H vs (ys.map pd)
  | [], K, H, vs, h => by have h : vs = [] := h; subst h; exact .nil
  | y :: ys, K, H, vs, h => by
    obtain ⟨v, r, e, q1, q2⟩ := h
    subst e
    exact .cons (h1 y K H v q1) (dpMap h1 ys K H r q2)
theorem layMap {α : Type} {pd : α → PyData} {n : Nat} (h2 : ∀ x, (pd x).canLay0 = true ∧ (pd x).depth ≤ n) : ∀ ys : List α, PyData.canLayAll0 (ys.map pd) = true ∧ PyData.depthAll (ys.map pd) ≤ n
  | [] => ⟨rfl, by simp [PyData.depthAll]⟩
  | y :: ys => ⟨by rw [List.map_cons, PyData.canLayAll0, (h2 y).1, (layMap h2 ys).1]; rfl, by have := (h2 y).2; have := (layMap h2 ys).2; simp only [List.map_cons, PyData.depthAll]; omega⟩
theorem anyMap {α : Type} [DecidableEq α] {pd : α → PyData} (h3 : ∀ x y, PyData.eqv (pd x) (pd y) = true ↔ x = y) (x : α) (ys : List α) : ((ys.map pd).any fun z => PyData.eqv z (pd x)) = decide (x ∈ ys) := by
  rw [Bool.eq_iff_iff, List.any_eq_true, decide_eq_true_iff]
  constructor
  · rintro ⟨z, hz, e⟩
    obtain ⟨y, hy, rfl⟩ := List.mem_map.mp hz
    exact (h3 y x).mp e ▸ hy
  · exact fun h => ⟨pd x, List.mem_map_of_mem h, (h3 x x).mpr rfl⟩
def memB {α : Type} [DecidableEq α] (x : α) (ys : List α) : Bool := decide (x ∈ ys)
theorem memB_iff {α : Type} [DecidableEq α] {x : α} {ys : List α} : memB x ys = true ↔ x ∈ ys := decide_eq_true_iff
theorem rv_inV {α : Type} [DecidableEq α] {f : α → D} {n : Nat} {x : α} {ys : List α} (h : Eqv n f) (hn : n ≤ 58) : RV K l l' (rInD K) (f x) (.lst (ys.map f)) (.bl (memB x ys)) := fun X a0 H0 M ad σ H env v w Q E rx ry k => by
  obtain ⟨pd, h1, h2, h3⟩ := h
  obtain ⟨a, xs, rfl, q1, q2⟩ := ry
  have ly := layMap h2 ys
  refine ⟨pd x, ys.map pd, DpM hid_all (h1 x _ _ _ rx), DpM hid_all (.lst q1 (dpMap h1 ys _ _ _ q2)), shaped_of (h2 x).1 (h2 x).2 (by omega), shaped_of (n := n + 1) ly.1 (by simp only [PyData.depth]; omega) (by omega), ?_⟩
  rw [anyMap h3]
  exact k _ H E (Ex.refl _) rfl
theorem rv_notInV {α : Type} [DecidableEq α] {f : α → D} {n : Nat} {x : α} {ys : List α} (h : Eqv n f) (hn : n ≤ 58) : RV K l l' (rNotInD K) (f x) (.lst (ys.map f)) (.bl (!memB x ys)) := fun X a0 H0 M ad σ H env v w Q E rx ry k => by
  obtain ⟨pd, h1, h2, h3⟩ := h
  obtain ⟨a, xs, rfl, q1, q2⟩ := ry
  have ly := layMap h2 ys
  refine ⟨pd x, ys.map pd, DpM hid_all (h1 x _ _ _ rx), DpM hid_all (.lst q1 (dpMap h1 ys _ _ _ q2)), shaped_of (h2 x).1 (h2 x).2 (by omega), shaped_of (n := n + 1) ly.1 (by simp only [PyData.depth]; omega) (by omega), ?_⟩
  rw [anyMap h3]
  exact k _ H E (Ex.refl _) rfl
/-- isinstance of what may be None -/
theorem ev_isiO {α : Type} {f : α → D} {v : Option α} {n u : String} (h : EvD K l p ta env env' (encO f v)) (hf : ∀ x, tyN (f x) = u ∧ (∀ ks ds, f x ≠ .dt ks ds) ∧ ∀ C ns ds, f x ≠ .ob C ns ds) (h0 : kitB "NoneType" n = some false) (h1 : kitB u n = some true) : EvD K l' p (tCB (rIsi K) (tCons ta (tCons (tC (.ty n)) tNil))) env env' (.bl v.isSome) := by
  cases v with
  | none => exact ev_isi (d := .non) h h0
  | some x => exact ev_isi (d := f x) h (by rw [(hf x).1]; exact h1) (hf x).2.1 (hf x).2.2
theorem ev_isiOn {α : Type} {f : α → D} {v : Option α} {n u : String} (h : EvD K l p ta env env' (encO f v)) (hf : ∀ x, tyN (f x) = u ∧ (∀ ks ds, f x ≠ .dt ks ds) ∧ ∀ C ns ds, f x ≠ .ob C ns ds) (h0 : kitB "NoneType" n = some false) (h1 : kitB u n = some false) : EvD K l' p (tCB (rIsi K) (tCons ta (tCons (tC (.ty n)) tNil))) env env' (.bl false) := by
  cases v with
  | none => exact ev_isi (d := .non) h h0
  | some x => exact ev_isi (d := f x) h (by rw [(hf x).1]; exact h1) (hf x).2.1 (hf x).2.2
end
end Pw
/-! QTf: for row in table, where the rows are one's own and are changed through their name -/
namespace Pw
open PySem L2
section
variable {K : PySem.W.Frag} {We : WX} {X : Addr → Prop} {a0 : Addr} {H0 : Hp} {M M' : Msk} {ad ad' : Nat → List Addr} {σ σ' : St} {H H' H1 : Hp} {env env' env'' : List Bd} {i j r : Nat} {ts tu : TS} {Dn : Ends} {us : List Tr}
def plainB : Bd → Bool
  | .an => true
  | .im _ => true
  | .tr _ => true
  | _ => false
theorem plain_at (h : env.all plainB = true) {l : Nat} {b : Bd} (e : env[l]? = some b) : b = .an ∨ (∃ d, b = .im d) ∨ ∃ t, b = .tr t := by
  have := List.all_eq_true.mp h b (List.mem_of_getElem? e)
  cases b with
  | an => exact .inl rfl
  | im d => exact .inr (.inl ⟨d, rfl⟩)
  | tr t => exact .inr (.inr ⟨t, rfl⟩)
  | _ => cases this
/-- a slot's content beside two that are set -/
theorem set2_cases {x y b : Bd} {l : Nat} (ij : i ≠ j) (h : ((env.set i x).set j y)[l]? = some b) : (l = j ∧ b = y ∧ j < env.length) ∨ (l = i ∧ b = x ∧ i < env.length) ∨ (l ≠ i ∧ l ≠ j ∧ env[l]? = some b) := by
  rcases set_cases h with ⟨z, e, hl⟩ | ⟨z, h⟩
  · exact .inl ⟨z, e, by simpa using hl⟩
  · rcases set_cases h with ⟨z2, e, hl⟩ | ⟨z2, h⟩
    · exact .inr (.inl ⟨z2, e, hl⟩)
    · exact .inr (.inr ⟨z2, z, h⟩)
theorem own2 {x y : Bd} {l : Nat} {t : Tr} (ij : i ≠ j) (h : own ((env.set i x).set j y)[l]? = some t) : (l = j ∧ own (some y) = some t ∧ j < env.length) ∨ (l = i ∧ own (some x) = some t ∧ i < env.length) ∨ (l ≠ i ∧ l ≠ j ∧ own env[l]? = some t) := by
  cases e : ((env.set i x).set j y)[l]? with
  | none => rw [e] at h; cases h
  | some b =>
    rw [e] at h
    rcases set2_cases ij e with ⟨z, z2, hl⟩ | ⟨z, z2, hl⟩ | ⟨z, z2, z3⟩
    · exact .inl ⟨z, by rw [← z2]; exact h, hl⟩
    · exact .inr (.inl ⟨z, by rw [← z2]; exact h, hl⟩)
    · exact .inr (.inr ⟨z, z2, by rw [z3]; exact h⟩)
theorem ER.borrow (E : ER K X a0 H0 M ad σ H env) (pl : env.all plainB = true) (hi : env[i]? = some (.tr (.n .l us))) (hj : env[j]? = some .an) {kc : Nk} {tc : List Tr} (hc : us[r]? = some (.n kc tc)) :
    ∃ a ax xs X1 H1 M1 ad1, σ[i]? = some (some (.ref a)) ∧ H a = some (.lst xs) ∧ xs[r]? = some (.ref ax) ∧
      ER K X1 ax H1 M1 ad1 (σ.set j (some (.ref ax))) H ((env.set i (.pn (.ref a))).set j (.tm (.n kc tc))) ∧
      ∀ (M2 : Msk) (ad2 : Nat → List Addr) (σ2 : St) (H2 : Hp) (env2 : List Bd) (c' : Tr), env2.all plainB = true → i < env2.length → j < env2.length → ER K X1 ax H1 M2 ad2 σ2 H2 ((env2.set i (.pn (.ref a))).set j (.tm c')) →
        σ2[i]? = some (some (.ref a)) ∧ ∃ M3 ad3, ER K X a0 H0 M3 ad3 σ2 H2 ((env2.set i (.tr (.n .l (us.set r c')))).set j .an) := by
  have ij : i ≠ j := fun z => by rw [z, hj] at hi; cases hi
  have jl : j < env.length := (List.getElem?_eq_some_iff.mp hj).1
  have il : i < env.length := (List.getElem?_eq_some_iff.mp hi).1
  have owi : own env[i]? = some (.n .l us) := by rw [hi]; rfl
  obtain ⟨an, nd, v, hv, w⟩ := E.ws i _ owi
  obtain ⟨a, xs, rest, rfl, ea, na, wl⟩ := w
  have na : H a = some (.lst xs) := na
  obtain ⟨x, b1, b, b2, hx, er, wc, back⟩ := OwL.at wl hc
  obtain ⟨ax, xs2, rest2, rfl, eb, nb, wl2⟩ := id wc
  have xt := E.xt i _ hi
  rw [ea, er] at an nd xt
  -- what is left aside
  have inO : ∀ z, z ∈ a :: (b1 ++ b2) → z ∈ a :: (b1 ++ (b ++ b2)) := fun z h => by
    simp only [List.mem_cons, List.mem_append] at h ⊢
    rcases h with h | h | h
    · exact .inl h
    · exact .inr (.inl h)
    · exact .inr (.inr (.inr h))
  have inb : ∀ z, z ∈ b → z ∈ a :: (b1 ++ (b ++ b2)) := fun z h => by
    simp only [List.mem_cons, List.mem_append]
    exact .inr (.inr (.inl h))
  have sp : ∀ z, z ∈ a :: (b1 ++ (b ++ b2)) → z ∈ a :: (b1 ++ b2) ∨ z ∈ b := fun z h => by
    simp only [List.mem_cons, List.mem_append] at h ⊢
    rcases h with h | h | h | h
    · exact .inl (.inl h)
    · exact .inl (.inr (.inl h))
    · exact .inr h
    · exact .inl (.inr (.inr h))
  have nd0 := nd
  rw [List.nodup_cons, List.nodup_append, List.nodup_append] at nd
  obtain ⟨nd1, nd2, ⟨nd3, nd4, nd5⟩, nd6⟩ := nd
  have bO : ∀ z, z ∈ b → z ∉ a :: (b1 ++ b2) := fun z h h2 => by
    simp only [List.mem_cons, List.mem_append] at h2
    rcases h2 with h2 | h2 | h2
    · exact nd1 (by rw [← h2]; simp [h])
    · exact nd6 z h2 z (by simp [h]) rfl
    · exact nd5 z h z h2 rfl
  generalize hO : a :: (b1 ++ b2) = O at inO sp bO
  have aO : a ∈ O := by rw [← hO]; simp
  have b1O : ∀ z, z ∈ b1 → z ∈ O := fun z h => by rw [← hO]; simp [h]
  have b2O : ∀ z, z ∈ b2 → z ∈ O := fun z h => by rw [← hO]; simp [h]
  have OM : ∀ z, z ∈ O → M.n z ∧ M.m z ∧ ¬ X z := fun z h => ⟨an z (inO z h), M.le z (an z (inO z h)), xt z (inO z h)⟩
  have same : (fun z => (M.m z ∧ z ∉ O ∧ ¬ X z) ∨ (X z ∨ z ∈ O)) = fun z => M.m z ∨ X z := funext fun z => propext ⟨fun h => by
      rcases h with h | h | h
      · exact .inl h.1
      · exact .inr h
      · exact .inl (OM z h).2.1, fun h => by
      by_cases q : z ∈ O
      · exact .inr (.inr q)
      · by_cases q2 : X z
        · exact .inr (.inl q2)
        · exact .inl ⟨h.resolve_right q2, q, q2⟩⟩
  refine ⟨a, ax, xs, fun z => X z ∨ z ∈ O, hid (fun z => M.m z ∧ z ∉ O ∧ ¬ X z) H, ⟨fun z => M.n z ∧ z ∉ O ∧ ¬ X z, fun z => M.m z ∧ z ∉ O ∧ ¬ X z, fun z h => ⟨M.le z h.1, h.2⟩⟩, fun l => if l = j then b else ad l, hv, na, hx, ?_, ?_⟩
  · have σo : ∀ l : Nat, l ≠ j → (σ.set j (some (V.ref ax)))[l]? = σ[l]? := fun l e => List.getElem?_set_ne (Ne.symm e)
    have σj : (σ.set j (some (V.ref ax)))[j]? = some (some (V.ref ax)) := List.getElem?_set_self (by rw [E.len]; exact jl)
    have apart : ∀ l t, l ≠ i → own env[l]? = some t → ∀ z ∈ ad l, z ∉ a :: (b1 ++ (b ++ b2)) := fun l t hl ho z hz q => E.dj l i hl (own_ne ho) (own_ne owi) z hz (by rw [ea, er]; exact q)
    refine ⟨by simp [E.len], hid_all, fun z h => ?_, fun z h => E.min z h.1, fun z h => hid_in h, fun l d q => ?_, fun l d q => ?_, fun l t q => ?_, fun l t q => ?_, fun l t q => ?_, fun l k hlk q1 q2 => ?_, fun l v q => ?_⟩
    · rcases h with h | h
      · exact E.xin z h
      · exact E.min z (OM z h).2.1
    · rcases set2_cases ij q with ⟨_, z, _⟩ | ⟨_, z, _⟩ | ⟨z1, z2, q⟩
      · cases z
      · cases z
      · obtain ⟨x, h1, h2⟩ := E.im l d q
        exact ⟨x, by rw [σo l z2]; exact h1, by rw [same]; exact h2⟩
    · rcases set2_cases ij q with ⟨_, z, _⟩ | ⟨_, z, _⟩ | ⟨z1, z2, q⟩
      · cases z
      · cases z
      · rcases plain_at pl q with z | ⟨_, z⟩ | ⟨_, z⟩ <;> cases z
    · rcases own2 ij q with ⟨z, y, _⟩ | ⟨_, y, _⟩ | ⟨z1, z2, q⟩
      · cases y
        subst z
        rw [if_pos rfl]
        refine ⟨fun z hz => ⟨an z (inb z hz), bO z hz, xt z (inb z hz)⟩, nd3, _, σj, ?_⟩
        rw [same]
        exact wc
      · cases y
      · rw [if_neg z2]
        obtain ⟨h1, h2, x, h3, h4⟩ := E.ws l t q
        refine ⟨fun z hz => ⟨h1 z hz, fun y => apart l t z1 q z hz (inO z y), ?_⟩, h2, x, by rw [σo l z2]; exact h3, by rw [same]; exact h4⟩
        cases e : env[l]? with
        | none => rw [e] at q; cases q
        | some bd =>
          rcases plain_at pl e with y | ⟨_, y⟩ | ⟨u, y⟩
          · rw [e, y] at q; cases q
          · rw [e, y] at q; cases q
          · rw [y] at e
            exact E.xt l u e z hz
    · rcases set2_cases ij q with ⟨_, z, _⟩ | ⟨_, z, _⟩ | ⟨z1, z2, q⟩
      · cases z
      · cases z
      · rw [if_neg z2]
        exact fun z hz y => y.elim (E.xt l t q z hz) fun y => apart l t z1 (by rw [q]; rfl) z hz (inO z y)
    · rcases set2_cases ij q with ⟨_, z, _⟩ | ⟨_, z, _⟩ | ⟨z1, z2, q⟩
      · cases z
      · cases z
      · rcases plain_at pl q with z | ⟨_, z⟩ | ⟨_, z⟩ <;> cases z
    · obtain ⟨t1, q1⟩ := own_some q1
      obtain ⟨t2, q2⟩ := own_some q2
      intro z hz hz2
      rcases own2 ij q1 with ⟨y, _⟩ | ⟨_, y, _⟩ | ⟨y1, y2, q1⟩
      · rw [if_pos y] at hz
        rcases own2 ij q2 with ⟨y', _⟩ | ⟨_, y', _⟩ | ⟨y1, y2, q2⟩
        · exact hlk (y.trans y'.symm)
        · cases y'
        · rw [if_neg y2] at hz2
          exact apart k t2 y1 q2 z hz2 (inb z hz)
      · cases y
      · rw [if_neg y2] at hz
        rcases own2 ij q2 with ⟨y', _⟩ | ⟨_, y', _⟩ | ⟨y3, y4, q2⟩
        · rw [if_pos y'] at hz2
          exact apart l t1 y1 q1 z hz (inb z hz2)
        · cases y'
        · rw [if_neg y4] at hz2
          exact E.dj l k hlk (own_ne q1) (own_ne q2) z hz hz2
    · obtain ⟨bd, q, hc⟩ := pin_some q
      rcases set2_cases ij q with ⟨z, y, _⟩ | ⟨z, y, _⟩ | ⟨z1, z2, q⟩
      · rw [y] at hc
        rcases hc with ⟨_, _, e⟩ | e
        · rw [z, e]; exact σj
        · cases e
      · rw [y] at hc
        rcases hc with ⟨_, e, _⟩ | e
        · cases e
        · cases e
          rw [z, σo i ij]; exact hv
      · rcases plain_at pl q with z | ⟨_, z⟩ | ⟨_, z⟩ <;> (rw [z] at hc; rcases hc with ⟨_, e, _⟩ | e <;> cases e)
  · intro M2 ad2 σ2 H2 env2 c' pl2 il2 jl2 E2
    have l1 : ((env2.set i (.pn (.ref a))).set j (.tm c'))[i]? = some (.pn (.ref a)) := by
      rw [List.getElem?_set_ne (Ne.symm ij), List.getElem?_set_self il2]
    have l2 : ((env2.set i (.pn (.ref a))).set j (.tm c'))[j]? = some (.tm c') := List.getElem?_set_self (by simpa using jl2)
    have p1 : σ2[i]? = some (some (.ref a)) := E2.t0 i _ (by rw [l1]; rfl)
    have p2 : σ2[j]? = some (some (.ref ax)) := E2.t0 j _ (by rw [l2]; rfl)
    obtain ⟨an2, nd2', v2, hv2, w2⟩ := E2.ws j c' (by rw [l2]; rfl)
    rw [p2] at hv2
    cases hv2
    -- what stood aside stands there still
    have keep : ∀ z o, H z = some o → ¬ (M.m z ∧ z ∉ O ∧ ¬ X z) → H2 z = some o := fun z o h n => E2.ex z o (by rw [hid_out n]; exact h)
    have m2O : ∀ z, M2.m z → z ∉ O ∧ ¬ X z := fun z h => by
      have e := E2.mout z h
      constructor
      · intro q
        rw [hid_out (fun y => y.2.1 q)] at e
        exact (E.min z (OM z q).2.1).1 e
      · intro q
        rw [hid_out (fun y => y.2.2 q)] at e
        exact (E.xin z q).1 e
    have keepO : ∀ z, z ∈ O → H2 z = H z := fun z h => by
      cases e : H z with
      | none => exact absurd e (E.min z (OM z h).2.1).1
      | some o => exact keep z o e fun y => y.2.1 h
    have same2 : (fun z => (M2.m z ∨ z ∈ O) ∨ X z) = fun z => M2.m z ∨ (X z ∨ z ∈ O) := funext fun z => propext ⟨fun h => by
      rcases h with (h | h) | h
      · exact .inl h
      · exact .inr (.inr h)
      · exact .inr (.inl h), fun h => by
      rcases h with h | h | h
      · exact .inl (.inl h)
      · exact .inr h
      · exact .inl (.inr h)⟩
    have up : Ex (hid (fun z => M.m z ∨ X z) H) (hid (fun z => M2.m z ∨ (X z ∨ z ∈ O)) H2) := fun z o h => by
      obtain ⟨h1, h2⟩ := of_hid h
      have nO : z ∉ O := fun q => h1 (.inl (OM z q).2.1)
      have h3 := keep z o h2 fun y => h1 (.inl y.1)
      rw [hid_out]
      · exact h3
      · rintro (q | q | q)
        · have e := E2.mout z q
          rw [hid_out (fun y => h1 (.inl y.1)), h2] at e
          cases e
        · exact h1 (.inr q)
        · exact nO q
    refine ⟨p1, ⟨fun z => M2.n z ∨ z ∈ O, fun z => M2.m z ∨ z ∈ O, fun z h => h.imp (M2.le z) id⟩, fun l => if l = i then a :: (b1 ++ (ad2 j ++ b2)) else ad2 l, ?_⟩
    have h0 : Ex H0 (hid (fun z => M.m z ∧ z ∉ O ∧ ¬ X z) H) := fun z o h => by
      rw [hid_out fun y => by have e := E.mout z y.1; rw [h] at e; cases e]
      exact E.ex z o h
    refine ⟨?_, h0.trans E2.ex, fun z h => E2.xin z (.inl h), fun z h => ?_, fun z h => ?_, fun l d q => ?_, fun l d q => ?_, fun l t q => ?_, fun l t q => ?_, fun l t q => ?_, fun l k hlk q1 q2 => ?_, fun l v q => ?_⟩
    · have := E2.len
      simp only [List.length_set] at this ⊢
      exact this
    · rcases h with h | h
      · exact E2.min z h
      · exact E2.xin z (.inr h)
    · rcases h with h | h
      · cases e : H0 z with
        | none => rfl
        | some o =>
          have e2 := E2.mout z h
          rw [h0 z o e] at e2
          cases e2
      · exact E.mout z (OM z h).2.1
    · rcases set2_cases ij q with ⟨_, z, _⟩ | ⟨_, z, _⟩ | ⟨z1, z2, q⟩
      · cases z
      · cases z
      · obtain ⟨x, h1, h2⟩ := E2.im l d (by rw [List.getElem?_set_ne (Ne.symm z2), List.getElem?_set_ne (Ne.symm z1)]; exact q)
        exact ⟨x, h1, by rw [same2]; exact h2⟩
    · rcases set2_cases ij q with ⟨_, z, _⟩ | ⟨_, z, _⟩ | ⟨z1, z2, q⟩
      · cases z
      · cases z
      · rcases plain_at pl2 q with z | ⟨_, z⟩ | ⟨_, z⟩ <;> cases z
    · rcases own2 ij q with ⟨_, y, _⟩ | ⟨z, y, _⟩ | ⟨z1, z2, q⟩
      · cases y
      · cases y
        rw [if_pos z, z]
        refine ⟨fun y hy => ?_, ?_, _, p1, a, xs.set r (.ref ax), b1 ++ (ad2 j ++ b2), rfl, rfl, ?_, ?_⟩
        · simp only [List.mem_cons, List.mem_append] at hy
          rcases hy with hy | hy | hy | hy
          · rw [hy]; exact .inr aO
          · exact .inr (b1O y hy)
          · exact .inl (an2 y hy)
          · exact .inr (b2O y hy)
        · have dO : ∀ y, y ∈ ad2 j → y ∉ O := fun y hy => (m2O y (M2.le y (an2 y hy))).1
          rw [List.nodup_cons, List.nodup_append, List.nodup_append]
          refine ⟨?_, nd2, ⟨nd2', nd4, fun y hy y' hy' e => dO y hy (by rw [e]; exact b2O y' hy')⟩, fun y hy y' hy' e => ?_⟩
          · intro q
            simp only [List.mem_append] at q
            rcases q with q | q | q
            · exact nd1 (by simp [q])
            · exact dO a q aO
            · exact nd1 (by simp [q])
          · rcases List.mem_append.mp hy' with q | q
            · exact dO y' q (by rw [← e]; exact b1O y hy)
            · exact nd6 y hy y' (by simp [q]) e
        · show H2 a = some (.lst (xs.set r (.ref ax)))
          have : xs.set r (.ref ax) = xs := by
            apply List.ext_getElem?
            intro n
            by_cases e : r = n
            · rw [← e, List.getElem?_set_self (List.getElem?_eq_some_iff.mp hx).1, hx]
            · rw [List.getElem?_set_ne e]
          rw [this, keepO a aO]
          exact na
        · rw [same2]
          exact back _ H2 c' (ad2 j) (.ref ax) up (fun y hy => keepO y (hy.elim (b1O y) (b2O y))) w2
      · rw [if_neg z1]
        obtain ⟨h1, h2, x, h3, h4⟩ := E2.ws l t (by rw [List.getElem?_set_ne (Ne.symm z2), List.getElem?_set_ne (Ne.symm z1)]; exact q)
        exact ⟨fun y hy => .inl (h1 y hy), h2, x, h3, by rw [same2]; exact h4⟩
    · rcases set2_cases ij q with ⟨_, z, _⟩ | ⟨z, y, _⟩ | ⟨z1, z2, q⟩
      · cases z
      · rw [if_pos z]
        intro y hy
        simp only [List.mem_cons, List.mem_append] at hy
        rcases hy with hy | hy | hy | hy
        · rw [hy]; exact (OM a aO).2.2
        · exact (OM y (b1O y hy)).2.2
        · exact (m2O y (M2.le y (an2 y hy))).2
        · exact (OM y (b2O y hy)).2.2
      · rw [if_neg z1]
        have := E2.xt l t (by rw [List.getElem?_set_ne (Ne.symm z2), List.getElem?_set_ne (Ne.symm z1)]; exact q)
        exact fun y hy q => this y hy (.inl q)
    · rcases set2_cases ij q with ⟨_, z, _⟩ | ⟨_, z, _⟩ | ⟨z1, z2, q⟩
      · cases z
      · cases z
      · rcases plain_at pl2 q with z | ⟨_, z⟩ | ⟨_, z⟩ <;> cases z
    · obtain ⟨t1, q1⟩ := own_some q1
      obtain ⟨t2, q2⟩ := own_some q2
      have key : ∀ k t, k ≠ i → k ≠ j → own env2[k]? = some t → ∀ y ∈ ad2 k, y ∉ a :: (b1 ++ (ad2 j ++ b2)) := fun k t k1 k2 q y hy m => by
        have o1 : own ((env2.set i (.pn (.ref a))).set j (.tm c'))[k]? = some t := by
          rw [List.getElem?_set_ne (Ne.symm k2), List.getElem?_set_ne (Ne.symm k1)]; exact q
        obtain ⟨h1, _⟩ := E2.ws k t o1
        have nO := (m2O y (M2.le y (h1 y hy))).1
        simp only [List.mem_cons, List.mem_append] at m
        rcases m with m | m | m | m
        · exact nO (by rw [m]; exact aO)
        · exact nO (b1O y m)
        · exact E2.dj k j k2 (own_ne o1) (by rw [l2]; exact fun z => nomatch z) y hy m
        · exact nO (b2O y m)
      intro z hz hz2
      rcases own2 ij q1 with ⟨_, y, _⟩ | ⟨y, _⟩ | ⟨y1, y2, q1⟩
      · cases y
      · rw [if_pos y] at hz
        rcases own2 ij q2 with ⟨_, y', _⟩ | ⟨y', _⟩ | ⟨y3, y4, q2⟩
        · cases y'
        · exact hlk (y.trans y'.symm)
        · rw [if_neg y3] at hz2
          exact key k t2 y3 y4 q2 z hz2 hz
      · rw [if_neg y1] at hz
        rcases own2 ij q2 with ⟨_, y', _⟩ | ⟨y', _⟩ | ⟨y3, y4, q2⟩
        · cases y'
        · rw [if_pos y'] at hz2
          exact key l t1 y1 y2 q1 z hz hz2
        · rw [if_neg y3] at hz2
          have a1 : own ((env2.set i (.pn (.ref a))).set j (.tm c'))[l]? = some t1 := by
            rw [List.getElem?_set_ne (Ne.symm y2), List.getElem?_set_ne (Ne.symm y1)]; exact q1
          have a2 : own ((env2.set i (.pn (.ref a))).set j (.tm c'))[k]? = some t2 := by
            rw [List.getElem?_set_ne (Ne.symm y4), List.getElem?_set_ne (Ne.symm y3)]; exact q2
          exact E2.dj l k hlk (own_ne a1) (own_ne a2) z hz hz2
    · obtain ⟨bd, q, hc⟩ := pin_some q
      rcases set2_cases ij q with ⟨z, y, _⟩ | ⟨z, y, _⟩ | ⟨z1, z2, q⟩
      · rw [y] at hc; rcases hc with ⟨_, e, _⟩ | e <;> cases e
      · rw [y] at hc; rcases hc with ⟨_, e, _⟩ | e <;> cases e
      · rcases plain_at pl2 q with z | ⟨_, z⟩ | ⟨_, z⟩ <;> (rw [z] at hc; rcases hc with ⟨_, e, _⟩ | e <;> cases e)
/-! ### the loop -/
def SDA (K : PySem.W.Frag) (We : WX) (ts : TS) (i j : Nat) (env : List Bd) (c : Tr) (env' : List Bd) (c' : Tr) : Prop := ∀ v : V, SD K We ts ((env.set i (.pn v)).set j (.tm c)) (.nx ((env'.set i (.pn v)).set j (.tm c')))
/-- the rest of the rows, walked from env on -/
def LoopA (B : List Bd → Tr → List Bd → Tr → Prop) (i j : Nat) : List Tr → List Bd → List Tr → List Bd → Prop
  | [], env, us', env' => us' = [] ∧ env' = env
  | c :: us, env, us', env' => (∃ k ts, c = .n k ts) ∧ ∃ c' r env1, us' = c' :: r ∧ env1.all plainB = true ∧ i < env1.length ∧ j < env1.length ∧ B env c env1 c' ∧ LoopA B i j us env1 r env'
theorem sd_forA (ij : i ≠ j) (pl : env.all plainB = true) (il : i < env.length) (jl : j < env.length) {us us' : List Tr} {env' : List Bd} (h : LoopA (SDA K We ts i j) i j us env us' env') : SD K We (tFor (iList K (tVar i)) (gName j) ts) ((env.set i (.tr (.n .l us))).set j .an) (.nx ((env'.set i (.tr (.n .l us'))).set j .an)) := fun X a0 H0 M ad σ H Dn E k => by
  have geti : ∀ (e : List Bd) (t : Tr), i < e.length → ((e.set i (.tr t)).set j .an)[i]? = some (.tr t) := fun e t h => by rw [List.getElem?_set_ne (Ne.symm ij), List.getElem?_set_self h]
  have getj : ∀ (e : List Bd) (t : Tr), j < e.length → ((e.set i (.tr t)).set j .an)[j]? = some .an := fun e t h => List.getElem?_set_self (by simpa using h)
  have plS : ∀ (e : List Bd) (t : Tr), e.all plainB = true → ((e.set i (.tr t)).set j .an).all plainB = true := fun e t h => by
    refine List.all_eq_true.mpr fun b hb => ?_
    rcases List.mem_or_eq_of_mem_set hb with z | z
    · rcases List.mem_or_eq_of_mem_set z with z | z
      · exact List.all_eq_true.mp h b z
      · rw [z]; rfl
    · rw [z]; rfl
  have again : ∀ (e : List Bd) (t t' : Bd) (x y : Bd), (((e.set i t).set j x).set i t').set j y = (e.set i t').set j y := fun e t t' x y => by
    rw [List.set_comm _ _ ij, List.set_set, List.set_comm _ _ (Ne.symm ij), List.set_set]
  obtain ⟨_, _, v, hv, w⟩ := E.ws i _ (by rw [geti env _ il]; rfl)
  obtain ⟨a, xs, rest, rfl, ea, na, wl⟩ := w
  have na : H a = some (.lst xs) := na
  refine ⟨_, hv, a, rfl, ⟨xs, SqL.of na⟩, fun n m σ' H' => ∃ (e : List Bd) (done todo todo' : List Tr) (M' : Msk) (ad' : Nat → List Addr), m = todo.length ∧ done.length = n ∧ us' = done ++ todo' ∧ σ'[i]? = some (some (.ref a)) ∧ e.all plainB = true ∧ i < e.length ∧ j < e.length ∧ LoopA (SDA K We ts i j) i j todo e todo' env' ∧ ER K X a0 H0 M' ad' σ' H' ((e.set i (.tr (.n .l (done ++ todo)))).set j .an), ⟨us.length, env, [], us, us', M, ad, rfl, rfl, rfl, hv, pl, il, jl, h, E⟩, ?_⟩
  rintro n m σ' H' ⟨e, done, todo, todo', M', ad', rfl, rfl, eu, pi, pe, ie, je, L, E'⟩
  cases todo with
  | nil =>
    obtain ⟨rfl, rfl⟩ := L
    obtain ⟨_, _, v, hv, w⟩ := E'.ws i _ (by rw [geti env' _ ie]; rfl)
    rw [pi] at hv
    cases hv
    obtain ⟨a', xs, rest, e1, ea, na, wl⟩ := w
    cases e1
    have na : H' a = some (.lst xs) := na
    refine .inl ⟨⟨xs, SqL.of na, ?_⟩, k M' ad' σ' H' ?_⟩
    · have := OwL.len wl
      rw [List.append_nil] at this
      omega
    · rw [eu]
      exact E'
  | cons c todo =>
    obtain ⟨⟨kc, tc, rfl⟩, c', r, e1, rfl, pl1, i1, j1, hB, L⟩ := L
    have hc : (done ++ Tr.n kc tc :: todo)[done.length]? = some (.n kc tc) := by rw [List.getElem?_append_right (Nat.le_refl _), Nat.sub_self]; rfl
    obtain ⟨a', ax, xs, X1, H1, M1, ad1, p1, na, hx, E1, ret⟩ := E'.borrow (plS e _ pe) (geti e _ ie) (getj e _ je) hc
    rw [pi] at p1
    cases p1
    refine .inr ⟨⟨xs, _, SqL.of na, hx⟩, fun σ2 H2 => ∃ (e : List Bd) (done2 todo2 todo2' : List Tr) (M' : Msk) (ad' : Nat → List Addr), todo.length = todo2.length ∧ done2.length = done.length + 1 ∧ done ++ c' :: r = done2 ++ todo2' ∧ σ2[i]? = some (some (.ref a)) ∧ e.all plainB = true ∧ i < e.length ∧ j < e.length ∧ LoopA (SDA K We ts i j) i j todo2 e todo2' env' ∧ ER K X a0 H0 M' ad' σ2 H2 ((e.set i (.tr (.n .l (done2 ++ todo2)))).set j .an), fun σ2 H2 z => ⟨todo.length, by simp, by rw [eu]; exact z⟩, fun x H2 y => ?_⟩
    obtain ⟨rfl, y⟩ := y
    have hx2 := y xs (SqL.of na)
    rw [hx] at hx2
    cases hx2
    rw [again] at E1
    show ts _ (σ'.set j (some (V.ref ax))) H2
    refine hB (.ref a) X1 ax H1 M1 ad1 _ H2 _ E1 fun M2 ad2 σ2 H3 E2 => ?_
    obtain ⟨p3, M3, ad3, E3⟩ := ret M2 ad2 σ2 H3 e1 c' pl1 i1 j1 E2
    refine ⟨e1, done ++ [c'], todo, r, M3, ad3, rfl, by simp, by simp, p3, pl1, i1, j1, L, ?_⟩
    rw [show (done ++ Tr.n kc tc :: todo).set done.length c' = done ++ [c'] ++ todo by
      rw [List.set_append_right _ _ (Nat.le_refl _), Nat.sub_self, List.set_cons_zero]; simp] at E3
    exact E3
/-! ### .. printed -/
def walkA {α S : Type} (f : S → α → Option (α × S)) : List α → S → Option (List α × S)
  | [], s => some ([], s)
  | x :: xs, s => (f s x).bind fun r => (walkA f xs r.2).bind fun z => some (r.1 :: z.1, z.2)
theorem loop_walkA {α S : Type} {en : α → D} {ev : S → List Bd} {f : S → α → Option (α × S)} (pl : ∀ s, (ev s).all plainB = true) (il : ∀ s, i < (ev s).length) (jl : ∀ s, j < (ev s).length) (hn : ∀ c, ∃ k us, Tr.of (en c) = .n k us)
    (hb : ∀ s c r v, f s c = some r → SD K We ts (((ev s).set i (.pn v)).set j (.mu (en c))) (.nx (((ev r.2).set i (.pn v)).set j (.mu (en r.1))))) :
    ∀ (xs : List α) (s : S) (z : List α × S), walkA f xs s = some z → LoopA (SDA K We ts i j) i j (xs.map fun c => Tr.of (en c)) (ev s) (z.1.map fun c => Tr.of (en c)) (ev z.2)
  | [], s, z, h => by
    have h : some ([], s) = some z := h
    cases h
    exact ⟨rfl, rfl⟩
  | x :: xs, s, z, h => by
    obtain ⟨r, h1, h⟩ := Option.bind_eq_some_iff.mp h
    obtain ⟨z', h2, h⟩ := Option.bind_eq_some_iff.mp h
    have h : some (r.1 :: z'.1, z'.2) = some z := h
    cases h
    exact ⟨hn x, _, _, ev r.2, rfl, pl _, il _, jl _, fun v => hb s x r v h1, loop_walkA pl il jl hn hb xs r.2 z' h2⟩
theorem sd_forAT {α S : Type} {en : α → D} {ev : S → List Bd} {f : S → α → Option (α × S)} {xs : List α} {s : S} {z : List α × S} {envI envO : List Bd} (ij : i ≠ j) (pl : ∀ s, (ev s).all plainB = true) (il : ∀ s, i < (ev s).length) (jl : ∀ s, j < (ev s).length) (hn : ∀ c, ∃ k us, Tr.of (en c) = .n k us)
    (h : walkA f xs s = some z) (hI : ((ev s).set i (.tr (.n .l (xs.map fun c => Tr.of (en c))))).set j .an = envI) (hO : ((ev z.2).set i (.tr (.n .l (z.1.map fun c => Tr.of (en c))))).set j .an = envO)
    (hb : ∀ s c r v, f s c = some r → SD K We ts (((ev s).set i (.pn v)).set j (.mu (en c))) (.nx (((ev r.2).set i (.pn v)).set j (.mu (en r.1))))) :
    SD K We (tFor (iList K (tVar i)) (gName j) ts) envI (.nx envO) := by
  rw [← hI, ← hO]
  exact sd_forA ij (pl s) (il s) (jl s) (loop_walkA pl il jl hn hb xs s z h)
theorem eb_andS {t u : TT} {p : Bool} {b c : Bool} (h : EvB K false t env env b) (h1 : b = true → EvB K false u env env' c) (h2 : b = false → c = false ∧ env' = env) : EvB K false (tAnd t u) env env' c := fun X a0 H0 M ad σ H Q E k =>
  h X a0 H0 M ad σ H _ E fun H1 E1 e1 p1 => by
    cases b with
    | true => exact h1 rfl X a0 H0 M ad σ H1 Q E1 fun H2 E2 e2 p2 => k H2 E2 (e1.trans e2) fun z => nomatch z
    | false =>
      obtain ⟨rfl, rfl⟩ := h2 rfl
      exact k H1 E1 e1 fun z => nomatch z
theorem sd_setMuT {α : Type} {f : α → D} {xs : List α} {v : α} {n : Int} {te ti : TE} {p : Bool} {r : Nat} (hj : ixN xs.length n = some r) (h : env''[i]? = some (.mu (.lst (xs.map f)))) (h0 : env'[i]? = some (.mu (.lst (xs.map f)))) (he : EvD K .l2 p te env env' (f v)) (hi : EvD K .l2 true ti env' env'' (.int n)) :
    SD K We (tAsg te (gSub (tVar i) ti rSetL)) env (.nx (env''.set i (.mu (.lst ((xs.set r v).map f))))) := by
  have := sd_setMu (We := We) h h0 he hi (by rw [List.length_map]; exact hj)
  rw [List.map_set]
  exact this
end
end Pw
/-! QTg: lists comprehended over two clauses -/
namespace Pw
open PySem L2
section
variable {K : PySem.W.Frag} {We : WX} {X : Addr → Prop} {a0 : Addr} {H0 : Hp} {M M' : Msk} {ad ad' : Nat → List Addr} {σ σ' τ : St} {H H' H1 : Hp} {env env' env'' : List Bd} {l l' l1 : Lv} {p q : Bool} {d d' e : D} {ta tb te ti tv : TE} {i j r : Nat} {b c : Bool} {ts tu : TS} {o : Out} {Dn : Ends} {tsA : TA} {g g1 : TG} {vs vs1 : List Nat} {Dl : Addr} {tt : TT}
/-- one turn that lays one item and changes nothing else -/
structure TurnL (K : PySem.W.Frag) (l : Lv) (g : TG) (te : TE) (vs : List Nat) (d : D) (env : List Bd) (y : D) : Prop where
  go : ∃ envt, TgD K l g d env envt ∧ EvD K .l2 true te envt envt y ∧ (vs.all fun v => !isMu envt[v]?) = true ∧ env = wipeE envt vs
theorem walk_app (hl : l.lp = true) {J : It} {ds ys acc0 : List D} {xs0 : List V} {B H4 : Hp} {Fin : Hp → Prop} (nM : ¬ M.m Dl) (bD : B Dl = none) (it : ItOk K J ds (mx l X) B) (hw : TgW g vs)
    (hlen : ys.length = ds.length) (hn : acc0.length + ds.length < 100000) (turn : ∀ (i : Nat) d y, ds[i]? = some d → ys[i]? = some y → TurnL K l g te vs d env y)
    (E : ER K X a0 B (M.hide Dl) ad (wipe τ vs) H4 env) (hD : H4 Dl = some (.lst xs0)) (hr : RpL K (hid (fun b => (M.hide Dl).m b ∨ X b) H4) acc0 xs0)
    (fin : ∀ H xs, ER K X a0 B (M.hide Dl) ad (wipe τ vs) H env → Ex (hid (fun b => b = Dl) H4) H → H Dl = some (.lst xs) → RpL K (hid (fun b => (M.hide Dl).m b ∨ X b) H) (acc0 ++ ys) xs → Fin H) :
    ∃ W : Nat → Nat → Hp → Prop, (∃ m, W 0 m H4) ∧ ∀ i m Hc, W i m Hc →
      (J.stop i Hc ∧ Fin Hc) ∨ (J.go i Hc ∧ ∃ Nx : Hp → Prop, (∀ Hn, Nx Hn → ∃ m1, m1 < m ∧ W (i + 1) m1 Hn) ∧ ∀ x Hn, J.yld i Hc x Hn → g x (wipe τ vs) Hn fun σ2 H2 => wipe σ2 vs = wipe τ vs ∧ tYes σ2 H2 fun b H3 => if b = true then te σ2 H3 fun y H7 => ∃ acc, H7 Dl = some (.lst acc) ∧ acc.length < sizeLine ∧ Nx (upd H7 Dl (.lst (acc ++ [y]))) else Nx H3) := by
  let P : Nat → Hp → Prop := fun i H => ∃ xs, ER K X a0 B (M.hide Dl) ad (wipe τ vs) H env ∧ Ex (hid (fun b => b = Dl) H4) H ∧ H Dl = some (.lst xs) ∧ RpL K (hid (fun b => (M.hide Dl).m b ∨ X b) H) (acc0 ++ ys.take i) xs
  refine ⟨fun i m H => m = ds.length - i ∧ i ≤ ds.length ∧ P i H, ⟨ds.length, by simp, Nat.zero_le _, xs0, E, hid_all, hD, by simpa using hr⟩, ?_⟩
  rintro i m H ⟨rfl, hle, xs, Ei, exi, hDi, hri⟩
  obtain ⟨it1, it2⟩ := it i H Ei.ex
  by_cases hlt : i < ds.length
  · refine .inr ?_
    have hd : ds[i]? = some ds[i] := List.getElem?_eq_getElem hlt
    have hp : ys[i]? = some ys[i] := List.getElem?_eq_getElem (by omega)
    obtain ⟨go, yl⟩ := it1 _ hd
    obtain ⟨envt, hT, hV, hmu, henv⟩ := (turn i _ _ hd hp).go
    refine ⟨go, P (i + 1), fun Hn n => ⟨ds.length - (i + 1), by omega, rfl, hlt, n⟩, fun x H2 y => ?_⟩
    obtain ⟨gx, E2, r2⟩ := turn_in hl Ei (yl x H2 y)
    refine hw.mono _ _ _ _ _ (fun σ3 H3 z => ⟨z.1.trans wipe_wipe, z.2 (z.1.trans wipe_wipe)⟩) (hw.w x (L2.wipe τ vs) H2 (fun σ3 H3 => L2.wipe σ3 vs = L2.wipe τ vs → _) ?_)
    refine hT X a0 _ _ ad _ H2 x _ E2 r2 fun σ3 E3 hσ => ?_
    show te σ3 H2 _
    refine hV X a0 _ _ ad σ3 H2 _ E3 fun v H6 E6 e6 p6 r6 => ?_
    have g6 : Ex H H6 := gx.trans (p6 rfl)
    have hD6 := g6 _ _ hDi
    have hri6 := RpL.mono (hid_ex g6) _ _ hri
    have hz : xs.length < sizeLine := by
      rw [hri.length, List.length_append]
      have a2 : (ys.take i).length ≤ ds.length := by rw [List.length_take]; omega
      exact Nat.lt_of_le_of_lt (Nat.add_le_add_left a2 _) (Nat.lt_of_lt_of_le hn (by decide))
    refine ⟨xs, hD6, hz, xs ++ [v], ?_, fun b u hb => ?_, upd_same, ?_⟩
    · have E7 := ((E6.wipe hmu).1).updHid bD nM (o := .lst (xs ++ [v])) (fun xs e => by cases e)
      rw [hσ, ← henv] at E7
      exact E7
    · obtain ⟨z1, z2⟩ := of_hid hb
      rw [upd_ne z1]
      exact g6 _ _ (exi b u hb)
    · rw [List.take_add_one, hp, show hid (fun b => (M.hide Dl).m b ∨ X b) (upd H6 Dl (.lst (xs ++ [v]))) = hid (fun b => (M.hide Dl).m b ∨ X b) H6 from hid_upd (.inl (.inr rfl)), ← List.append_assoc]
      exact RpL.append hri6 (RpL.one r6)
  · have e : i = ds.length := by omega
    subst e
    refine .inl ⟨it2 (Nat.le_refl _), fin H xs Ei exi hDi ?_⟩
    rw [← hlen, List.take_length] at hri
    exact hri
/-- a turn of the outer walk: a test, the inner items and what they lay -/
structure TurnL2 (K : PySem.W.Frag) (l l1 : Lv) (g g1 : TG) (tt : TT) (wi1 : TI) (te : TE) (vs vs1 : List Nat) (d : D) (env : List Bd) (ys : List D) : Prop where
  go : ∃ envt b, TgD K l g d env envt ∧ EvB K true tt envt envt b ∧ (vs.all fun v => !isMu envt[v]?) = true ∧ env = wipeE envt vs ∧ (b = false → ys = []) ∧ (b = true → ∃ ds1, EvI K l1 true wi1 envt envt ds1 ∧ (∀ v ∈ vs1, envt[v]? = some .an) ∧ ys.length = ds1.length ∧
    ∀ (i : Nat) d y, ds1[i]? = some d → ys[i]? = some y → TurnL K l1 g1 te vs1 d envt y)
theorem ef_lc2 (hl : l.lp = true) (hl1 : l1.lp = true) {wi wi1 : TI} {ds : List D} {pss : List (List D)} (hi : EvI K l true wi env env ds) (hw : TgW g vs) (hw1 : TgW g1 vs1) (inn : ∀ i ∈ vs1, i ∈ vs) (han : ∀ v ∈ vs, env[v]? = some .an)
    (hlen : pss.length = ds.length) (hn : ds.length ≤ 100) (hn1 : ∀ ps ∈ pss, ps.length ≤ 100)
    (turn : ∀ (i : Nat) d ps, ds[i]? = some d → pss[i]? = some ps → TurnL2 K l l1 g g1 tt wi1 te vs vs1 d env ps) : EvF K true (tLc2 wi g tt wi1 g1 tYes te vs vs1) env env (.lst pss.flatten) := fun X a0 H0 M ad σ H Q E k =>
  hi X a0 H0 M ad σ H _ E fun J H1 E1 e1 p1 it => fun Dl hD => by
    have g0 : Ex H1 (upd H1 Dl (.lst [])) := Ex.new hD
    have nM : ¬ M.m Dl := fun z => (E1.min _ z).1 hD
    have nX : ¬ X Dl := fun z => (E1.has z).1 hD
    have bD : (hid M.m H1) Dl = none := by rw [hid_out nM]; exact hD
    have σan : ∀ (j : Nat) b, env[j]? = some b → b = .an ∨ (wipe σ vs)[j]? = σ[j]? := fun j b hb => by
      by_cases m : j ∈ vs
      · rw [han j m] at hb; exact .inl (Option.some.inj hb).symm
      · rw [wipe_get, if_neg fun z => m z.1]; exact .inr rfl
    have E1w : ER K X a0 (hid M.m H1) M ad (wipe σ vs) H1 env := (E1.rebase).anyAt (wipe_length _ _) σan
    have ES : ER K X a0 (hid M.m H1) (M.hide Dl) ad (wipe σ vs) (upd H1 Dl (.lst [])) env := E1w.mask hD g0 (by rw [upd_same]; exact ⟨by simp, by simp⟩)
    have ne1 : ∀ b o, H1 b = some o → b ≠ Dl := fun b o h z => by rw [z, hD] at h; cases h
    let P : Nat → Hp → Prop := fun i Hi => ∃ xs, ER K X a0 (hid M.m H1) (M.hide Dl) ad (wipe σ vs) Hi env ∧ Ex H1 (hid (fun b => b = Dl) Hi) ∧ Hi Dl = some (.lst xs) ∧ RpL K (hid (fun b => (M.hide Dl).m b ∨ X b) Hi) (pss.take i).flatten xs
    refine ⟨fun i m Hi => m = ds.length - i ∧ i ≤ ds.length ∧ P i Hi, ⟨ds.length, by simp, Nat.zero_le _, [], ES, fun b o h => by
      have n := ne1 b o h
      rw [hid1 n, upd_ne n]; exact h, upd_same, rfl⟩, ?_⟩
    rintro i m Hi ⟨rfl, hle, xs, Ei, exi, hDi, hri⟩
    obtain ⟨it1, it2⟩ := it i Hi Ei.ex
    by_cases hlt : i < ds.length
    · refine .inr ?_
      have hd : ds[i]? = some ds[i] := List.getElem?_eq_getElem hlt
      have hp : pss[i]? = some pss[i] := List.getElem?_eq_getElem (by omega)
      obtain ⟨go, yl⟩ := it1 _ hd
      obtain ⟨envt, b, hT, hC, hmu, henv, hno, hyes⟩ := (turn i _ _ hd hp).go
      refine ⟨go, P (i + 1), fun Hn n => ⟨ds.length - (i + 1), by omega, rfl, hlt, n⟩, fun x H2 y => ?_⟩
      obtain ⟨gx, E2, r2⟩ := turn_in hl Ei (yl x H2 y)
      refine hw.mono _ _ _ _ _ (fun σ3 H3 z => ⟨z.1.trans wipe_wipe, z.2 (z.1.trans wipe_wipe)⟩) (hw.w x (L2.wipe σ vs) H2 (fun σ3 H3 => L2.wipe σ3 vs = L2.wipe σ vs → _) ?_)
      refine hT X a0 _ _ ad _ H2 x _ E2 r2 fun σ3 E3 hσ => ?_
      refine hC X a0 _ _ ad σ3 H2 _ E3 fun H3 E3b e3 p3 => ?_
      have g3 : Ex Hi H3 := gx.trans (p3 rfl)
      cases b with
      | false =>
        rw [if_neg (by simp)]
        have hys := hno rfl
        have E6 := (E3b.wipe hmu).1
        rw [hσ, ← henv] at E6
        refine ⟨xs, E6, fun b u hb => ?_, g3 _ _ hDi, ?_⟩
        · have n := ne1 b u hb
          have := exi b u hb
          rw [hid1 n] at this ⊢
          exact g3 _ _ this
        · rw [List.take_add_one, hp, hys]
          simp only [Option.toList_some, List.flatten_append, List.flatten_cons, List.flatten_nil, List.append_nil]
          exact RpL.mono (hid_ex g3) _ _ hri
      | true =>
        rw [if_pos rfl]
        obtain ⟨ds1, hI1, han1, hlen1, turn1⟩ := hyes rfl
        refine hI1 X a0 _ _ ad σ3 H3 _ E3b fun J1 H4 E4 e4 p4 itn => ?_
        have g4 : Ex Hi H4 := g3.trans (p4 rfl)
        have hD4 := g4 _ _ hDi
        have σan1 : ∀ (j : Nat) b, envt[j]? = some b → b = .an ∨ (wipe σ3 vs1)[j]? = σ3[j]? := fun j b hb => by
          by_cases m : j ∈ vs1
          · rw [han1 j m] at hb; exact .inl (Option.some.inj hb).symm
          · rw [wipe_get, if_neg fun z => m z.1]; exact .inr rfl
        have E4w := (E4.rebase).anyAt (wipe_length σ3 vs1) σan1
        have bD4 : (hid (M.hide Dl).m H4) Dl = none := hid_in (m := (M.hide Dl).m) (.inr rfl)
        have small : (pss.take i).flatten.length + ds1.length < 100000 := by
          have a2 : (pss.take i).flatten.length ≤ i * 100 := by
            have : ∀ (n : Nat) (qs : List (List D)), (∀ q ∈ qs, q.length ≤ 100) → (qs.take n).flatten.length ≤ n * 100 := fun n => by
              induction n with
              | zero => intro qs _; simp
              | succ n ih =>
                intro qs hq
                cases qs with
                | nil => simp
                | cons q qs =>
                  have := ih qs fun z hz => hq z (List.mem_cons_of_mem _ hz)
                  have := hq q List.mem_cons_self
                  rw [List.take_succ_cons, List.flatten_cons, List.length_append]
                  omega
            exact this i pss hn1
          have a3 := hn1 _ (List.getElem_mem (show i < pss.length by omega))
          omega
        refine walk_app hl1 (B := hid (M.hide Dl).m H4) (xs0 := xs) (acc0 := (pss.take i).flatten) nM bD4 itn hw1 hlen1 small turn1 E4w hD4 (RpL.mono (hid_ex g4) _ _ hri) fun H' xs' E' ex' hD' hr' => ?_
        have E5 := E4.back E'
        have E6 := (E5.wipe hmu).1
        rw [wipe_sub inn, hσ, ← henv] at E6
        refine ⟨xs', E6, fun b u hb => ?_, hD', ?_⟩
        · have n := ne1 b u hb
          have := exi b u hb
          rw [hid1 n] at this ⊢
          exact ex' b u (by rw [hid1 n]; exact g4 _ _ this)
        · rw [List.take_add_one, hp]
          simp only [Option.toList_some, List.flatten_append, List.flatten_cons, List.flatten_nil, List.append_nil]
          exact hr'
    · have e : i = ds.length := by omega
      subst e
      refine .inl ⟨it2 (Nat.le_refl _), ?_⟩
      rw [← hlen, List.take_length] at hri
      have back := (Ei.unhide bD nM nX)
      have EF : ER K X a0 (hid M.m H1) M ad σ (hid (fun b => b = Dl) Hi) env := back.anyAt (wipe_length _ _).symm fun j b hb => by
        by_cases m : j ∈ vs
        · rw [han j m] at hb; exact .inl (Option.some.inj hb).symm
        · rw [wipe_get, if_neg fun z => m z.1]; exact .inr rfl
      refine k Dl (hid (fun b => b = Dl) Hi) Hi (hid_in (m := fun b => b = Dl) rfl) (fun b o hb => ?_) (E1.back EF) hid_all (e1.trans (hid_ex exi)) (fun z => (p1 z).trans exi) ⟨xs, hDi, by rw [← hid_hide nM nX]; exact hri⟩
      rw [exi b o ((p1 rfl) b o hb)]; simp
end
end Pw
/-! QTh: dict() of a list of pairs whose keys are tuples -/
namespace Pw
open PySem PySem.Spec PyProof.Rows L2
section
variable {X : Cx}
/-- what dict() is given: pairs (tuple, value), the tuples all different -/
def PairsT (H : Hp) (p : Addr × Addr) (kv : List Key × V) : Prop := H p.1 = some (.tup [.ref p.2, kv.2]) ∧ H p.2 = some (.tup (kv.1.map kV))
def rDictPT (K : PySem.W.Frag) : List V → Hp → VK → Prop := fun xs H Q => ∃ (a : Addr) (ps : List (Addr × Addr)) (kvs : List (List Key × V)), xs = [.ref a] ∧ SqL K H a ((ps.map (·.1)).map V.ref) ∧ Paired (PairsT H) ps kvs ∧ (kvs.map (·.1)).Nodup ∧
  ∀ p, H p = none → Q (.ref p) (upd H p (.dT kvs))
theorem pairsT_of {pins : List (Addr × Obj)} {σ : L2.St} {H : Hp} {s : Shared} (I : L2.Inv X pins σ H s) : ∀ {ps : List (Addr × Addr)} {kvs : List (List Key × V)}, Paired (PairsT H) ps kvs →
    ∃ xs : List (List Key × Addr × Value), KT H kvs xs ∧ xs.length = ps.length ∧ ∀ (j : Nat) (q : List Key × Addr × Value), xs[j]? = some q → ∃ b, ps[j]? = some b ∧ s.heap.IsTuple b.1 #[.ref q.2.1, q.2.2] ∧ (tupleKind (mixKind X.prog X.w)).is s.heap q.1 q.2.1
  | _, _, .nil => ⟨[], .nil, rfl, fun j q e => by simp at e⟩
  | _, _, .cons (a := p) (b := kv) h t => by
    obtain ⟨xs, r, hl, hp⟩ := pairsT_of I t
    obtain ⟨_, its, rv, o, ho, hc, n, hd⟩ := (show ObjOk X.prog X.w H s.heap p.1 (.tup [.ref p.2, kv.2]) from I.hok p.1 _ h.1)
    obtain ⟨u, y, ei, ru, ry⟩ := vals2 rv
    subst ei
    cases (show u = Value.ref p.2 from ru)
    refine ⟨(kv.1, p.2, y) :: xs, .cons ⟨rfl, h.2, ry⟩ r, by rw [List.length_cons, List.length_cons, hl], fun j q e => ?_⟩
    cases j with
    | zero =>
      have e' : (kv.1, p.2, y) = q := Option.some.inj e
      subst e'
      exact ⟨p, rfl, ⟨o, ho, hc, n, hd⟩, key_of I.hok h.2⟩
    | succ j => exact hp j q (by simpa using e)
theorem call_dictPT (hcalm : X.calm = true) (hu : X.A.units + 64 < cLine) : CallR X (.type "dict") (rDictPT X.K) := by
  intro pins s σ H xs us Q I r q
  obtain ⟨a, ps, kvs, ex, hq, hp, nd, q⟩ := q
  subst ex
  obtain ⟨u, eu, rx⟩ := vals1 r
  subst eu
  cases rx
  obtain ⟨its, rv, pl, hz⟩ := I.list hq
  have ei := refs_at rv
  subst ei
  rw [List.length_map, List.length_map] at hz
  obtain ⟨xs, rel, hl, hpr⟩ := pairsT_of I hp
  obtain ⟨o, n, ho, hc, hd, hdat⟩ := pl
  have kl : kvs.length = xs.length := Paired.length rel
  have keys : xs.map (·.1) = kvs.map (·.1) := by
    clear hpr hl kl nd q hp
    induction rel with
    | nil => rfl
    | cons h _ ih => rw [List.map_cons, List.map_cons, h.1, ih]
  have P := PairArg.list (prog := X.prog) (w := X.w) a ((ps.map (·.1)).map Value.ref).toArray (fun j => ((ps.map (·.1))[j]?).getD 0) (xs.map fun x => (Value.ref x.2.1, x.2.2))
  refine call_dict_pairsH (knd := tupleKind (mixKind X.prog X.w)) (ps := xs) P (I.ok.hd hcalm) (show X.A.in1.in1.units < cLine from by show X.A.units + 1 + 1 < cLine; omega) ⟨⟨o, n, ho, hc, hd, hdat⟩, ?_, fun j k v e => ?_⟩ ⟨by rw [List.length_map], fun i key v e => ?_⟩ (fun h' hk x hx => ?_) (by rw [List.length_map, hl]; exact hz) fun h' tk hd' k => ?_
  · simp [hl]
  · rw [List.getElem?_map] at e
    obtain ⟨x, hx, e⟩ := Option.map_eq_some_iff.mp e
    cases e
    obtain ⟨b, e1, e2, _⟩ := hpr j x hx
    have e3 : (ps.map (·.1))[j]? = some b.1 := by rw [List.getElem?_map, e1]; rfl
    refine ⟨?_, .inl ?_⟩
    · simp [e1]
    · show s.heap.IsTuple (((ps.map (·.1))[j]?).getD 0) _
      rw [e3]
      exact e2
  · have e : (xs.map fun x => (Value.ref x.2.1, x.2.2))[i]? = some (key, v) := e
    rw [List.getElem?_map] at e
    obtain ⟨x, hx, e⟩ := Option.map_eq_some_iff.mp e
    cases e
    exact ⟨x.1, x.2.1, hx, rfl⟩
  · obtain ⟨j, hj⟩ := List.getElem?_of_mem hx
    obtain ⟨b, _, _, o', its', n', h1, h2, h3, h4⟩ := hpr j x hj
    exact ⟨o', its', n', hk _ _ (Nat.ne_of_lt (Heap.lt_size h1)) (fun z => nomatch z) h1, h2, h3, h4⟩
  · have hm : (s.heap.objs.size == sysModules) = false := beq_eq_false_iff_ne.mpr (Nat.ne_of_gt I.big)
    rw [storedAllH_nil_of_nodup xs (by rw [keys]; exact nd)] at hd'
    obtain ⟨od, es, ep, h1, h2, h3, h4, _, h5⟩ := hd'
    refine ⟨.ref s.heap.objs.size, upd H s.heap.objs.size (.dT kvs), I.laid (t' := tk) (fun b o e => k b o (fun z => nomatch z) e) (Nat.le_refl _) (show ObjOk X.prog X.w _ _ _ (.dT kvs) from ⟨by rw [kl, hl]; exact hz, hm, xs, rel.keeps fun c ys ec => ?_, od, es, ep, h1, h2, h3, h4, h5⟩), rfl, q _ (I.hok.fresh (Nat.le_refl _))⟩
    rw [upd_ne fun z => by rw [z, I.hok.fresh (Nat.le_refl _)] at ec; cases ec]
    exact ec
end
section
variable {K : PySem.W.Frag} {env env' : List Bd} {l : Lv} {p : Bool} {ta : TA}
theorem dictPTK {X : Cx} (h : X.K = K) (hcalm : X.calm = true) (hu : X.A.units + 64 < cLine) : CallR X (.type "dict") (rDictPT K) := h ▸ call_dictPT hcalm hu
theorem rp_keyD {B : Hp} {k : Key} {v : V} (h : Rp K B (keyD k) v) : v = kV k := by cases k <;> exact h
theorem rplkD {B : Hp} : ∀ {ks : List Key} {xs : List V}, RpL K B (ks.map keyD) xs → xs = ks.map kV
  | [], xs, h => h
  | k :: ks, xs, h => by
    obtain ⟨x, r, e, h1, h2⟩ := h
    rw [e, rp_keyD h1, rplkD h2]
    rfl
theorem pairs_ex {B : Hp} : ∀ {l1 : List (List Key × D)} {xs : List V}, RpL K B (l1.map fun z => .tup [.tup (z.1.map keyD), z.2]) xs → ∃ (ps : List (Addr × Addr)) (kvs : List (List Key × V)), xs = (ps.map (·.1)).map V.ref ∧ Paired (PairsT B) ps kvs ∧ kvs.map (·.1) = l1.map (·.1) ∧ RpL K B (l1.map (·.2)) (kvs.map (·.2))
  | [], xs, h => ⟨[], [], h, .nil, rfl, rfl⟩
  | z :: l1, xs, h => by
    obtain ⟨x, r, e, h1, h2⟩ := h
    obtain ⟨ps, kvs, e1, p, e2, r2⟩ := pairs_ex h2
    obtain ⟨T, ws, ex, hT, w⟩ := h1
    obtain ⟨y1, r1, ew, g1, g2⟩ := w
    obtain ⟨y2, r3, ew2, g3, g4⟩ := g2
    have g4 : r3 = [] := g4
    obtain ⟨q, kw, ey, hq, g5⟩ := g1
    rw [rplkD g5] at hq
    subst ey
    rw [ew, ew2, g4] at hT
    refine ⟨(T, q) :: ps, (z.1, y2) :: kvs, by rw [e, ex, e1]; rfl, .cons ⟨hT, hq⟩ p, by rw [List.map_cons, List.map_cons, e2], ⟨y2, _, rfl, g3, r2⟩⟩
theorem zip_back {α β : Type} : ∀ (kvs : List (α × β)), (kvs.map (·.1)).zip (kvs.map (·.2)) = kvs
  | [] => rfl
  | z :: kvs => by rw [List.map_cons, List.map_cons, List.zip_cons_cons, zip_back kvs]
/-- dict(xs), read -/
theorem ef_dictP {l1 : List (List Key × D)} (hn : (l1.map (·.1)).Nodup) (h : EvA K .l2 p ta env env' [.lst (l1.map fun z => .tup [.tup (z.1.map keyD), z.2])]) : EvF K p (tCB (rDictPT K) ta) env env' (dtL l1) := fun X a0 H0 M ad σ H Q E k =>
  h X a0 H0 M ad σ H _ E fun us H1 E1 e1 p1 r1 => by
    obtain ⟨x, rfl, a, xs, rfl, h1, h2⟩ := r1.one'
    obtain ⟨ps, kvs, rfl, pr, ek, rv⟩ := pairs_ex h2
    refine ⟨a, ps, kvs, rfl, ex_l hid_all h1, Paired.mapP pr fun p kv z => ⟨hid_all _ _ z.1, hid_all _ _ z.2⟩, by rw [ek]; exact hn, fun c hc => ?_⟩
    refine k c H1 _ hc (stays E E1 e1) E1 (Ex.new hc) e1 p1 ⟨kvs.map (·.2), ?_, by simp, ?_⟩
    · rw [upd_same, ← ek, zip_back]
    · exact rv
/-- printed: the keys are pairs of whole numbers -/
theorem ef_dictPT {α : Type} {f : α → D} {l1 : List ((Int × Int) × α)} (hn : (l1.map (·.1)).Nodup) (h : EvA K .l2 p ta env env' [.lst (l1.map fun z => .tup [.tup [.int z.1.1, .int z.1.2], f z.2])]) : EvF K p (tCB (rDictPT K) ta) env env' (dtL ((l1.map fun z => (([z.1.1, z.1.2] : List Int), z.2)).map fun z => ((z.1.map Sum.inl : List Key), f z.2))) := by
  refine ef_dictP ?_ ?_
  · rw [List.map_map, List.map_map]
    refine List.pairwise_map.mpr ((List.pairwise_map.mp hn).imp fun {a b} ne e => ne ?_)
    have e : ([Sum.inl a.1.1, Sum.inl a.1.2] : List Key) = [Sum.inl b.1.1, Sum.inl b.1.2] := e
    have e1 := (List.cons.inj e).1
    have e2 := (List.cons.inj (List.cons.inj e).2).1
    injection e1 with e1
    injection e2 with e2
    exact Prod.ext e1 e2
  · rw [List.map_map, List.map_map]
    exact h
end
end Pw
/-! QTi: the end of a tuple -/
namespace Pw
open PySem L2
section
variable {K : PySem.W.Frag} {env env' : List Bd} {l : Lv} {p : Bool} {te tl : TE} {tsA : TA}
theorem ev_slT3 {l1 : Lv} {ds : List D} {m : Nat} (h : EvD K l p te env env' (.tup ds)) (h1 : EvD K l1 true tl env' env' (.int (m : Int))) (hm : 0 < m ∧ m ≤ ds.length) : EvD K l p (tSl (rSlT K) te (tPart tl) tNoPart) env env' (.tup (ds.drop m)) := fun X a0 H0 M ad σ H Q E k =>
  h X a0 H0 M ad σ H _ E fun x H1 E1 e1 p1 r1 => h1 X a0 H0 M ad σ H1 _ E1 fun z H2 E2 e2 p2 rz => ⟨_, rz, by
    obtain ⟨a, xs, rfl, h3, h4⟩ := r1
    have hl : xs.length = ds.length := h4.length
    have s1 : HT.sIx xs.length 0 (some (m : Int)) = m := by rw [HT.sIx_nat]; omega
    have ec : cutV xs (some (m : Int)) none = xs.drop m := by
      unfold cutV
      rw [s1, HT.sIx_none, ← List.length_drop, List.take_length]
    refine ⟨a, xs, rfl, ex_s (hid_all.trans (p2 rfl)) h3, fun z => ?_, fun c hc => ?_⟩
    · rw [s1] at z
      omega
    · rw [ec]
      have g : Ex H2 (upd H2 c (.tup (xs.drop m))) := Ex.new hc
      refine k _ _ (E2.grow g) ((e1.trans e2).trans (hid_ex g)) (fun q => ((p1 q).trans (p2 rfl)).trans g) ⟨c, _, rfl, ?_, RpL.mono ((hid_ex (p2 rfl)).trans (hid_ex g)) _ _ (h4.drop m)⟩
      rw [hid_out (fresh_mk E2 hc), upd_same]⟩
/-! ### sorted() of tuples of tuples -/
def sortW {α : Type} (pd : α → PyData) (xs : List α) : Option (List α) := if xs.length ≤ 100000 then some (xs.mergeSort (PySem.W.dataLe false pd)) else none
theorem rp_zipW {α : Type} {f : α → D} {B : Hp} : ∀ {ks : List α} {ys : List V}, RpL K B (ks.map f) ys → ∀ b ∈ ys.zip ks, Rp K B (f b.2) b.1
  | [], ys, h, b, hb => by simp at hb
  | k :: ks, ys, h, b, hb => by
    obtain ⟨y, r, e, h1, h2⟩ := h
    subst e
    rcases List.mem_cons.mp hb with z | z
    · rw [z]; exact h1
    · exact rp_zipW h2 b z
theorem rp_fstW {α : Type} {f : α → D} {B : Hp} : ∀ (zs : List (V × α)), (∀ b ∈ zs, Rp K B (f b.2) b.1) → RpL K B (zs.map fun b => f b.2) (zs.map (·.1))
  | [], _ => rfl
  | b :: zs, h => ⟨b.1, _, rfl, h b (by simp), rp_fstW zs fun c hc => h c (by simp [hc])⟩
theorem ef_sortW {α : Type} {f : α → D} {pd : α → PyData} {n : Nat} {xs zs : List α} (o : OrdD n f pd) (hn : n ≤ 59) (ht : ∀ x, ∃ y r, pd x = .tuple (y :: r)) (hs : sortW pd xs = some zs) (h : EvA K .l2 p tsA env env' [.lst (xs.map f)]) : EvF K p (tCB (rSortD K) tsA) env env' (.lst (zs.map f)) := by
  unfold sortW at hs
  by_cases hl100 : xs.length ≤ 100000
  · rw [if_pos hl100] at hs
    cases hs
    intro X a0 H0 M ad σ H Q E k
    refine h X a0 H0 M ad σ H _ E fun us H1 E1 e1 p1 r1 => ?_
    obtain ⟨x, rfl, a, ys, rfl, h1, h2⟩ := r1.one'
    have hl : ys.length = xs.length := by rw [h2.length]; simp
    refine ⟨a, ys, xs.map pd, rfl, ex_l hid_all h1, DpAM hid_all (dp_map o h2), ?_, .inl fun d hd => ?_, fun d hd => ?_, by simpa using hl100, fun c hc => ?_⟩
    · intro x hx y hy
      obtain ⟨a, _, rfl⟩ := List.mem_map.mp hx
      obtain ⟨b, _, rfl⟩ := List.mem_map.mp hy
      exact o.alk a b
    · obtain ⟨z, _, rfl⟩ := List.mem_map.mp hd
      exact ht z
    · obtain ⟨z, _, rfl⟩ := List.mem_map.mp hd
      exact Nat.le_trans (o.dep z) (by omega)
    · refine k c H1 _ hc (stays E E1 e1) E1 (Ex.new hc) e1 p1 ⟨_, upd_same, ?_⟩
      have z1 : ys.zip (xs.map pd) = (ys.zip xs).map fun b => (b.1, pd b.2) := by
        rw [List.zip_map_right]
        rfl
      have s1 : ((ys.zip (xs.map pd)).mergeSort (PySem.W.dataLe false (·.2))) = ((ys.zip xs).mergeSort fun b c => PySem.W.dataLe false pd b.2 c.2).map fun b => (b.1, pd b.2) := by
        rw [z1, List.map_mergeSort]
        intro b _ c _
        rfl
      have s2 : ((ys.zip xs).mergeSort fun b c => PySem.W.dataLe false pd b.2 c.2).map (·.2) = xs.mergeSort (PySem.W.dataLe false pd) := by
        rw [List.map_mergeSort (s := PySem.W.dataLe false pd) (fun b _ c _ => rfl), List.map_snd_zip (by omega)]
      have s3 : ((ys.zip (xs.map pd)).mergeSort (PySem.W.dataLe false (·.2))).map (·.1) = ((ys.zip xs).mergeSort fun b c => PySem.W.dataLe false pd b.2 c.2).map (·.1) := by
        rw [s1, List.map_map]
        rfl
      have s4 : (xs.mergeSort (PySem.W.dataLe false pd)).map f = ((ys.zip xs).mergeSort fun b c => PySem.W.dataLe false pd b.2 c.2).map fun b => f b.2 := by
        rw [← s2, List.map_map]
        rfl
      rw [s3, s4]
      exact rp_fstW _ fun b hb => rp_zipW h2 b ((List.mergeSort_perm _ _).mem_iff.mp hb)
  · rw [if_neg hl100] at hs; cases hs
theorem eqv_optT {α : Type} {n : Nat} {f : α → List D} : EqvL n f → Eqv (n + 1) (encO fun x => D.tup (f x)) := fun ⟨ps, g1, g2, g3⟩ =>
  ⟨fun o => match o with | none => .none | some x => .tuple (ps x), fun o K H v h => by
    cases o with
    | none => have h : v = V.non := h; subst h; exact .non
    | some x => obtain ⟨a, xs, e, q1, q2⟩ := h; subst e; exact .tup (SqT.of q1) (g1 x K H xs q2),
  fun o => by
    cases o with
    | none => exact ⟨rfl, by simp [PyData.depth]⟩
    | some x => exact ⟨(g2 x).1, by have := (g2 x).2; simp only [PyData.depth]; omega⟩,
  fun x y => by
    cases x <;> cases y
    · simp [PyData.eqv]
    · simp [PyData.eqv]
    · simp [PyData.eqv]
    · simp only [PyData.eqv, g3, Option.some.injEq]⟩
end
end Pw
/-! QTj: errors of one's own: their __init__, their raising -/
namespace Pw
open PySem L2
section
variable {K : PySem.W.Frag} {We : WX} {X : Addr → Prop} {a0 : Addr} {H0 : Hp} {M M' : Msk} {ad ad' : Nat → List Addr} {σ σ' : St} {H H' H1 : Hp} {env env' env'' : List Bd} {l l' : Lv} {p q : Bool} {d d' e : D}
/-- an error's own __init__: what it is given becomes its fields -/
def SpI (K : PySem.W.Frag) (fs : List Str) : Sp := fun vs H Q E => ∃ (a C : Addr) (ws : List V), vs = .ref a :: ws ∧ ws.length = fs.length ∧ H a = some (exo a C none) ∧ OexC K C ∧ (∀ f ∈ fs, PySem.W.findIn K (.ref C) f = some none) ∧
  ∀ dx, H dx = none → dx ≠ a → Q .non (upd (upd H dx (exd dx (fs.zip ws).reverse)) a (exo a C (some dx)))
theorem run_I1 {N : List Str} {f : Str} {vs : List V} {Q : VK} {E : XK} (hn : 2 = N.length) (h : SpI K [f] vs H Q E) : tOst K f (tVar 0) (tVar 1) { nx := fun _ H' => Q .non H', rt := Q } (L2.start N vs) H := by
  obtain ⟨a, C, ws, rfl, hl, ha, T, hf, q⟩ := h
  obtain ⟨y, rfl⟩ : ∃ y, ws = [y] := by
    cases ws with
    | nil => cases hl
    | cons y r => cases r with
      | nil => exact ⟨y, rfl⟩
      | cons _ _ => simp at hl
  rw [start_of (n := 0) (by simpa using hn)]
  exact ⟨y, rfl, .ref a, rfl, a, C, rfl, T, hf f (by simp), .inl ⟨ha, fun dx h1 h2 => q dx h1 h2⟩⟩
theorem run_I2 {N : List Str} {f g : Str} {vs : List V} {Q : VK} {E : XK} (hn : 3 = N.length) (h : SpI K [f, g] vs H Q E) : tSeq (tOst K f (tVar 0) (tVar 1)) (tOst K g (tVar 0) (tVar 2)) { nx := fun _ H' => Q .non H', rt := Q } (L2.start N vs) H := by
  obtain ⟨a, C, ws, rfl, hl, ha, T, hf, q⟩ := h
  obtain ⟨y, z, rfl⟩ : ∃ y z, ws = [y, z] := by
    cases ws with
    | nil => cases hl
    | cons y r => cases r with
      | nil => simp at hl
      | cons z r => cases r with
        | nil => exact ⟨y, z, rfl⟩
        | cons _ _ => simp at hl
  rw [start_of (n := 0) (by simpa using hn)]
  refine ⟨y, rfl, .ref a, rfl, a, C, rfl, T, hf f (by simp), .inl ⟨ha, fun dx h1 h2 => ?_⟩⟩
  refine ⟨z, rfl, .ref a, rfl, a, C, rfl, T, hf g (by simp), .inr ⟨dx, [(f, y)], ?_, ?_, by simp, ?_⟩⟩
  · rw [upd_same]
  · rw [upd_ne h2, upd_same]
  · have e : upd (upd (upd H dx (exd dx [(f, y)])) a (exo a C (some dx))) dx (exd dx [(g, z), (f, y)]) = upd (upd H dx (exd dx [(g, z), (f, y)])) a (exo a C (some dx)) := by
      funext b
      by_cases b1 : b = dx
      · subst b1
        rw [upd_same, upd_ne h2, upd_same]
      · rw [upd_ne b1]
        by_cases b2 : b = a
        · subst b2; rw [upd_same, upd_same]
        · rw [upd_ne b2, upd_ne b2, upd_ne b1, upd_ne b1]
    show Q .non (upd (upd (upd H dx (exd dx [(f, y)])) a (exo a C (some dx))) dx (exd dx ((g, z) :: [(f, y)])))
    rw [e]
    exact q dx h1 h2
/-- raise C('..') -/
def tRz (We : WX) (t : St → Hp → XK → Prop) : TS := fun _ σ H => t σ H fun cls d H' => We cls d σ H'
theorem sd_raise0 {C : Addr} {nm : Str} (hC : C = He.ga K nm) : SD K We (tRz We fun _ H Q => Q (.ref C) none H) env (.er ⟨nm, []⟩ env) := fun X a0 H0 M ad σ H Dn E k => k M ad σ (.ref C) none H E ⟨by rw [hC], rfl⟩
theorem rpl_scl {B B' : Hp} : ∀ {ds : List D} {ws : List V}, ds.all scl = true → RpL K B ds ws → RpL K B' ds ws
  | [], ws, _, r => r
  | d :: ds, ws, h, r => by
    obtain ⟨v, r', e, h1, h2⟩ := r
    rw [List.all_cons, Bool.and_eq_true] at h
    exact ⟨v, r', e, Rp.scl h.1 h1, rpl_scl h.2 h2⟩
theorem zip_fstL {α β : Type} : ∀ (xs : List α) (ys : List β), xs.length = ys.length → (xs.zip ys).map (·.1) = xs
  | [], _, _ => rfl
  | x :: xs, [], h => by cases h
  | x :: xs, y :: ys, h => by rw [List.zip_cons_cons, List.map_cons, zip_fstL xs ys (by simpa using h)]
theorem zip_sndL {α β : Type} : ∀ (xs : List α) (ys : List β), xs.length = ys.length → (xs.zip ys).map (·.2) = ys
  | [], [], _ => rfl
  | [], _ :: _, h => by cases h
  | x :: xs, [], h => by cases h
  | x :: xs, y :: ys, h => by rw [List.zip_cons_cons, List.map_cons, zip_sndL xs ys (by simpa using h)]
theorem RpL.rev {B : Hp} {ds : List D} {ws : List V} (r : RpL K B ds ws) : RpL K B ds.reverse ws.reverse := by
  induction ds generalizing ws with
  | nil => have r : ws = [] := r; subst r; rfl
  | cons d ds ih =>
    obtain ⟨v, r', e, h1, h2⟩ := r
    subst e
    rw [List.reverse_cons, List.reverse_cons]
    exact RpL.append (ih h2) (RpL.one h1)
/-- raise C(e, ..), C's __init__ making fields of them -/
theorem sd_raiseI {C : Addr} {nm : Str} (hC : C = He.ga K nm) (T : OexC K C) {fs : List Str} (hf : ∀ f ∈ fs, PySem.W.findIn K (.ref C) f = some none) {ta : TA} {ds : List D} (hl : fs.length = ds.length) (h0 : fs ≠ []) (h1000 : fs.length ≤ 1000) (hs : ds.all scl = true) (h : EvA K .l2 p ta env env' ds) :
    SD K We (tRz We (tMkO C (SpI K fs) [] ta)) env (.er ⟨nm, (fs.zip ds).reverse⟩ env') := fun X a0 H0 M ad σ H Dn E k =>
  h X a0 H0 M ad σ H _ E fun ws H1 E1 e1 p1 r1 => by
    have lw : ws.length = ds.length := r1.length
    refine ⟨by omega, fun a ha => ?_⟩
    rw [List.append_nil]
    refine ⟨a, C, ws, rfl, by omega, upd_same, T, hf, fun dx hd hne => ⟨rfl, dx, (fs.zip ws).reverse, upd_same, ?_, ?_, ?_⟩⟩
    · rw [upd_ne hne, upd_same]
    · rw [upd_ne hne] at hd
      exact hd
    · have hd1 : H1 dx = none := by rw [upd_ne hne] at hd; exact hd
      have e : upd (del (upd (upd (upd H1 a (exo a C none)) dx (exd dx (fs.zip ws).reverse)) a (exo a C (some dx))) a) dx (.xd (fs.zip ws).reverse) = upd H1 dx (.xd (fs.zip ws).reverse) := by
        funext b
        by_cases b1 : b = dx
        · subst b1; rw [upd_same, upd_same]
        · rw [upd_ne b1, upd_ne b1]
          by_cases b2 : b = a
          · subst b2; rw [del_same]; exact ha.symm
          · rw [del_ne b2, upd_ne b2, upd_ne b1, upd_ne b2]
      rw [e]
      refine k M ad σ (.ref C) (some dx) _ (E1.grow (Ex.new hd1)) ⟨by rw [hC], ?_⟩
      have ne : (fs.zip ds).reverse ≠ [] := by
        cases fs with
        | nil => exact absurd rfl h0
        | cons f fs => cases ds with
          | nil => cases hl
          | cons d ds => simp
      show (match (fs.zip ds).reverse with | [] => (some dx : Option Addr) = none | fs' => _)
      split
      · rename_i z; exact absurd z ne
      · refine ⟨dx, (fs.zip ws).reverse, rfl, upd_same, ?_, fun B => ?_⟩
        · rw [List.map_reverse, List.map_reverse, zip_fstL _ _ (by omega), zip_fstL _ _ hl]
        · rw [List.map_reverse, List.map_reverse, zip_sndL _ _ hl, zip_sndL _ _ (by omega)]
          exact RpL.rev (rpl_scl hs r1)
end
end Pw
/-! QTk: calls that may raise -/
namespace Pw
open PySem L2
section
variable {K : PySem.W.Frag} {We : WX} {X : Addr → Prop} {a0 : Addr} {H0 : Hp} {M M' : Msk} {ad ad' : Nat → List Addr} {σ σ' : St} {H H' H1 : Hp} {env env' env'' : List Bd} {l l' : Lv} {p q : Bool} {d d' e : D} {te : TE} {ta : TA} {i : Nat}
/-- an expression that gives data, or raises -/
def EvX (K : PySem.W.Frag) (We : WX) (l : Lv) (te : TE) (env env' : List Bd) (r : D ⊕ Er) : Prop :=
  ∀ X a0 H0 M ad σ H (Q : VK), ER K X a0 H0 M ad σ H env →
    (match r with
      | .inl d => ∀ v H', ER K X a0 H0 M ad σ H' env' → Ex (hid M.n H) (hid M.n H') → Rp K (hid (mk l M X) H') d v → Q v H'
      | .inr e => ∀ cls dd H', ER K X a0 H0 M ad σ H' env' → ErOk K H' e cls dd → We cls dd σ H') → te σ H Q
theorem ex_call {ks : List Bool} {ds : List D} {R : List D → D ⊕ Er → Prop} {r : D ⊕ Er} (hk : ks.length = ds.length) (h : EvA K .l2 p ta env env' ds) (hR : R ds r) : EvX K We .l2 (tCallS (SpPX K ks R) (fun σ cls d H => We cls d σ H) ta) env env' r := fun X a0 H0 M ad σ H Q E k =>
  h X a0 H0 M ad σ H _ E fun vs H1 E1 e1 p1 a => by
    refine ⟨mk .l2 M X, ds, r, hR, mk_dom E1, ArgOk.ofL hk a, ?_⟩
    cases r with
    | inl d => exact fun v H' g rv => k v H' (E1.grow g) (e1.trans (hid_ex g)) rv
    | inr e => exact fun cls dd H' g ok => k cls dd H' (E1.grow g) ok
theorem ex_ev (h : EvD K l p te env env' d) : EvX K We l te env env' (.inl d) := fun X a0 H0 M ad σ H Q E k =>
  h X a0 H0 M ad σ H _ E fun v H' E' e' _ r => k v H' E' e' r
theorem sd_dropX {r : D ⊕ Er} (h : EvX K We l te env env' r) : SD K We (tDrop te) env (match r with | .inl _ => .nx env' | .inr e => .er e env') := fun X a0 H0 M ad σ H Dn E k => by
  cases r with
  | inl d => exact h X a0 H0 M ad σ H _ E fun v H' E' _ _ => k M ad σ H' E'
  | inr e => exact h X a0 H0 M ad σ H _ E fun cls dd H' E' ok => k M ad σ cls dd H' E' ok
theorem sd_retX {r : D ⊕ Er} (h : EvX K We .l3 te env env' r) : SD K We (tRet te) env (match r with | .inl d => .rx d | .inr e => .er e env') := fun X a0 H0 M ad σ H Dn E k => by
  cases r with
  | inl d => exact h X a0 H0 M ad σ H _ E fun v H' E' _ rv => k env' M ad σ v H' E' rv
  | inr e => exact h X a0 H0 M ad σ H _ E fun cls dd H' E' ok => k M ad σ cls dd H' E' ok
theorem sd_asgX {r : D ⊕ Er} (hm : isMu env'[i]? = false) (h : EvX K We .l2 te env env' r) : SD K We (tAsg te (gName i)) env (match r with | .inl d => .nx (env'.set i (.im d)) | .inr e => .er e env') := fun X a0 H0 M ad σ H Dn E k => by
  cases r with
  | inl d => exact h X a0 H0 M ad σ H _ E fun v H' E' _ rv => k M ad _ H' (E'.setIm hm rv)
  | inr e => exact h X a0 H0 M ad σ H _ E fun cls dd H' E' ok => k M ad σ cls dd H' E' ok
end
end Pw
/-! QTl: lists over two clauses, as the printer reads them -/
namespace Pw
open PySem L2
def lc2O {α γ β : Type} (c : α → Option Bool) (h : α → Option (List γ)) (f : α → γ → Option β) (xs : List α) : Option (List β) :=
  if xs.length ≤ 100 then (compO (fun x => ((c x).bind fun b => if b = true then (h x).bind fun ys => if ys.length ≤ 100 then compO (fun y => (f x y).map some) ys else none else some []).map some) xs).map List.flatten else none
section
variable {K : PySem.W.Frag} {We : WX} {X : Addr → Prop} {a0 : Addr} {H0 : Hp} {M M' : Msk} {σ σ' : St} {H H' H1 : Hp} {env env' env'' : List Bd} {l l1 : Lv} {te : TE} {tt : TT} {g g1 : TG} {vs vs1 : List Nat} {wi wi1 : TI}
theorem turnL {d y : D} {envt : List Bd} (hT : TgD K l g d env envt) (hV : EvD K .l2 true te envt envt y) (hm : (vs.all fun v => !isMu envt[v]?) = true) (he : env = wipeE envt vs) : TurnL K l g te vs d env y := ⟨⟨envt, hT, hV, hm, he⟩⟩
theorem ef_lc2T {α γ β : Type} {c : α → Option Bool} {h : α → Option (List γ)} {f : α → γ → Option β} {xs : List α} {r : List β} {en : α → D} {en1 : γ → D} {eb : β → D} (hs : lc2O c h f xs = some r) (hl : l.lp = true) (hl1 : l1.lp = true) (hi : EvI K l true wi env env (xs.map en)) (hw : TgW g vs) (hw1 : TgW g1 vs1) (inn : ∀ i ∈ vs1, i ∈ vs) (han : ∀ v ∈ vs, env[v]? = some .an)
    (turn : ∀ x b, c x = some b → ∃ envt, TgD K l g (en x) env envt ∧ EvB K true tt envt envt b ∧ (vs.all fun v => !isMu envt[v]?) = true ∧ env = wipeE envt vs ∧
      (b = true → ∀ ys, h x = some ys → EvI K l1 true wi1 envt envt (ys.map en1) ∧ (∀ v ∈ vs1, envt[v]? = some .an) ∧ ∀ y v, f x y = some v → TurnL K l1 g1 te vs1 (en1 y) envt (eb v))) :
    EvF K true (tLc2 wi g tt wi1 g1 tYes te vs vs1) env env (.lst (r.map eb)) := by
  unfold lc2O at hs
  by_cases hn : xs.length ≤ 100
  · rw [if_pos hn] at hs
    obtain ⟨pss, h1, hs⟩ := Option.map_eq_some_iff.mp hs
    subst hs
    obtain ⟨l1', g1'⟩ := compL_get (compO_of h1).2
    rw [List.map_flatten]
    have shape : ∀ (i : Nat) x, xs[i]? = some x → ∃ ps b, pss[i]? = some ps ∧ c x = some b ∧ (b = false → ps = []) ∧ (b = true → ∃ ys, h x = some ys ∧ ys.length ≤ 100 ∧ ps.length = ys.length ∧ ∀ (j : Nat) y, ys[j]? = some y → ∃ v, ps[j]? = some v ∧ f x y = some v) := fun i x hx => by
      obtain ⟨ps, hp, hf⟩ := g1' i x hx
      obtain ⟨b, hb, hf⟩ := Option.bind_eq_some_iff.mp hf
      refine ⟨ps, b, hp, hb, fun e => ?_, fun e => ?_⟩
      · subst e
        rw [if_neg (by simp)] at hf
        exact (Option.some.inj hf).symm
      · subst e
        rw [if_pos rfl] at hf
        obtain ⟨ys, hy, hf⟩ := Option.bind_eq_some_iff.mp hf
        by_cases hny : ys.length ≤ 100
        · rw [if_pos hny] at hf
          obtain ⟨l2, g2⟩ := compL_get (compO_of hf).2
          exact ⟨ys, hy, hny, l2, g2⟩
        · rw [if_neg hny] at hf; cases hf
    refine ef_lc2 hl hl1 hi hw hw1 inn han (by simp [l1']) (by simpa using hn) (fun ps hps => ?_) fun i d ps hd hps => ⟨?_⟩
    · obtain ⟨qs, hq, rfl⟩ := List.mem_map.mp hps
      obtain ⟨i, hi', e⟩ := List.mem_iff_getElem.mp hq
      obtain ⟨ps', b, s1, s2, s3, s4⟩ := shape i xs[i] (List.getElem?_eq_getElem (by omega))
      rw [List.getElem?_eq_getElem hi', e] at s1
      cases s1
      rw [List.length_map]
      cases b with
      | false => rw [s3 rfl]; simp
      | true => obtain ⟨ys, _, u2, u3, _⟩ := s4 rfl; rw [u3]; exact u2
    · rw [List.getElem?_map] at hd hps
      obtain ⟨x, hx, rfl⟩ := Option.map_eq_some_iff.mp hd
      obtain ⟨qs, hq, rfl⟩ := Option.map_eq_some_iff.mp hps
      obtain ⟨ps', b, s1, s2, s3, s4⟩ := shape i x hx
      rw [hq] at s1; cases s1
      obtain ⟨envt, t1, t2, t4, t5, t6⟩ := turn x b s2
      refine ⟨envt, b, t1, t2, t4, t5, fun e => by rw [s3 e]; rfl, fun e => ?_⟩
      obtain ⟨ys, u1, u2, u3, u4⟩ := s4 e
      obtain ⟨t7, t8, t9⟩ := t6 e ys u1
      refine ⟨ys.map en1, t7, t8, by simp [u3], fun j d v hd hv => ?_⟩
      rw [List.getElem?_map] at hd hv
      obtain ⟨y, hy, rfl⟩ := Option.map_eq_some_iff.mp hd
      obtain ⟨z, hz, rfl⟩ := Option.map_eq_some_iff.mp hv
      obtain ⟨v, w1, w2⟩ := u4 j y hy
      rw [hz] at w1; cases w1
      exact t9 y z w2
  · rw [if_neg hn] at hs; cases hs
/-! ### sum, any, all of lists; zip of two tuples -/
theorem RpL.blsT {H : Hp} : ∀ {bs : List Bool} {xs : List V}, RpL K H (bs.map D.bl) xs → xs = bs.map V.bl
  | [], _, h => h
  | n :: ns, _, ⟨x, r, h1, h2, h3⟩ => by
    subst h1
    have e : x = V.bl n := h2
    rw [e, RpL.blsT h3]
    rfl
theorem rc_sumJ {ns : List Int} : RC K l l1 (rSum K) [.lst (ns.map D.int)] (.int ns.sum) := fun X a0 H0 M ad σ H env xs Q E r k => by
  obtain ⟨x, rfl, a, ys, rfl, h1, h2⟩ := r.one'
  exact ⟨a, ns, rfl, ex_l hid_all (by rw [← h2.ints]; exact h1), k _ H E (Ex.refl _) rfl⟩
theorem rc_anyJ {bs : List Bool} : RC K l l1 (rAny K) [.lst (bs.map D.bl)] (.bl (bs.any id)) := fun X a0 H0 M ad σ H env xs Q E r k => by
  obtain ⟨x, rfl, a, ys, rfl, h1, h2⟩ := r.one'
  exact ⟨a, bs, rfl, ex_l hid_all (by rw [← RpL.blsT h2]; exact h1), k _ H E (Ex.refl _) rfl⟩
theorem rc_allJ {bs : List Bool} : RC K l l1 (rAll K) [.lst (bs.map D.bl)] (.bl (bs.all id)) := fun X a0 H0 M ad σ H env xs Q E r k => by
  obtain ⟨x, rfl, a, ys, rfl, h1, h2⟩ := r.one'
  exact ⟨a, bs, rfl, ex_l hid_all (by rw [← RpL.blsT h2]; exact h1), k _ H E (Ex.refl _) rfl⟩
theorem sumLK {Y : Cx} (h : Y.K = K) (hc : Y.calm = true) : CallR Y (.builtin "sum") (rSum K) := h ▸ cr_sum hc
theorem anyLK {Y : Cx} (h : Y.K = K) (hc : Y.calm = true) : CallR Y (.builtin "any") (rAny K) := h ▸ cr_any hc
theorem allLK {Y : Cx} (h : Y.K = K) (hc : Y.calm = true) : CallR Y (.builtin "all") (rAll K) := h ▸ cr_all hc
theorem ei_zipII (hl : l.lp = true) {p : Bool} {tsA : TA} {β : Type} {f : β → D} {xs : List Int} {ys : List β} (h : EvA K l p tsA env env' [.tup (xs.map D.int), .tup (ys.map f)]) : EvI K l p (RZ.iZipA K tsA) env env' ((xs.zip ys).map fun z => D.tup [.int z.1, f z.2]) := fun X a0 H0 M ad σ H R E k =>
  h X a0 H0 M ad σ H _ E fun vs H1 E1 e1 p1 r1 => by
    obtain ⟨x1, r, rfl, ⟨a, as, rfl, h1, h2⟩, x2, r', rfl, ⟨b, bs, rfl, h3, h4⟩, e⟩ := r1
    subst e
    refine ⟨a, b, as, bs, rfl, .inr ⟨ex_s hid_all h1, ex_s hid_all h3, k _ H1 E1 e1 p1 fun i H2 g => ?_⟩⟩
    have ga : Ex (hid (mk l M X) H1) H2 := by rw [hid_mx hl]; exact hid_all.trans g
    have s1 : SqT K H2 a as := ex_s ga h1
    have s2 : SqT K H2 b bs := ex_s ga h3
    have la := h2.length
    have lb := h4.length
    rw [List.length_map] at la lb
    refine ⟨fun d hd => ?_, fun hi => ⟨as, bs, s1, s2, ?_⟩⟩
    · rw [List.getElem?_map] at hd
      obtain ⟨z, hz, rfl⟩ := Option.map_eq_some_iff.mp hd
      obtain ⟨z1, z2⟩ := List.getElem?_zip_eq_some.mp hz
      obtain ⟨v, hv, rv⟩ := h2.get (i := i) (d := .int z.1) (by rw [List.getElem?_map, z1]; rfl)
      obtain ⟨u, hu, ru⟩ := h4.get (i := i) (d := f z.2) (by rw [List.getElem?_map, z2]; rfl)
      refine ⟨⟨as, bs, v, u, s1, s2, hv, hu⟩, fun x H' y => .inr (.inr ?_)⟩
      obtain ⟨T, v', u', hx, hT, hH, hy1, hy2⟩ := y
      have q1 := hy1 as s1
      have q2 := hy2 bs s2
      rw [hv] at q1; rw [hu] at q2
      cases q1; cases q2
      exact .inr (.inl ⟨T, v, u, .int z.1, f z.2, hx, hT, hH, rfl, fun B => rv, by rw [← hid_mx hl]; exact ru⟩)
    · rw [List.length_map, List.length_zip] at hi
      omega
theorem ev_notTT {α : Type} {f : α → D} {xs : List α} {ta : TE} {p : Bool} (h : EvD K l p ta env env' (.tup (xs.map f))) : EvD K l1 p (L2.tNotT K ta) env env' (.bl xs.isEmpty) := fun X a0 H0 M ad σ H Q E k =>
  h X a0 H0 M ad σ H _ E fun v H' E' e' p' r => by
    obtain ⟨a, ys, rfl, h1, h2⟩ := r
    refine ⟨!ys.isEmpty, .inr (.inl ⟨ys, ex_s hid_all h1, rfl⟩), k _ H' E' e' p' ?_⟩
    have e : ys.isEmpty = xs.isEmpty := by
      have := h2.length
      cases ys <;> cases xs <;> first | rfl | simp at this
    show V.bl _ = V.bl _
    rw [e, Bool.not_not]
theorem eb_truTT {α : Type} {f : α → D} {xs : List α} {te : TE} {p : Bool} (h : EvD K l p te env env' (.tup (xs.map f))) : EvB K p (fun σ H Q => te σ H fun x H' => ∃ k, TruV K x H' k ∧ Q k H') env env' (!xs.isEmpty) := fun X a0 H0 M ad σ H Q E k =>
  h X a0 H0 M ad σ H _ E fun v H' E' e' p' r => by
    obtain ⟨a, ys, rfl, h1, h2⟩ := r
    refine ⟨!ys.isEmpty, .inr (.inl ⟨ys, ex_s hid_all h1, rfl⟩), ?_⟩
    have e : ys.isEmpty = xs.isEmpty := by
      have := h2.length
      cases ys <;> cases xs <;> first | rfl | simp at this
    rw [e]
    exact k H' E' e' p'
theorem pe_notTK {Y : Cx} {a : Expr} {pos : Pos} {ta : TE} (h : Y.K = K) (ha : PE Y a ta) : PE Y (.UnaryOp .Not a pos) (tNotT K ta) := h ▸ pe_notT ha
end
/-! ### the order of lists -/
theorem ord_lay {α : Type} {n : Nat} {f : α → D} {pd : α → PyData} (o : OrdD n f pd) : ∀ xs : List α, PyData.canLayAll0 (xs.map pd) = true
  | [] => rfl
  | x :: xs => by rw [List.map_cons, PyData.canLayAll0, o.lay x, ord_lay o xs]; rfl
theorem ord_alk {α : Type} {n : Nat} {f : α → D} {pd : α → PyData} (o : OrdD n f pd) : ∀ xs ys : List α, PySem.W.alikeAll (xs.map pd) (ys.map pd) = true
  | [], _ => by simp [PySem.W.alikeAll]
  | _ :: _, [] => by simp [PySem.W.alikeAll]
  | x :: xs, y :: ys => by simp [PySem.W.alikeAll, o.alk x y, ord_alk o xs ys]
theorem ord_inj {α : Type} {n : Nat} {f : α → D} {pd : α → PyData} (o : OrdD n f pd) : ∀ xs ys : List α, xs.map pd = ys.map pd → xs = ys
  | [], [], _ => rfl
  | [], _ :: _, h => by cases h
  | _ :: _, [], h => by cases h
  | x :: xs, y :: ys, h => by
    rw [List.map_cons, List.map_cons] at h
    injection h with h1 h2
    rw [o.inj x y h1, ord_inj o xs ys h2]
theorem ord_lst {α : Type} {n : Nat} {f : α → D} {pd : α → PyData} (o : OrdD n f pd) : OrdD (n + 1) (fun xs : List α => D.lst (xs.map f)) fun xs => PyData.list (xs.map pd) :=
  ⟨fun x K H v h => by obtain ⟨a, xs, e, q1, q2⟩ := h; subst e; exact .lst q1 (dp_map o q2), fun x => ord_lay o x, fun x => by have := dep_map o x; simp only [PyData.depth]; omega,
    fun x y => by simp only [PySem.W.alike]; exact ord_alk o x y, fun x y h => ord_inj o x y (by injection h), fun x h => by cases h⟩
theorem ord_tupN {α : Type} {n : Nat} {f : α → D} {pd : α → PyData} (o : OrdD n f pd) : OrdD (n + 1) (fun xs : List α => D.tup (xs.map f)) fun xs => PyData.tuple (xs.map pd) :=
  ⟨fun x K H v h => by obtain ⟨a, xs, e, q1, q2⟩ := h; subst e; exact .tup (SqT.of q1) (dp_map o q2), fun x => ord_lay o x, fun x => by have := dep_map o x; simp only [PyData.depth]; omega,
    fun x y => by simp only [PySem.W.alike]; exact ord_alk o x y, fun x y h => ord_inj o x y (by injection h), fun x h => by cases h⟩
theorem eqv_optL {α : Type} {n : Nat} {f : α → List D} : EqvL n f → Eqv (n + 1) (encO fun x => D.lst (f x)) := fun ⟨ps, g1, g2, g3⟩ =>
  ⟨fun o => match o with | none => .none | some x => .list (ps x), fun o K H v h => by
    cases o with
    | none => have h : v = V.non := h; subst h; exact .non
    | some x => obtain ⟨a, xs, e, q1, q2⟩ := h; subst e; exact .lst q1 (g1 x K H xs q2),
  fun o => by
    cases o with
    | none => exact ⟨rfl, by simp [PyData.depth]⟩
    | some x => exact ⟨(g2 x).1, by have := (g2 x).2; simp only [PyData.depth]; omega⟩,
  fun x y => by
    cases x <;> cases y
    · simp [PyData.eqv]
    · simp [PyData.eqv]
    · simp [PyData.eqv]
    · simp only [PyData.eqv, g3, Option.some.injEq]⟩
end Pw
/-! QTm: what stands in the entry's heap (J), which a lambda's making may change; statements and expressions that keep it. -/
namespace Pw
open PySem L2
section
variable {J : Hp → Prop} {K : PySem.W.Frag} {We : WX} {X : Addr → Prop} {a0 : Addr} {H0 : Hp} {M M' : Msk} {ad ad' : Nat → List Addr} {σ σ' : St} {H H' H1 : Hp} {env env' env'' env2 : List Bd} {l l' : Lv} {p q : Bool} {d d' e : D} {ta tb te ti : TE} {t u : TT} {i j : Nat} {b c : Bool} {ts tu te' : TS} {o : Out} {Dn : Ends}
def SJ (J : Hp → Prop) (K : PySem.W.Frag) (We : WX) (ts : TS) (env : List Bd) (o : Out) : Prop :=
  ∀ X a0 H0 M ad σ H Dn, J H0 → ER K X a0 H0 M ad σ H env → (∀ H0', J H0' → OK K We X a0 H0' Dn o) → ts Dn σ H
def EvJ (J : Hp → Prop) (K : PySem.W.Frag) (l : Lv) (te : TE) (env env' : List Bd) (d : D) : Prop :=
  ∀ X a0 H0 M ad σ H (Q : VK), J H0 → ER K X a0 H0 M ad σ H env → (∀ H0' v H', J H0' → ER K X a0 H0' M ad σ H' env' → Rp K (hid (mk l M X) H') d v → Q v H') → te σ H Q
def EbJ (J : Hp → Prop) (K : PySem.W.Frag) (tt : TT) (env env' : List Bd) (b : Bool) : Prop :=
  ∀ X a0 H0 M ad σ H (Q : Bool → Hp → Prop), J H0 → ER K X a0 H0 M ad σ H env → (∀ H0' H', J H0' → ER K X a0 H0' M ad σ H' env' → Q b H') → tt σ H Q
theorem sj_of (h : SD K We ts env o) : SJ J K We ts env o := fun X a0 H0 M ad σ H Dn j E k => h X a0 H0 M ad σ H Dn E (k H0 j)
theorem evj_of (h : EvD K l p te env env' d) : EvJ J K l te env env' d := fun X a0 H0 M ad σ H Q j E k => h X a0 H0 M ad σ H Q E fun v H' E' _ _ r => k H0 v H' j E' r
theorem ebj_of (h : EvB K p t env env' b) : EbJ J K t env env' b := fun X a0 H0 M ad σ H Q j E k => h X a0 H0 M ad σ H Q E fun H' E' _ _ => k H0 H' j E'
theorem evj_op {r : R2} (ha : EvJ J K l ta env env' d) (hb : EvD K l true tb env' env'' d') (hr : RV K l l' r d d' e) : EvJ J K l' (tOp r ta tb) env env'' e := fun X a0 H0 M ad σ H Q j E k =>
  ha X a0 H0 M ad σ H _ j E fun H01 x H1 j1 E1 r1 => hb X a0 H01 M ad σ H1 _ E1 fun y H2 E2 e2 p2 r2 =>
    hr X a0 H01 M ad σ H2 env'' x y _ E2 (Rp.mono (keepL (q := true) (by cases l <;> rfl) e2 p2) _ _ r1) r2 fun v H' E' e3 rv => k H01 v H' j1 E' rv
theorem ebj_test (h : EvJ J K l te env env' (.bl b)) : EbJ J K (tTest te) env env' b := fun X a0 H0 M ad σ H Q j E k =>
  h X a0 H0 M ad σ H _ j E fun H0' x H1 j1 E1 r1 => ⟨b, r1, k H0' H1 j1 E1⟩
theorem ebj_B (h : EvJ J K l te env env' (.bl b)) : EbJ J K (tB te) env env' b := fun X a0 H0 M ad σ H Q j E k =>
  h X a0 H0 M ad σ H _ j E fun H0' x H1 j1 E1 r1 => ⟨b, r1, k H0' H1 j1 E1⟩
theorem ebj_not (h : EbJ J K t env env' b) : EbJ J K (tNot t) env env' (!b) := fun X a0 H0 M ad σ H Q j E k => h X a0 H0 M ad σ H _ j E k
theorem evj_up (h : EvJ J K .l2 te env env' d) : EvJ J K l te env env' d := fun X a0 H0 M ad σ H Q j E k =>
  h X a0 H0 M ad σ H Q j E fun H0' v H' j' E' r => k H0' v H' j' E' (Rp.mono (hid_le mk_le) _ _ r)
theorem evj_is (h : EvJ J K l te env env' d) (e : d = d') : EvJ J K l te env env' d' := e ▸ h
theorem sj_seq (h1 : SJ J K We ts env (.nx env')) (h2 : SJ J K We tu env' o) : SJ J K We (tSeq ts tu) env o := fun X a0 H0 M ad σ H Dn j E k =>
  h1 X a0 H0 M ad σ H { Dn with nx := tu Dn } j E fun H0' j' M' ad' σ' H' E' => h2 X a0 H0' M' ad' σ' H' Dn j' E' k
theorem sj_out (h1 : SJ J K We ts env o) (ho : o.nxt = false) : SJ J K We (tSeq ts tu) env o := fun X a0 H0 M ad σ H Dn j E k =>
  h1 X a0 H0 M ad σ H { Dn with nx := tu Dn } j E fun H0' j' => by
    have := k H0' j'
    cases o <;> first | exact this | cases ho
theorem sj_if (h : EbJ J K t env env' b) (h1 : b = true → SJ J K We ts env' o) (h2 : b = false → SJ J K We tu env' o) : SJ J K We (tIfS t ts tu) env o := fun X a0 H0 M ad σ H Dn j E k =>
  h X a0 H0 M ad σ H _ j E fun H0' H1 j1 E1 => by
    cases b with
    | true => exact h1 rfl X a0 H0' M ad σ H1 Dn j1 E1 k
    | false => exact h2 rfl X a0 H0' M ad σ H1 Dn j1 E1 k
theorem sj_ifs (h : EbJ J K t env env' b) (h1 : b = true → SJ J K We (tSeq ts te') env' o) (h2 : b = false → SJ J K We (tSeq tu te') env' o) : SJ J K We (tSeq (tIfS t ts tu) te') env o := fun X a0 H0 M ad σ H Dn j E k =>
  h X a0 H0 M ad σ H _ j E fun H0' H1 j1 E1 => by
    cases b with
    | true => exact h1 rfl X a0 H0' M ad σ H1 Dn j1 E1 k
    | false => exact h2 rfl X a0 H0' M ad σ H1 Dn j1 E1 k
theorem sj_seqNext (h : SJ J K We te' env o) : SJ J K We (tSeq tNext te') env o := h
theorem sj_assoc (h : SJ J K We (tSeq ts (tSeq tu te')) env o) : SJ J K We (tSeq (tSeq ts tu) te') env o := h
theorem sj_env (e : env = env2) (h : SJ J K We ts env2 o) : SJ J K We ts env o := e ▸ h
theorem sj_wp' (vs : List Nat) (hv : (vs.all fun v => !isMu env[v]?) = true) (e : wipeE env vs = env2) (h : SJ J K We ts env2 o) : SJ J K We ts env o := fun X a0 H0 M ad σ H Dn j E k => by
  subst e
  refine h X a0 H0 M ad σ H Dn j ((E.wipe hv).1.anyAt (wipe_length _ _).symm fun j b hb => ?_) k
  by_cases m : j ∈ vs
  · refine .inl ?_
    have : (wipeE env vs)[j]? = some .an := wipeE_at m (by
      have := (List.getElem?_eq_some_iff.mp hb).1
      rwa [wipeE_len] at this)
    rw [this] at hb
    exact (Option.some.inj hb).symm
  · rw [wipe_get, if_neg fun z => m z.1]; exact .inr rfl
theorem sj_freeze (h : env[i]? = some (.ow d)) (k : SJ J K We ts (env.set i (.im d)) o) : SJ J K We ts env o := fun X a0 H0 M ad σ H Dn j E q => k X a0 H0 _ ad σ H Dn j (E.freeze h) q
theorem sj_seqZ {S R : Type} {ev : S → List Bd} {fin : R → Out} {z : S ⊕ R} (h : SJ J K We ts env (outZ ev fin z)) (hf : ∀ r, (fin r).nxt = false) (h1 : ∀ s, z = .inl s → SJ J K We tu (ev s) o) (h2 : ∀ r, z = .inr r → fin r = o) : SJ J K We (tSeq ts tu) env o := by
  cases z with
  | inl s => exact sj_seq h (h1 s rfl)
  | inr r =>
    have e : fin r = o := h2 r rfl
    rw [← e]
    exact sj_out h (hf r)
theorem sj_ret (h : EvJ J K .l3 te env env' d) : SJ J K We (tRet te) env (.rx d) := fun X a0 H0 M ad σ H Dn j E k =>
  h X a0 H0 M ad σ H _ j E fun H0' v H' j' E' r => k H0' j' env' M ad σ v H' E' r
theorem sj_drop (h : EvJ J K l te env env' d) : SJ J K We (tDrop te) env (.nx env') := fun X a0 H0 M ad σ H Dn j E k =>
  h X a0 H0 M ad σ H _ j E fun H0' v H' j' E' _ => k H0' j' M ad σ H' E'
theorem sj_asg (hm : isMu env'[i]? = false) (h : EvJ J K .l2 te env env' d) : SJ J K We (tAsg te (gName i)) env (.nx (env'.set i (.im d))) := fun X a0 H0 M ad σ H Dn j E k =>
  h X a0 H0 M ad σ H _ j E fun H0' v H' j' E' r => k H0' j' M ad (σ.set i (some v)) H' (E'.setIm hm r)
/-! ### for over a range -/
def EvIR (K : PySem.W.Frag) (wi : TI) (env env' : List Bd) (lo : Int) (n : Nat) : Prop :=
  ∀ X a0 H0 M ad σ H (R : It → Hp → Prop), ER K X a0 H0 M ad σ H env → (∀ H', ER K X a0 H0 M ad σ H' env' → R (Itr lo n) H') → wi σ H R
theorem eir_1 {ta : TA} {n : Int} (h : EvA K l' p ta env env' [.int n]) (hn : -(2 ^ 62) ≤ n ∧ n < 2 ^ 62) : EvIR K (iRng1 ta) env env' 0 n.toNat := fun X a0 H0 M ad σ H R E k =>
  h X a0 H0 M ad σ H _ E fun xs H1 E1 e1 p1 r1 => by
    obtain ⟨x, rfl, hx⟩ := r1.one'
    have hx : x = V.int n := hx
    exact ⟨n, by rw [hx], hn.1, hn.2, k H1 E1⟩
theorem eir_2 {ta : TA} {m n : Int} (h : EvA K l' p ta env env' [.int m, .int n]) (hm : -(2 ^ 62) ≤ m ∧ m < 2 ^ 62) (hn : -(2 ^ 62) ≤ n ∧ n < 2 ^ 62) : EvIR K (iRng2 ta) env env' m (n - m).toNat := fun X a0 H0 M ad σ H R E k =>
  h X a0 H0 M ad σ H _ E fun xs H1 E1 e1 p1 r1 => by
    obtain ⟨x, r, h1, h2, h3⟩ := r1
    obtain ⟨y, h4, h5⟩ := h3.one'
    have h2 : x = V.int m := h2
    have h5 : y = V.int n := h5
    exact ⟨m, n, by rw [h1, h4, h2, h5], ⟨hm.1, hm.2, hn.1, hn.2⟩, k H1 E1⟩
/-- the list of the range told -/
structure EvIL (K : PySem.W.Frag) (wi : TI) (env env' : List Bd) (xs : List Int) : Prop where
  ex : ∃ lo n, xs = rng lo n ∧ EvIR K wi env env' lo n
theorem eir_1T {ta : TA} {n : Int} {xs : List Int} (hx : rngO 0 n = some xs) (h : EvA K l' p ta env env' [.int n]) : EvIL K (iRng1 ta) env env' xs := by
  obtain ⟨_, h2, rfl⟩ := rngO_of hx
  exact ⟨0, _, by rw [Int.sub_zero], eir_1 h h2⟩
theorem eir_2T {ta : TA} {m n : Int} {xs : List Int} (hx : rngO m n = some xs) (h : EvA K l' p ta env env' [.int m, .int n]) : EvIL K (iRng2 ta) env env' xs := by
  obtain ⟨h1, h2, rfl⟩ := rngO_of hx
  exact ⟨m, _, rfl, eir_2 h h1 h2⟩
def SJt (J : Hp → Prop) (K : PySem.W.Frag) (We : WX) (g : TG) (tb : TS) (d : D) (env : List Bd) (o : Out) : Prop :=
  ∀ X a0 H0 M ad σ H Dn v, J H0 → ER K X a0 H0 M ad σ H env → (∀ B, Rp K B d v) → (∀ H0', J H0' → OK K We X a0 H0' Dn o) → g v σ H fun σ2 H2 => tb Dn σ2 H2
theorem sjt {g : TG} (hg : TgD K .l2 g d env env') (hb : SJ J K We ts env' o) : SJt J K We g ts d env o := fun X a0 H0 M ad σ H Dn v j E r k =>
  hg X a0 H0 M ad σ H v _ E (r _) fun σ' E' => hb X a0 H0 M ad σ' H Dn j E' k
theorem rng_len (lo : Int) (n : Nat) : (rng lo n).length = n := by unfold rng; simp
theorem sj_for {wi : TI} {g : TG} {xs : List Int} (hi : EvIL K wi env env' xs) (h : Loop (SJt J K We g ts) (xs.map D.int) env' o) : SJ J K We (tFor wi g ts) env o := by
  obtain ⟨lo, n, rfl, hi⟩ := hi
  intro X a0 H0 M ad σ H Dn j E k
  refine hi X a0 H0 M ad σ H _ E fun H1 E1 => ?_
  refine ⟨fun i m σ' H' => m = n - i ∧ i ≤ n ∧ ∃ H0' env M' ad', J H0' ∧ ER K X a0 H0' M' ad' σ' H' env ∧ Loop (SJt J K We g ts) (((rng lo n).map D.int).drop i) env o, ⟨n, by simp, Nat.zero_le _, H0, env', M, ad, j, E1, h⟩, ?_⟩
  rintro i m σ' H' ⟨rfl, hle, H0', env, M', ad', j', E', L⟩
  have hlen : ((rng lo n).map D.int).length = n := by rw [List.length_map, rng_len]
  by_cases hlt : i < n
  · refine .inr ⟨hlt, ?_⟩
    have hlt' : i < ((rng lo n).map D.int).length := by rw [hlen]; exact hlt
    have hd : ((rng lo n).map D.int)[i]? = some ((rng lo n).map D.int)[i] := List.getElem?_eq_getElem hlt'
    have hv := (rng_get hd).2
    rw [List.drop_eq_getElem_cons hlt'] at L
    have rr : ∀ x H2, (Itr lo n).yld i H' x H2 → H2 = H' ∧ ∀ B, Rp K B ((rng lo n).map D.int)[i] x := fun x H2 y => ⟨y.1, fun B => by rw [hv, y.2]; rfl⟩
    rcases L with ⟨env1, hB, L⟩ | ⟨env1, hB, ho⟩ | ⟨ho, hB⟩
    · refine ⟨fun σ2 H2 => ∃ H0' env M' ad', J H0' ∧ ER K X a0 H0' M' ad' σ2 H2 env ∧ Loop (SJt J K We g ts) (((rng lo n).map D.int).drop (i + 1)) env o, fun σ2 H2 z => ⟨n - (i + 1), by omega, rfl, hlt, z⟩, fun x H2 y => ?_⟩
      obtain ⟨rfl, rv⟩ := rr x H2 y
      rcases hB with hB | hB
      · exact hB X a0 H0' M' ad' σ' H2 _ x j' E' rv fun H03 j3 M3 ad3 σ3 H3 E3 => ⟨H03, env1, M3, ad3, j3, E3, L⟩
      · exact hB X a0 H0' M' ad' σ' H2 _ x j' E' rv fun H03 j3 M3 ad3 σ3 H3 E3 => ⟨H03, env1, M3, ad3, j3, E3, L⟩
    · subst ho
      refine ⟨fun _ _ => False, fun _ _ z => z.elim, fun x H2 y => ?_⟩
      obtain ⟨rfl, rv⟩ := rr x H2 y
      exact hB X a0 H0' M' ad' σ' H2 _ x j' E' rv fun H03 j3 M3 ad3 σ3 H3 E3 => k H03 j3 M3 ad3 σ3 H3 E3
    · refine ⟨fun _ _ => False, fun _ _ z => z.elim, fun x H2 y => ?_⟩
      obtain ⟨rfl, rv⟩ := rr x H2 y
      exact hB X a0 H0' M' ad' σ' H2 _ x j' E' rv fun H03 j3 => OK.ret ho (k H03 j3)
  · have e : i = n := by omega
    subst e
    rw [List.drop_eq_nil_of_le (by rw [hlen]; exact Nat.le_refl _)] at L
    have L : o = .nx env := L
    subst L
    exact .inl ⟨Nat.le_refl _, k H0' j' M' ad' σ' H' E'⟩
end
end Pw
/-! QTn: a lambda without parameters, handed to a def: how the maker's table grows. -/
namespace Pw
open PySem PySem.Spec PyProof.Rows L2 LamX
/-- the abstract heap with a longer table and a code object more -/
def tabUp (P : Addr) (ps' : Array Value) (c : Addr) (q : Str) (H : Hp) : Hp := upd (upd H P (.tbl ps')) c (CodeO c q)
/-- one making of a lambda: the table serves, or it grows -/
def TStep (P : Addr) (q : Str) (H H1 : Hp) : Prop :=
  H1 = H ∨ ∃ (ps ps' : Array Value) (c : Addr), H P = some (.tbl ps) ∧ H c = none ∧ H1 = tabUp P ps' c q H ∧ ∀ H0 : Hp, H0 P = some (.tbl ps) → H0 c = none → TabS H0 P q → TabS (tabUp P ps' c q H0) P q
theorem tabUp_old {P c : Addr} {ps ps' : Array Value} {q : Str} {H : Hp} (hP : H P = some (.tbl ps)) (hc : H c = none) {b : Addr} {o : HO} (e : H b = some o) (n : ∀ x, o ≠ .tbl x) : tabUp P ps' c q H b = some o := by
  have h1 : b ≠ c := fun z => by rw [z, hc] at e; cases e
  have h2 : b ≠ P := fun z => n ps (Option.some.inj (by rw [← e, z, hP]))
  unfold tabUp
  rw [upd_ne h1, upd_ne h2, e]
theorem tabUp_tab {P c : Addr} {ps : Array Value} {q : Str} {at_ : Pos} {H0 : Hp} (hP : H0 P = some (.tbl ps)) (hc : H0 c = none) (t : TabS H0 P q) : TabS (tabUp P (ps ++ #[rawInt at_.line, rawInt at_.col, .ref c]) c q H0) P q := by
  obtain ⟨ps1, e1, t1, a1⟩ := t
  obtain rfl : ps1 = ps := by rw [hP] at e1; injection e1 with e1; injection e1 with e1; exact e1.symm
  have nPc : P ≠ c := fun z => by rw [z, hc] at hP; cases hP
  have el : (ps1 ++ #[rawInt at_.line, rawInt at_.col, Value.ref c]).toList = ps1.toList ++ [rawInt at_.line, rawInt at_.col, .ref c] := by simp
  refine ⟨ps1 ++ #[rawInt at_.line, rawInt at_.col, Value.ref c], ?_, ?_, fun pos cv h => ?_⟩
  · unfold tabUp; rw [upd_ne nPc, upd_same]
  · rw [el]; exact PySem.TriplesOk_snoc _ _ _ _ t1
  · rw [el] at h
    cases among_app (pos := at_) _ t1 (p' := pos) (c := .ref c) h with
    | inl z =>
      obtain ⟨c0, h1, h2⟩ := a1 pos cv z
      exact ⟨c0, h1, tabUp_old hP hc h2 codeO_ne⟩
    | inr z => exact ⟨c, z, by unfold tabUp; rw [upd_same]⟩
section
variable {X : Cx} {pins : List (Addr × Obj)} {σ : L2.St} {H : Hp} {s : Shared}
/-- no frame stands at a new address -/
theorem frs_new (I : Inv X pins σ H s) {f : Addr} (hf : s.heap.objs.size ≤ f) : f ∉ frs X.stack := fun z => by
  cases List.mem_cons.mp (I.stkSub _ z) with
  | inl e => exact absurd (Nat.lt_of_lt_of_le I.lt (e ▸ hf)) (Nat.lt_irrefl _)
  | inr e => exact I.nofs hf e
abbrev lamQ' (X : Cx) : Str := X.env.qual ++ "<lambda>"
theorem lam_mk {c P : Addr} {params : Arguments} {body : Expr} {scope : Scope} {pos : Pos} {E Q : Value → Shared → Prop} (I : Inv X pins σ H s) (TB : TabB X.base X.mg c P) (hc : X.env.code = .ref c) (hd : defaultsOf params X.env = ([], [])) (L : LamS X.env.scope scope) (t : TabS H P (lamQ' X))
    (k : ∀ (f c' : Addr) (pm ctv : Value) (H1 : Hp) (s' : Shared), Inv X pins σ H1 s' → TStep P (lamQ' X) H H1 → TabS H1 P (lamQ' X) → s'.heap.get? f = some (PySem.W.kla_obj "<lambda>" (lamQ' X) params body scope (cloFrom X.env.cells scope.names []) pm c' ctv) → H1 f = none → f ∉ frs X.stack → H1 c' = some (CodeO c' (lamQ' X)) → Q (.ref f) s') :
    wpAny (model X.prog X.w) X.A (eval (.Lambda params body scope pos) X.env) Q E s := by
  obtain ⟨ps, eP, tp, am⟩ := id t
  have oP := I.hok P _ eP
  have hcl := closure_ok (L.has I.ok)
  have old : ∀ {h' : Heap} {ob : Obj} {b : Addr} {o : Obj}, h'.get? b = some o → (h'.push ob).get? b = some o := fun e => Heap.get?_push_of_some _ e
  refine PySem.W.kla_eval hd ?_
  match e : codeAmong pos ps.toList with
  | some cv =>
    obtain ⟨c', rfl, hco⟩ := am pos cv e
    exact PySem.W.kla_makeFunctionHit hcl I.ok.glob (I.mod.glob.keeps I.bk) hc (TB.code.keeps I.bk) oP tp e (TB.bm.keeps I.bk) fun ctv h' tk kp hs =>
      k _ c' _ ctv H _ (I.kept fun b o z => old (kp b o z)) (.inl rfl) t (Heap.get?_push_size _ rfl) (I.hok.fresh hs) (frs_new I hs) hco
  | none =>
    refine PySem.W.kla_makeFunction hcl I.ok.glob (I.mod.glob.keeps I.bk) hc (TB.code.keeps I.bk) oP tp e TB.gP (TB.bm.keeps I.bk) fun c' ctv h' tk kp ge lt rec tb => ?_
    obtain ⟨_, oc, vs, u, ew, r1, r2, r3⟩ := rec
    cases ew
    have sz := Nat.le_trans ge (Nat.le_of_lt lt)
    have nc : H c' = none := I.hok.fresh ge
    have nf : H h'.objs.size = none := I.hok.fresh sz
    have ne1 : h'.objs.size ≠ c' := (Nat.ne_of_lt lt).symm
    have ne2 : h'.objs.size ≠ P := fun z => by rw [z, eP] at nf; cases nf
    refine k _ c' _ ctv (tabUp P _ c' (lamQ' X) H) _ (inv_table I eP (fun b o nb z => old (kp b o nb z)) (old tb) ge ⟨oc, vs, u, old r1, r2, r3⟩) (.inr ⟨ps, _, c', eP, nc, rfl, fun H0 z1 z2 z3 => tabUp_tab z1 z2 z3⟩) (tabUp_tab eP nc t) (Heap.get?_push_size _ rfl) ?_ (frs_new I sz) (by unfold tabUp; rw [upd_same])
    unfold tabUp
    rw [upd_ne ne1, upd_ne ne2, nf]
/-- what a call of a def with a lambda asks -/
def tLamS (P : Addr) (q : Str) (TT : (XK → Hp → VK → Prop) → Hp → VK → Prop) (t : XK → TE) : TE := fun σ H Q => TabS H P q ∧ ∀ H1, TStep P q H H1 → TabS H1 P q → TT (fun E H' Q' => t E σ H' Q') H1 Q
end
section
variable {X : Cx} {TT : (XK → Hp → VK → Prop) → Hp → VK → Prop} {x a : Str} {g c P : Addr} {k : Nat} {pg : Arguments} {bg : List Stmt} {sg : Scope} {dV kV doc pm cdv ct oc : Value} {an od : Option Addr} {osl : Array (Option Value)} {Ng : List Str}
    {params : Arguments} {body : Expr} {scope : Scope} {t : XK → TE} {p lpos pos : Pos}
/-- x(lambda: body) -/
theorem pe_lam0 (hg : Gl X x) (hm : X.mg x = some (.ref g)) (hk : PySem.W.keepIn X.K (.ref g) = true)
    (lk : X.K.lookup g = some ⟨oc, od, .func (PySem.W.fnOf x x pg bg sg dV kV doc pm an cdv ct), osl⟩) (hcg : PySem.W.codeIn X.K cdv x = true) (hb : L2.Binds X.K (PySem.W.fnOf x x pg bg sg dV kV doc pm an cdv ct) [a] []) (Sg : FnScope Ng [a] sg) (hNg : Ng[0]? = some a) (hva : Vis sg a)
    (hG : GivesTo X Ng x sg g cdv bg a (lamQ' X) TT) (TB : TabB X.base X.mg c P) (hcode : X.env.code = .ref c) (hr : Room (k + 2) X.A) (L : LamS X.env.scope scope) (hdef : defaultsOf params X.env = ([], []))
    (hbind : ∀ (q : Str) (cl : List (Str × Addr)) (pm cv ctv : Value), bindArgs (PySem.W.kla_fn "<lambda>" q params body scope cl pm cv ctv) ⟨[], []⟩ = pure [])
    (hbody : ∀ (A : Around) (outer : List Env) (s : Shared) (H : Hp) (E : XK) (f c' : Addr), Room k (A.deeper (lamEnv X scope s.heap.objs.size f c')) → PE (lamCx X A outer s H E scope f c') body (t E))
    (d1 : (x == ("__debug__" : Str)) = false := by decide) (d2 : (a == ("__debug__" : Str)) = false := by decide) (d3 : (a == ("__classdict__" : Str)) = false := by decide) :
    PE X (.Call (.Name x p) [.Lambda params body scope lpos] [] pos) (tLamS P (lamQ' X) TT t) := ⟨fun pins s σ H Q I ⟨h1, h2⟩ => by
  refine wpAny_Call_Name_kw (ld_glob I hg hm (PySem.W.callWith_K (h₀ := X.base) I.ok.mod.kin hk ?_ (by rfl) (by rfl)) d1)
  show wpAny _ _ (spliced ((false, eval (.Lambda params body scope lpos) X.env) :: backTo pos (starEach [] X.env))) _ _ s
  refine Calls.spliced_cons (lam_mk I TB hcode hdef L h1 fun f c' pm' ctv H1 s' J st tab hf nf fr hc => Calls.spliced_nil ⟨J.kIn, wpAny_call (codeAny_mono (run_ofS (Q := Q) (E := C8.E0) (CX := C8.CX0) (N := Ng) (ps := [a]) (us := [.ref f]) (vs := [.ref f]) lk hcg Sg hr J.env0 (hb s' [.ref f] J.kIn rfl) (.cons rfl .nil) rfl fun hr' => ?_) fun r s2 hq => ?_)⟩)
  · obtain ⟨t', ht', hq'⟩ := hG f c' s' H1 Q (fun E H' Q' => t E σ H' Q') (fun W pn xe E p1 p2 tk hW => pe_act (i := 0) J L hf nf fr (hbind _ _ _ _ _) tk hW hr' (fun A outer s H hr2 => hbody A outer s H E f c' hr2) hNg hva d2 d3) hc (h2 H1 st tab)
    exact ⟨t', ht'.nox, hq'⟩
  · match r, hq with
    | .error _, hq => exact (show False from hq).elim
    | .ok (.ret u), hq => exact J.after hq
    | .ok .next, hq => exact False.elim hq
    | .ok .brk, hq => exact False.elim hq
    | .ok .cont, hq => exact False.elim hq⟩
end
end Pw
/-! QTo: a told call: what it gave, or which error it raised, as a tuple. -/
namespace Pw
open PySem PySem.Spec PyProof.Rows L2 LamX
/-! ### a table told nothing of -/
mutual
theorem Rp.tbl {K : PySem.W.Frag} {B : Hp} {P : Addr} (hP : ∀ o, B P = some o → ∃ ps, o = .tbl ps) : ∀ (d : D) (v : V), Rp K B d v → Rp K (hid (fun b => b = P) B) d v
  | .non, _, h => h
  | .bl _, _, h => h
  | .int _, _, h => h
  | .str _, _, h => h
  | .byt _, _, h => h
  | .lst ds, _, ⟨a, xs, h1, h2, h3⟩ => ⟨a, xs, h1, (by
      rcases h2 with (h2 | ⟨o, h2⟩) | h2
      · exact .inl (.inl (by rw [hid1 fun z => by rw [z] at h2; obtain ⟨ps, e⟩ := hP _ h2; cases e]; exact h2))
      · exact .inl (.inr ⟨o, by rw [hid1 fun z => by rw [z] at h2; obtain ⟨ps, e⟩ := hP _ h2; cases e]; exact h2⟩)
      · exact .inr h2), RpL.tbl hP ds xs h3⟩
  | .tup ds, _, ⟨a, xs, h1, h2, h3⟩ => ⟨a, xs, h1, (by rw [hid1 fun z => by rw [z] at h2; obtain ⟨ps, e⟩ := hP _ h2; cases e]; exact h2), RpL.tbl hP ds xs h3⟩
  | .dk _ ds, _, ⟨a, xs, h1, h2, h0, h3⟩ => ⟨a, xs, h1, (by
      rcases h2 with h2 | ⟨o, h2⟩
      · exact .inl (by rw [hid1 fun z => by rw [z] at h2; obtain ⟨ps, e⟩ := hP _ h2; cases e]; exact h2)
      · exact .inr ⟨o, by rw [hid1 fun z => by rw [z] at h2; obtain ⟨ps, e⟩ := hP _ h2; cases e]; exact h2⟩), h0, RpL.tbl hP ds xs h3⟩
  | .dt _ ds, _, ⟨a, xs, h1, h2, h0, h3⟩ => ⟨a, xs, h1, (by
      rcases h2 with h2 | ⟨o, h2⟩
      · exact .inl (by rw [hid1 fun z => by rw [z] at h2; obtain ⟨ps, e⟩ := hP _ h2; cases e]; exact h2)
      · exact .inr ⟨o, by rw [hid1 fun z => by rw [z] at h2; obtain ⟨ps, e⟩ := hP _ h2; cases e]; exact h2⟩), h0, RpL.tbl hP ds xs h3⟩
  | .ob _ _ ds, _, ⟨a, dx, xs, h1, h2, h0, h3⟩ => ⟨a, dx, xs, h1, (by rw [hid1 fun z => by rw [z] at h2; obtain ⟨ps, e⟩ := hP _ h2; cases e]; exact h2), h0, RpL.tbl hP ds xs h3⟩
theorem RpL.tbl {K : PySem.W.Frag} {B : Hp} {P : Addr} (hP : ∀ o, B P = some o → ∃ ps, o = .tbl ps) : ∀ (ds : List D) (xs : List V), RpL K B ds xs → RpL K (hid (fun b => b = P) B) ds xs
  | [], _, h => h
  | d :: ds, _, ⟨x, r, h1, h2, h3⟩ => ⟨x, r, h1, Rp.tbl hP d x h2, RpL.tbl hP ds r h3⟩
end
mutual
theorem Ow.tbl {K : PySem.W.Frag} {B H : Hp} {P : Addr} (hP : ∀ o, B P = some o → ∃ ps, o = .tbl ps) : ∀ (t : Tr) (v : V) (as : List Addr), Ow K B H t v as → Ow K (hid (fun b => b = P) B) H t v as
  | .f d, _, _, ⟨h1, h2⟩ => ⟨h1, Rp.tbl hP _ _ h2⟩
  | .n k ts, _, _, ⟨a, xs, rest, h1, h2, h3, h4⟩ => ⟨a, xs, rest, h1, h2, h3, OwL.tbl hP ts xs rest h4⟩
theorem OwL.tbl {K : PySem.W.Frag} {B H : Hp} {P : Addr} (hP : ∀ o, B P = some o → ∃ ps, o = .tbl ps) : ∀ (ts : List Tr) (xs : List V) (as : List Addr), OwL K B H ts xs as → OwL K (hid (fun b => b = P) B) H ts xs as
  | [], _, _, h => h
  | t :: ts, _, _, ⟨x, r, a1, a2, h1, h2, h3, h4⟩ => ⟨x, r, a1, a2, h1, h2, Ow.tbl hP t x a1 h3, OwL.tbl hP ts r a2 h4⟩
end
section
variable {K : PySem.W.Frag} {We : WX} {X : Addr → Prop} {a0 : Addr} {H0 : Hp} {M M' : Msk} {ad ad' : Nat → List Addr} {σ σ' : L2.St} {H H' H1 : Hp} {env env' env'' env2 : List Bd} {l l' : Lv} {p : Bool} {d d' e : D} {ta tb te : TE}
theorem Ow.noTbl {B H : Hp} {P : Addr} {ps : Array Value} (hP : H P = some (.tbl ps)) : ∀ {t : Tr} {v : V} {as : List Addr}, Ow K B H t v as → P ∉ as := by
  have node : ∀ {a : Addr} {xs : List V} {k : Nk}, NodeAt H a xs k → a ≠ P := fun {a xs k} h e => by
    rw [e] at h
    cases k with
    | l => rw [show H P = _ from h] at hP; cases hP
    | dk ks => rw [h.1] at hP; cases hP
    | dt ks => rw [h.1] at hP; cases hP
    | o C ns => obtain ⟨dx, h1, _⟩ := h; rw [h1] at hP; cases hP
    | bad => exact h
  have key : ∀ n : Nat, (∀ (t : Tr) v as, sizeOf t ≤ n → Ow K B H t v as → P ∉ as) ∧ (∀ (ts : List Tr) xs as, sizeOf ts ≤ n → OwL K B H ts xs as → P ∉ as) := by
    intro n
    induction n with
    | zero =>
      refine ⟨fun t v as h => ?_, fun ts xs as h => ?_⟩
      · cases t <;> simp at h
      · cases ts <;> simp at h
    | succ n ih =>
      refine ⟨fun t v as h q => ?_, fun ts xs as h q => ?_⟩
      · cases t with
        | f d => rw [q.1]; simp
        | n k ts =>
          obtain ⟨a, xs, rest, h1, rfl, h3, h4⟩ := q
          intro z
          rcases List.mem_cons.mp z with z | z
          · exact node h3 z.symm
          · exact ih.2 ts xs rest (by simp at h; omega) h4 z
      · cases ts with
        | nil => rw [q.2]; simp
        | cons t ts =>
          obtain ⟨x, r, a1, a2, h1, rfl, h3, h4⟩ := q
          intro z
          rcases List.mem_append.mp z with z | z
          · exact ih.1 t x a1 (by simp at h; omega) h3 z
          · exact ih.2 ts r a2 (by simp at h; omega) h4 z
  intro t v as h
  exact (key (sizeOf t)).1 t v as (Nat.le_refl _) h
/-- the table has grown -/
theorem ER.tab {P c : Addr} {ps ps' : Array Value} {o : HO} (ho : ∀ xs, o ≠ .tup xs) (E : ER K X a0 H0 M ad σ H env) (hP0 : H0 P = some (.tbl ps)) (hc : H c = none) :
    ER K X a0 (upd (upd H0 P (.tbl ps')) c o) M ad σ (upd (upd H P (.tbl ps')) c o) env := by
  have hP : H P = some (.tbl ps) := E.ex P _ hP0
  have hc0 : H0 c = none := by
    cases q : H0 c with
    | none => rfl
    | some u => rw [E.ex c u q] at hc; cases hc
  have at_ : ∀ b, b ≠ P → b ≠ c → upd (upd H P (.tbl ps')) c o b = H b := fun b h1 h2 => by rw [upd_ne h2, upd_ne h1]
  have nPc : P ≠ c := fun z => by rw [z, hc] at hP; cases hP
  have atP : upd (upd H P (.tbl ps')) c o P = some (.tbl ps') := by rw [upd_ne nPc, upd_same]
  have nt : ∀ b, Nt (H b) → Nt (upd (upd H P (.tbl ps')) c o b) := fun b h => by
    by_cases h1 : b = P
    · rw [h1, atP]; exact ⟨by simp, by simp⟩
    · have h2 : b ≠ c := fun z => by rw [z] at h; exact h.1 hc
      rw [at_ b h1 h2]; exact h
  have up : ∀ m : Addr → Prop, Ex (hid (fun b => b = P) (hid m H)) (hid m (upd (upd H P (.tbl ps')) c o)) := fun m b u h => by
    obtain ⟨h1, h⟩ := of_hid h
    obtain ⟨h2, h⟩ := of_hid h
    rw [hid_out h2, at_ b h1 fun z => by rw [z, hc] at h; cases h]
    exact h
  have tb : ∀ m : Addr → Prop, ∀ u, hid m H P = some u → ∃ ps, u = .tbl ps := fun m u h => by
    obtain ⟨_, h⟩ := of_hid h
    rw [hP] at h
    exact ⟨_, (Option.some.inj h).symm⟩
  refine ⟨E.len, fun b u h => ?_, fun b h => nt b (E.xin b h), fun b h => nt b (E.min b h), fun b h => ?_, fun i d h => ?_, fun i d h => ?_, fun i t h => ?_, E.xt, fun i t h => ?_, E.dj, E.t0⟩
  · by_cases h2 : b = c
    · rw [h2, upd_same] at h ⊢; exact h
    · rw [upd_ne h2] at h ⊢
      by_cases h1 : b = P
      · rw [h1, upd_same] at h ⊢; exact h
      · rw [upd_ne h1] at h ⊢; exact E.ex b u h
  · have h1 : b ≠ P := fun z => by rw [z] at h; rw [E.mout P h] at hP0; cases hP0
    have h2 : b ≠ c := fun z => by rw [z] at h; exact (E.min c h).1 hc
    rw [upd_ne h2, upd_ne h1]; exact E.mout b h
  · obtain ⟨v, h1, h2⟩ := E.im i d h
    exact ⟨v, h1, Rp.mono (up _) _ _ (Rp.tbl (tb _) _ _ h2)⟩
  · obtain ⟨v, h1, h2⟩ := E.rd i d h
    exact ⟨v, h1, Rp.mono (up _) _ _ (Rp.tbl (tb _) _ _ h2)⟩
  · obtain ⟨h1, h2, v, h3, h4⟩ := E.ws i t h
    refine ⟨h1, h2, v, h3, Ow.mono (up _) _ _ _ (fun b hb => at_ b (fun z => Ow.noTbl hP h4 (z ▸ hb)) fun z => ?_) (Ow.tbl (tb _) _ _ _ h4)⟩
    rw [z] at hb
    exact (Ow.nt _ _ _ h4 c hb).1 hc
  · obtain ⟨v, as, h1, h2, h3, h4⟩ := E.tq i t h
    refine ⟨v, as, h1, h2, h3, Ow.mono (up _) _ _ _ (fun b hb => at_ b (fun z => Ow.noTbl hP h4 (z ▸ hb)) fun z => ?_) (Ow.tbl (tb _) _ _ _ h4)⟩
    rw [z] at hb
    exact (Ow.nt _ _ _ h4 c hb).1 hc
/-! ### told -/
def TTld (K : PySem.W.Frag) (OKe : Er → D → Prop) : (XK → Hp → VK → Prop) → Hp → VK → Prop := fun tl H Q =>
  tl (fun cls dd H' => ∃ e r, OKe e r ∧ ErOk K H' e cls dd ∧ ∀ v H'', Ex H' H'' → Rp K (hid (fun b => Nt (H' b)) H'') r v → Q v H'') H Q
def ToldIs (OKe : Er → D → Prop) (d : D) : D ⊕ Er → Prop
  | .inl d0 => d0 = d
  | .inr e => OKe e d
theorem evj_told {P : Addr} {q : Str} {OKe : Er → D → Prop} {ks : List Bool} {ds : List D} {R : List D → D ⊕ Er → Prop} {r : D ⊕ Er} {tas : TA} (hk : ks.length = ds.length) (h : EvA K .l2 true tas env env ds) (hR : R ds r) (hd : ToldIs OKe d r) :
    EvJ (fun H => TabS H P q) K .l2 (tLamS P q (TTld K OKe) (fun E => tCallS (SpPX K ks R) (fun _ => E) tas)) env env d := fun X a0 H0 M ad σ H Q j E k => by
  refine ⟨j.ext E.ex, fun H1 st T1 => ?_⟩
  obtain ⟨H0', j1, E1⟩ : ∃ H0', TabS H0' P q ∧ ER K X a0 H0' M ad σ H1 env := by
    rcases st with rfl | ⟨ps, ps', c', h1, h2, rfl, tab⟩
    · exact ⟨H0, j, E⟩
    · obtain ⟨ps0, hP0, _⟩ := id j
      have := E.ex P _ hP0
      rw [h1] at this
      cases this
      have hc0 : H0 c' = none := by
        cases z : H0 c' with
        | none => rfl
        | some u => rw [E.ex c' u z] at h2; cases h2
      exact ⟨_, tab H0 hP0 hc0 j, E.tab (fun xs z => nomatch (show HO.ext _ = HO.tup xs from z)) hP0 h2⟩
  refine h X a0 H0' M ad σ H1 _ E1 fun vs H2 E2 e1 p1 a => ?_
  refine ⟨mk .l2 M X, ds, r, hR, mk_dom E2, ArgOk.ofL hk a, ?_⟩
  cases r with
  | inl d0 =>
    have hd : d0 = d := hd
    subst hd
    exact fun v H' g rv => k H0' v H' j1 (E2.grow g) rv
  | inr er =>
    intro cls dd H' g ok
    have E3 := E2.grow g
    exact ⟨er, d, hd, ok, fun v H'' g2 rv => k H0' v H'' j1 (E3.grow g2) (Rp.mono (hid_le fun b z => mk_dom E3 b z) _ _ rv)⟩
end
/-- a suite is entered with all slots there -/
theorem takes_len {X : Cx} {W : WX} (tk : Takes X W) : Takes X (fun cls d σ H => σ.length = X.N.length → W cls d σ H) := fun u s' x => by
  refine tk u s' ?_
  obtain ⟨a, B, sI, pins, σ, H, cls, d, e, I, r1, r2, r3, r4, r5, r6, r7⟩ := x
  exact ⟨a, B, sI, pins, σ, H, cls, d, e, I, r1, r2, r3, r4, r5, r6, r7 I.len⟩
theorem told_gives {X : Cx} {OKe : Er → D → Prop} {Ng : List Str} {x a on en q : Str} {sg : Scope} {g CS : Addr} {cdg : Value} {b0 : Stmt} {suite : List Stmt} {p1 p2 p3 p4 p7 p8 : Pos} (hge : sg.names.lookup on = some .globalImplicit) (hme : X.mg on = some (.ref CS)) (hde : (on == ("__debug__" : Str)) = false)
    (hNd : Ng.Nodup) (hi : Ng[1]? = some en) (hkn : sg.names.lookup en = some .local)
    (h0 : ∀ f : Addr, (L2.start Ng [V.ref f])[0]? = some (some (V.ref f)))
    (hx : ∀ e r, OKe e r → PySem.W.exmOne X.K (.ref (He.ga X.K e.nm)) (.ref CS) = some true)
    (hs : ∀ (s : Shared) (H : Hp) (e : Er) (r : D), OKe e r → ∀ (a : Addr) (d : Option Addr), ∃ t : TS, (∀ (oe : Obj) (pn : List (Addr × Obj)), Zc (.ref (He.ga X.K e.nm)) d oe → (∃ vs, oe.data = .fields vs) → PSs ((cxOf C8.CX0 X.prog X.w X.K X.mg X.base Ng x sg g cdg X.A X.stack s H C8.E0).nox.suite a ((a, oe) :: pn)) (b0 :: suite) t) ∧
      ∀ (H1 : Hp) (Q : VK) (Dn : Ends) (σ1 : L2.St), Dn.rt = Q → σ1.length = Ng.length → σ1[1]? = some (some (.ref a)) → H1 a = none → ErOk X.K H1 e (.ref (He.ga X.K e.nm)) d → (∀ v H2, Ex H1 H2 → Rp X.K (hid (fun b => Nt (H1 b)) H2) r v → Q v H2) → t Dn σ1 H1) :
    GivesTo X Ng x sg g cdg [.Try [.Return (some (.Call (.Name a p1) [] [] p2)) p3] [.ExceptHandler (some (.Name on p4)) (some en) (b0 :: suite) p7] [] [] p8] a q (TTld X.K OKe) := by
  intro f c' s H Q tl act hc h
  have hgl : Gl (cxOf C8.CX0 X.prog X.w X.K X.mg X.base Ng x sg g cdg X.A X.stack s H C8.E0).nox on := hge
  refine ⟨_, pss_one (ps_try_as (X := (cxOf C8.CX0 X.prog X.w X.K X.mg X.base Ng x sg g cdg X.A X.stack s H C8.E0).nox) (c := .ref CS) (i := 1)
      (tb := fun W D σ H => ∃ Ech : XK, (∀ cls d σ' H', Ech cls d H' → σ'.length = Ng.length → W cls d σ' H') ∧ σ[0]? = some (some (.ref f)) ∧ H c' = some (CodeO c' q) ∧ tl Ech H D.rt)
      (ts := fun a cls d Dn σ H1 => ∃ (e : Er) (r : D) (ho : OKe e r), cls = .ref (He.ga X.K e.nm) ∧ (hs s H e r ho a d).choose Dn σ H1)
      rfl rfl hNd hi hkn ⟨hgl, hde, .inl hme⟩ L2.takes0 (fun W pn xe tk _ => ?_) (fun a oe cls d pn hz hf => ?_)), ?_⟩
  · refine ⟨fun pins s' σ H D I h' => ?_⟩
    obtain ⟨Ech, hW, h1, h2, h3⟩ := h'
    have hp := act (fun cls d σ H => σ.length = Ng.length → W cls d σ H) pn xe Ech p1 p2 (takes_len tk) hW
    have hq := pss_one (ps_ret (pos := p3) hp)
    exact hq.run pins s' σ H D I ⟨h1, h2, h3⟩
  · refine ⟨fun pins s' σ' H' D I h' => ?_⟩
    obtain ⟨e, r, ho, rfl, h'⟩ := h'
    exact ((hs s H e r ho a d).choose_spec.1 oe pn hz hf).run pins s' σ' H' D I h'
  · refine ⟨fun cls dd H' => ∃ e r, OKe e r ∧ ErOk X.K H' e cls dd ∧ ∀ v H'', Ex H' H'' → Rp X.K (hid (fun b => Nt (H' b)) H'') r v → Q v H'', fun cls d σ' H' ⟨e, r, ho, ok, k⟩ hl => ?_, h0 f, hc, h⟩
    have ec : cls = .ref (He.ga X.K e.nm) := ok.1
    subst ec
    refine ⟨true, hx e r ho, fun _ a na => ⟨e, r, ho, rfl, (hs s H e r ho a d).choose_spec.2 H' Q _ _ rfl (by rw [List.length_set]; exact hl) (List.getElem?_set_self ?_) na ok k⟩, fun z => nomatch z⟩
    rw [hl]
    exact (List.getElem?_eq_some_iff.mp hi).1
end Pw
/-! QTp: the suite that tells which error it is. -/
namespace Pw
open PySem PySem.Spec PyProof.Rows L2 LamX
def rIsX (K : PySem.W.Frag) (D a : Addr) (d : Option Addr) : List V → Hp → VK → Prop := fun xs H Q => ∃ (c : V) (cv : Value) (b : Bool), xs = [.ref a, c] ∧ (∀ u, RelV c u → u = cv) ∧ PySem.W.kitOne K (.ref D) cv = some b ∧ (∀ dd, d = some dd → H dd ≠ none) ∧ Q (.bl b) H
def excCB (K : PySem.W.Frag) (D : Addr) : Bool := decide (PySem.W.findIn K (.ref D) "__getattribute__" = some (some (.builtin "BaseException.__getattribute__"))) && (decide (PySem.W.findIn K (.ref D) "__getattr__" = some none) && (decide (PySem.W.subIn K (.ref D) (.type "BaseException") = some true) && (PySem.W.hasDictIn K D &&
  (decide (PySem.W.findIn K (.ref D) "__class__" = some (some (.builtin "object.__class__"))) && (decide (PySem.W.specialIn K (.builtin "object.__class__") "__get__" = some (some (.builtin "getset_descriptor.__get__"))) && (decide (PySem.W.takesIn K (.builtin "object.__class__") = some true) && decide (PySem.W.mroIn K D (.type "object") = some true)))))))
theorem excCB_ok {K : PySem.W.Frag} {D : Addr} (h : excCB K D = true) : ExcC K D := by
  unfold excCB at h
  simp only [Bool.and_eq_true, decide_eq_true_eq] at h
  obtain ⟨h1, h2, h3, h4, h5, h6, h7, h8⟩ := h
  exact ⟨h1, h2, h3, h4, h5, h6, h7, h8⟩
theorem call_isY {X : Cx} {a D : Addr} {oe : Obj} {d : Option Addr} (hp : (a, oe) ∈ X.pn) (C : ExcC X.K D) (hz : Zc (.ref D) d oe) (hf : ∃ vs, oe.data = .fields vs) : CallR X (.builtin "isinstance") (rIsX X.K D a d) := by
  intro pins s σ H xs us Q I r h
  obtain ⟨c, cv, b, rfl, hcv, e, hdd, q⟩ := h
  cases r with
  | cons rx rr =>
    cases rr with
    | cons rt rr =>
      cases rr
      cases rx
      have ec := hcv _ rt
      subst ec
      obtain ⟨hget, _⟩ := I.pin (a, oe) (List.mem_append.mpr (.inl hp))
      obtain ⟨vs, hv⟩ := hf
      obtain ⟨od, J⟩ : ∃ od, PySem.W.InstAt s.heap a oe D od := by
        obtain ⟨oc, odd, oda, osl⟩ := oe
        obtain ⟨h1, h2⟩ := hz
        dsimp only at h1 h2 hv
        subst h1 h2 hv
        cases odd with
        | none => exact ⟨none, hget, rfl, rfl, trivial⟩
        | some dd =>
          cases q' : H dd with
          | none => exact absurd q' (hdd dd rfl)
          | some u =>
            obtain ⟨o, ho⟩ := objOk_get (I.hok dd u q')
            exact ⟨some o, hget, rfl, rfl, ho⟩
      exact PySem.W.kia_one (PySem.W.kitx_exc (by obtain ⟨cd, hc, _⟩ := PySem.W.any_some C.hd; rw [hc]; rfl) C.hg C.hk C.hs C.ha C.hn C.ht C.hm) I.kIn J e (fun z => nomatch z) fun tk => ⟨.bl b, H, I.kept (t' := tk) fun _ _ z => z, rfl, q⟩
/-! ### list.count of flat items -/
def rCntV (K : PySem.W.Frag) : V → List V → Hp → VK → Prop := fun x xs H Q => ∃ (a : Addr) (ys : List V) (y : V), x = V.ref a ∧ xs = [y] ∧ SqL K H a ys ∧ flatV y = true ∧ ys.all flatV = true ∧ Q (.int ((ys.countP fun z => eqV z y : Nat) : Int)) H
theorem count_eqU {y : V} : ∀ {ys : List V} {us : List Value}, Vals ys us → ys.all flatV = true → us.countP (eqU y) = ys.countP fun z => eqV z y
  | _, _, .nil, _ => rfl
  | z :: ys, u :: us, .cons r t, f => by
    rw [List.all_cons, Bool.and_eq_true] at f
    rw [List.countP_cons, List.countP_cons, count_eqU t f.2, eqU_of r f.1]
theorem mt_countV {X : Cx} : MtR X "list.count" (rCntV X.K) := by
  intro pins s σ H x xs v us Q I rx rxs h
  obtain ⟨a, ys, y, rfl, rfl, hs, fy, fys, q⟩ := h
  cases rx
  cases rxs with
  | cons ry rt =>
    rename_i uy ut
    cases rt
    obtain ⟨its, rv, ⟨⟨cls, dd, data, sl⟩, n, ho, hc, hdn, hd⟩, hlen⟩ := I.list hs
    simp only at hc hd
    subst hc hd
    refine call_meets PySem.F.slot_list_count ⟨_, ho, rfl⟩ PySem.F.entry_list_count (PySem.F.args_list_count_2 _ _)
      (SeqAt.list_countAt a its.toArray n dd sl uy (eqU y)) ⟨ho, fun u' hu' => mem_eqAt ry fy rv fys u' (by simpa using hu'), ?_⟩
    refine ⟨.int ((ys.countP fun z => eqV z y : Nat) : Int), H, I.tok _, ⟨s.toks, ?_⟩, q⟩
    show Value.int ((its.toArray.toList.countP (eqU y) : Nat) : Int) s.toks = _
    rw [show its.toArray.toList = its from rfl, count_eqU rv fys]
theorem countLK {X : Cx} {K : PySem.W.Frag} (h : X.K = K) : MtR X "list.count" (rCntV K) := h ▸ mt_countV
theorem indexLK {X : Cx} {K : PySem.W.Frag} (h : X.K = K) : MtR X "list.index" (rIndex K) := h ▸ mt_index
theorem isXK {X : Cx} {K : PySem.W.Frag} {a D : Addr} {oe : Obj} {d : Option Addr} (h : X.K = K) (hp : (a, oe) ∈ X.pn) (C : ExcC K D) (hz : Zc (.ref D) d oe) (hf : ∃ vs, oe.data = .fields vs) : CallR X (.builtin "isinstance") (rIsX K D a d) := by subst h; exact call_isY hp C hz hf
theorem pe_bmK {X : Cx} {K : PySem.W.Frag} {o e : Expr} {es : List Expr} {to : TE} {t : TA} {name : Str} {apos cpos : Pos} {T id : String} {r : V → List V → Hp → VK → Prop} (h : X.K = K) (pa : PlainAttrs T) (slot : Slot T name id) (hty : typeOf (.builtin id) = pure (.type "method_descriptor")) (hm : MtR X id r) (ho : PE X o to) (ha : PA X (e :: es) t)
    (hbase : attributeBase o name X.env (eval o X.env) = eval o X.env := by rfl)
    (hfew : ((backTo cpos (starEach (e :: es) X.env)).all (fun x => !x.1) && (backToKw cpos (keywordEach [] X.env)).all (fun x => x.1.isSome)
      && decide ((e :: es).length + ([] : List Keyword).length + (if ([] : List Keyword).isEmpty then 0 else 1) < 30)) = true := by rfl)
    (hline : (apos.endLine == cpos.line) = true := by rfl) (hs : starEach (e :: es) X.env = (false, eval e X.env) :: starEach es X.env := by rfl) (hplain : (backTo cpos (starEach es X.env)).any (·.1) = false := by rfl) :
    PE X (.Call (.Attribute o name apos) (e :: es) [] cpos) (tBM K T r to t) := by
  subst h
  exact pe_bm pa slot hty hm ho ha hbase hfew hline hs hplain
theorem pe_dead {X : Cx} {e : Expr} : PE X e (fun _ _ _ => False) := ⟨fun _ _ _ _ _ _ h => h.elim⟩
end Pw
/-! QTq: the reading of that suite. -/
namespace Pw
open PySem PySem.Spec PyProof.Rows L2 LamX
def tIs (r : List V → Hp → VK → Prop) (v : V) : TE := tCB r (tCons (tVar 1) (tCons (tC v) tNil))
def tEq4 (n : Int) : TT := tTest (tOp rEq (tVar 4) (tC (.int n)))
def tLt4 (n : Int) : TT := tTest (tOp (rI0 fun i j => .bl (decide (i < j))) (tVar 4) (tC (.int n)))
def tTail (K : PySem.W.Frag) (fI1 fP fI2 fR fC fS : TE) : TS :=
  tSeq (tIfS (tLt4 4) (tRet (tOp (rCatU K) (tVar 5) (tTup (tCons fI1 tNil)))) tNext)
  (tSeq (tIfS (tEq4 4) (tRet (tOp (rCatU K) (tVar 5) (tTup (tCons fP (tCons fI2 tNil))))) tNext)
  (tSeq (tIfS (tEq4 5) (tRet (tOp (rCatU K) (tVar 5) (tTup (tCons fR (tCons fC tNil))))) tNext)
  (tRet (tOp (rCatU K) (tVar 5) (tIf (tEq4 6) (tTup (tCons fS tNil)) (tTup tNil))))))
def tSuite (K : PySem.W.Frag) (r : List V → Hp → VK → Prop) (c0 c1 c2 c3 c4 c5 c6 c7 c8 c9 cV : V) (tT : TS) : TS :=
  tSeq (tAsg (tLst (tCons (tIs r c0) (tCons (tIs r c1) (tCons (tIs r c2) tNil)))) (gName 2))
  (tSeq (tAsg (tOp (rCatL K) (tVar 2) (tLst (tCons (tIs r c3) (tCons (tIs r c4) (tCons (tIs r c5) tNil))))) (gName 2))
  (tSeq (tAsg (tOp (rCatL K) (tVar 2) (tLst (tCons (tIs r c6) (tCons (tIs r c7) (tCons (tIs r c8) tNil))))) (gName 2))
  (tSeq (tDrop (tBM K "list" rAppend (tVar 2) (tCons (tIs r c9) tNil)))
  (tSeq (tAsg (tLst (tCons (tC (.str "InvalidWindows")) (tCons (tC (.str "InvalidLog")) (tCons (tC (.str "InvalidSchedule")) (tCons (tC (.str "InvalidTimes")) (tCons (tC (.str "InvalidSystem")) tNil)))))) (gName 3))
  (tSeq (tAsg (tOp (rCatL K) (tVar 3) (tLst (tCons (tC (.str "InvalidTable")) (tCons (tC (.str "ImpossibleLog")) (tCons (tC (.str "UnknownService")) (tCons (tC (.str "InvalidGap")) (tCons (tC (.str "TooManyAttempts")) tNil))))))) (gName 3))
  (tSeq (tAsg (tIf (tAnd (tTest (tOp rEq (tBM K "list" (rCntV K) (tVar 2) (tCons (tC (.bl true)) tNil)) (tC (.int 1)))) (tB (tIs r cV))) (tBM K "list" (rIndex K) (tVar 2) (tCons (tC (.bl true)) tNil)) (tC (.int 99))) (gName 4))
  (tSeq (tAsg (tTup (tCons (tC (.str "error")) (tCons (tIf (tLt4 99) (tOp (rIxL K) (tVar 3) (tVar 4)) (tC (.str "other"))) tNil))) (gName 5))
  tT)))))))
theorem Ex.upd {H1 H : Hp} {p : Addr} {o : HO} (e : Ex H1 H) (h : H1 p = none) : Ex H1 (L2.upd H p o) := fun b u hb => by
  rw [upd_ne (ne_of_none hb h)]; exact e b u hb
theorem new_of {H1 H : Hp} {p : Addr} (e : Ex H1 H) (h : H p = none) : H1 p = none := by
  cases q : H1 p with
  | none => rfl
  | some u => rw [e p u q] at h; cases h
def termsT : List Str := ["InvalidWindows", "InvalidLog", "InvalidSchedule", "InvalidTimes", "InvalidSystem", "InvalidTable", "ImpossibleLog", "UnknownService", "InvalidGap", "TooManyAttempts"]
def L10 (k0 : Nat) : List V := (List.range 10).map fun j => V.bl (decide (j = k0))
theorem cnt10 : ∀ k0 : Nat, k0 < 10 → (((L10 k0).countP fun z => eqV z (.bl true) : Nat) : Int) = 1
  | 0, _ => rfl | 1, _ => rfl | 2, _ => rfl | 3, _ => rfl | 4, _ => rfl | 5, _ => rfl | 6, _ => rfl | 7, _ => rfl | 8, _ => rfl | 9, _ => rfl
  | n + 10, h => absurd h (by omega)
theorem at10 {k0 j : Nat} {z : V} (h : (L10 k0)[j]? = some z) : z = .bl (decide (j = k0)) := by
  unfold L10 at h
  rw [List.getElem?_map] at h
  obtain ⟨y, hy, rfl⟩ := Option.map_eq_some_iff.mp h
  have hlt := (List.getElem?_eq_some_iff.mp hy).1
  rw [List.length_range] at hlt
  rw [List.getElem?_range hlt] at hy
  cases hy
  rfl
theorem is10 {k0 : Nat} (hk : k0 < 10) : (L10 k0)[k0]? = some (.bl true) := by
  unfold L10
  rw [List.getElem?_map, List.getElem?_range hk]
  show some (V.bl (decide (k0 = k0))) = _
  rw [decide_eq_true rfl]
theorem flat10 {k0 : Nat} : (L10 k0).all flatV = true := by
  unfold L10
  rw [List.all_map]
  rfl
theorem terms_at : ∀ k0 : Nat, k0 < 10 → atI ([.str "InvalidWindows", .str "InvalidLog", .str "InvalidSchedule", .str "InvalidTimes", .str "InvalidSystem"] ++ [.str "InvalidTable", .str "ImpossibleLog", .str "UnknownService", .str "InvalidGap", .str "TooManyAttempts"] : List V) (k0 : Nat) = some (.str (termsT.getD k0 ""))
  | 0, _ => rfl | 1, _ => rfl | 2, _ => rfl | 3, _ => rfl | 4, _ => rfl | 5, _ => rfl | 6, _ => rfl | 7, _ => rfl | 8, _ => rfl | 9, _ => rfl
  | n + 10, h => absurd h (by omega)
theorem itT {c : Bool} {a b : Prop} (h : c = true) (x : a) : if c = true then a else b := by rw [if_pos h]; exact x
theorem itF {c : Bool} {a b : Prop} (h : c = false) (x : b) : if c = true then a else b := by rw [h, if_neg Bool.false_ne_true]; exact x
theorem suite_ok {K : PySem.W.Frag} {a : Addr} {H1 : Hp} {Dn : Ends} {σ1 : L2.St} {r : List V → Hp → VK → Prop} {c0 c1 c2 c3 c4 c5 c6 c7 c8 c9 cV : V} {tT : TS} (k0 : Nat) (hk : k0 < 10)
    (hI : ∀ (j : Nat) (c : V), ([c0, c1, c2, c3, c4, c5, c6, c7, c8, c9] : List V)[j]? = some c → ∀ H Q, Ex H1 H → Q (.bl (decide (j = k0))) H → r [.ref a, c] H Q) (hV : ∀ H Q, Ex H1 H → Q (.bl true) H → r [.ref a, cV] H Q)
    (hl : σ1.length = 6) (h1 : σ1[1]? = some (some (.ref a)))
    (hT : ∀ σ H p5, Ex H1 H → σ.length = 6 → σ[1]? = some (some (.ref a)) → σ[4]? = some (some (.int (k0 : Nat))) → σ[5]? = some (some (.ref p5)) → H1 p5 = none → H p5 = some (.tup [.str "error", .str (termsT.getD k0 "")]) → tT Dn σ H) :
    tSuite K r c0 c1 c2 c3 c4 c5 c6 c7 c8 c9 cV tT Dn σ1 H1 := by
  obtain ⟨s0, s1, s2, s3, s4, s5, rfl⟩ : ∃ s0 s1 s2 s3 s4 s5, σ1 = [s0, s1, s2, s3, s4, s5] := by
    match σ1, hl with
    | [s0, s1, s2, s3, s4, s5], _ => exact ⟨_, _, _, _, _, _, rfl⟩
  have h1 : s1 = some (.ref a) := Option.some.inj h1
  subst h1
  unfold tSuite
  have isE : ∀ (σ : L2.St) (j : Nat) (c : V), ([c0, c1, c2, c3, c4, c5, c6, c7, c8, c9] : List V)[j]? = some c → σ[1]? = some (some (.ref a)) → ∀ H (Q : VK), Ex H1 H → Q (.bl (decide (j = k0))) H → tIs r c σ H Q := fun σ j c hj hσ H Q e q => ⟨_, hσ, hI j c hj H Q e q⟩
  refine isE _ 0 _ rfl rfl H1 _ (Ex.refl _) (isE _ 1 _ rfl rfl H1 _ (Ex.refl _) (isE _ 2 _ rfl rfl H1 _ (Ex.refl _) ⟨(by show 3 ≤ sizeLine; decide), fun p1 n1 => ?_⟩))
  have x1 : Ex H1 (upd H1 p1 (.lst [.bl (decide (0 = k0)), .bl (decide (1 = k0)), .bl (decide (2 = k0))])) := Ex.new n1
  refine ⟨_, rfl, isE _ 3 _ rfl rfl _ _ x1 (isE _ 4 _ rfl rfl _ _ x1 (isE _ 5 _ rfl rfl _ _ x1 ⟨(by show 3 ≤ sizeLine; decide), fun p2 n2 => ?_⟩))⟩
  have m2 := new_of x1 n2
  have x2 := Ex.upd (o := .lst [.bl (decide (3 = k0)), .bl (decide (4 = k0)), .bl (decide (5 = k0))]) x1 m2
  have ne12 : p1 ≠ p2 := fun z => by rw [z, upd_same] at n2; cases n2
  refine ⟨p1, p2, _, _, rfl, rfl, SqL.of (by rw [upd_ne ne12, upd_same]), SqL.of upd_same, (by show 6 ≤ sizeLine; decide), fun p3 n3 => ?_⟩
  have m3 := new_of x2 n3
  have x3 := Ex.upd (o := .lst ([.bl (decide (0 = k0)), .bl (decide (1 = k0)), .bl (decide (2 = k0))] ++ [.bl (decide (3 = k0)), .bl (decide (4 = k0)), .bl (decide (5 = k0))])) x2 m3
  refine ⟨_, rfl, isE _ 6 _ rfl rfl _ _ x3 (isE _ 7 _ rfl rfl _ _ x3 (isE _ 8 _ rfl rfl _ _ x3 ⟨(by show 3 ≤ sizeLine; decide), fun p4 n4 => ?_⟩))⟩
  have m4 := new_of x3 n4
  have x4 := Ex.upd (o := .lst [.bl (decide (6 = k0)), .bl (decide (7 = k0)), .bl (decide (8 = k0))]) x3 m4
  have ne34 : p3 ≠ p4 := fun z => by rw [z, upd_same] at n4; cases n4
  refine ⟨p3, p4, _, _, rfl, rfl, SqL.of (by rw [upd_ne ne34, upd_same]), SqL.of upd_same, (by show 9 ≤ sizeLine; decide), fun p5 n5 => ?_⟩
  have m5 := new_of x4 n5
  generalize hL : ([V.bl (decide (0 = k0)), .bl (decide (1 = k0)), .bl (decide (2 = k0))] ++ [.bl (decide (3 = k0)), .bl (decide (4 = k0)), .bl (decide (5 = k0))]) ++ [.bl (decide (6 = k0)), .bl (decide (7 = k0)), .bl (decide (8 = k0))] = L9
  have hL9 : L9.length = 9 := by rw [← hL]; rfl
  have hL10 : L9 ++ [.bl (decide (9 = k0))] = L10 k0 := by rw [← hL]; rfl
  have x5 := Ex.upd (o := .lst L9) x4 m5
  refine ⟨_, rfl, .inl ⟨rfl, _, SqL.of upd_same⟩, isE _ 9 _ rfl rfl _ _ x5 ⟨p5, L9, _, rfl, rfl, upd_same, by rw [hL9]; decide, ?_⟩⟩
  rw [hL10]
  have x6 := Ex.upd (o := .lst (L10 k0)) x5 m5
  have a5 : upd (upd (upd (upd (upd (upd H1 p1 (.lst [.bl (decide (0 = k0)), .bl (decide (1 = k0)), .bl (decide (2 = k0))])) p2 (.lst [.bl (decide (3 = k0)), .bl (decide (4 = k0)), .bl (decide (5 = k0))])) p3 (.lst ([.bl (decide (0 = k0)), .bl (decide (1 = k0)), .bl (decide (2 = k0))] ++ [.bl (decide (3 = k0)), .bl (decide (4 = k0)), .bl (decide (5 = k0))]))) p4 (.lst [.bl (decide (6 = k0)), .bl (decide (7 = k0)), .bl (decide (8 = k0))])) p5 (.lst L9)) p5 (.lst (L10 k0)) p5 = some (.lst (L10 k0)) := upd_same
  generalize upd (upd _ p5 (.lst L9)) p5 (.lst (L10 k0)) = G5 at x6 a5 ⊢
  refine ⟨(by show 5 ≤ sizeLine; decide), fun p6 n6 => ?_⟩
  have m6 := new_of x6 n6
  have x7 := Ex.upd (o := .lst [.str "InvalidWindows", .str "InvalidLog", .str "InvalidSchedule", .str "InvalidTimes", .str "InvalidSystem"]) x6 m6
  have y7 : Ex G5 (upd G5 p6 (.lst [.str "InvalidWindows", .str "InvalidLog", .str "InvalidSchedule", .str "InvalidTimes", .str "InvalidSystem"])) := Ex.new n6
  refine ⟨_, rfl, ⟨(by show 5 ≤ sizeLine; decide), fun p7 n7 => ?_⟩⟩
  have m7 := new_of x7 n7
  have x8 := Ex.upd (o := .lst [.str "InvalidTable", .str "ImpossibleLog", .str "UnknownService", .str "InvalidGap", .str "TooManyAttempts"]) x7 m7
  have y8 := y7.trans (Ex.new (o := .lst [.str "InvalidTable", .str "ImpossibleLog", .str "UnknownService", .str "InvalidGap", .str "TooManyAttempts"]) n7)
  have ne67 : p6 ≠ p7 := fun z => by rw [z, upd_same] at n7; cases n7
  refine ⟨p6, p7, _, _, rfl, rfl, SqL.of (by rw [upd_ne ne67, upd_same]), SqL.of upd_same, (by show 10 ≤ sizeLine; decide), fun p8 n8 => ?_⟩
  have m8 := new_of x8 n8
  have x9 := Ex.upd (o := .lst ([.str "InvalidWindows", .str "InvalidLog", .str "InvalidSchedule", .str "InvalidTimes", .str "InvalidSystem"] ++ [.str "InvalidTable", .str "ImpossibleLog", .str "UnknownService", .str "InvalidGap", .str "TooManyAttempts"])) x8 m8
  have a5' := (y8.trans (Ex.new (o := .lst ([.str "InvalidWindows", .str "InvalidLog", .str "InvalidSchedule", .str "InvalidTimes", .str "InvalidSystem"] ++ [.str "InvalidTable", .str "ImpossibleLog", .str "UnknownService", .str "InvalidGap", .str "TooManyAttempts"])) n8)) p5 _ a5
  have a8 : upd (upd (upd G5 p6 (.lst [.str "InvalidWindows", .str "InvalidLog", .str "InvalidSchedule", .str "InvalidTimes", .str "InvalidSystem"])) p7 (.lst [.str "InvalidTable", .str "ImpossibleLog", .str "UnknownService", .str "InvalidGap", .str "TooManyAttempts"])) p8 (.lst ([.str "InvalidWindows", .str "InvalidLog", .str "InvalidSchedule", .str "InvalidTimes", .str "InvalidSystem"] ++ [.str "InvalidTable", .str "ImpossibleLog", .str "UnknownService", .str "InvalidGap", .str "TooManyAttempts"])) p8 = some (.lst ([.str "InvalidWindows", .str "InvalidLog", .str "InvalidSchedule", .str "InvalidTimes", .str "InvalidSystem"] ++ [.str "InvalidTable", .str "ImpossibleLog", .str "UnknownService", .str "InvalidGap", .str "TooManyAttempts"])) := upd_same
  generalize upd (upd (upd G5 p6 _) p7 _) p8 _ = G8 at x9 a5' a8 ⊢
  refine ⟨.ref p5, rfl, .inl ⟨rfl, _, SqL.of a5'⟩, p5, L10 k0, .bl true, rfl, rfl, SqL.of a5', rfl, flat10, ?_⟩
  rw [cnt10 k0 hk]
  refine ⟨rfl, _, rfl, ?_⟩
  refine itT (decide_eq_true rfl) ?_
  refine ⟨_, rfl, hV G8 _ x9 ⟨true, rfl, ?_⟩⟩
  refine itT rfl ?_
  refine ⟨.ref p5, rfl, .inl ⟨rfl, _, SqL.of a5'⟩, p5, L10 k0, .bl true, k0, .bl true, rfl, rfl, SqL.of a5', rfl, flat10, is10 hk, rfl, fun m z hm hz => ?_, ?_⟩
  · rw [at10 hz, decide_eq_false (by omega)]; rfl
  refine ⟨_, rfl, k0, 99, rfl, rfl, _, rfl, ?_⟩
  refine itT (decide_eq_true (by omega)) ?_
  refine ⟨.ref p8, rfl, .int (k0 : Nat), rfl, p8, _, _, _, rfl, rfl, SqL.of a8, terms_at k0 hk, (by show 2 ≤ sizeLine; decide), fun p9 n9 => ?_⟩
  exact hT _ _ p9 (x9.trans (Ex.new n9)) rfl rfl rfl rfl (new_of x9 n9) upd_same
theorem tail_none {K : PySem.W.Frag} {H1 H : Hp} {Dn : Ends} {σ : L2.St} {p5 : Addr} {nm : Str} {fI1 fP fI2 fR fC fS : TE} {k0 : Nat} (hk : 7 ≤ k0) (e : Ex H1 H) (h4 : σ[4]? = some (some (.int (k0 : Nat)))) (h5 : σ[5]? = some (some (.ref p5))) (n5 : H1 p5 = none) (a5 : H p5 = some (.tup [.str "error", .str nm]))
    (k : ∀ v H2, Ex H1 H2 → Rp K (hid (fun b => Nt (H1 b)) H2) (.tup [.str "error", .str nm]) v → Dn.rt v H2) : tTail K fI1 fP fI2 fR fC fS Dn σ H := by
  unfold tTail
  have ne : ∀ n : Int, n < 7 → V.int (k0 : Nat) ≠ V.int n := fun n hn z => by injection z with z; omega
  refine ⟨_, h4, (k0 : Nat), 4, rfl, rfl, _, rfl, ?_⟩
  refine itF (decide_eq_false (by omega)) ?_
  refine ⟨_, h4, rfl, _, rfl, ?_⟩
  refine itF (decide_eq_false (ne 4 (by decide))) ?_
  refine ⟨_, h4, rfl, _, rfl, ?_⟩
  refine itF (decide_eq_false (ne 5 (by decide))) ?_
  refine ⟨_, h5, _, h4, rfl, _, rfl, ?_⟩
  refine itF (decide_eq_false (ne 6 (by decide))) ?_
  refine ⟨(by show 0 ≤ sizeLine; decide), fun p6 n6 => ⟨p5, p6, _, [], rfl, rfl, SqT.of ((Ex.new n6) p5 _ a5), SqT.of upd_same, (by show 2 ≤ sizeLine; decide), (fun z => nomatch z), fun _ _ => ?_, fun _ z => absurd rfl z⟩⟩
  refine k _ _ (e.trans (Ex.new n6)) ⟨p5, _, rfl, ?_, .str "error", _, rfl, rfl, .str nm, _, rfl, rfl, rfl⟩
  rw [hid_out fun z => z.1 n5]
  exact (Ex.new n6) p5 _ a5
end Pw
/-! QTr: data of any kind as they stand (dyn). -/
namespace Pw
open PySem L2
def dOk : Nat → D → Bool
  | _, .non => true
  | _, .bl _ => true
  | _, .int _ => true
  | _, .str s => (PyData.str s).canLay0
  | n + 1, .lst ds => ds.all (dOk n)
  | n + 1, .tup ds => ds.all (dOk n)
  | _, _ => false
mutual
def D.pd : D → PyData
  | .non => .none
  | .bl b => .bool b
  | .int i => .int i
  | .str s => .str s
  | .lst ds => .list (D.pds ds)
  | .tup ds => .tuple (D.pds ds)
  | _ => .none
def D.pds : List D → List PyData
  | [] => []
  | d :: ds => D.pd d :: D.pds ds
end
theorem dp_of : ∀ (n : Nat) (d : D), dOk n d = true → (∀ K H v, Rp K H d v → Dp K H v d.pd) ∧ d.pd.canLay0 = true ∧ d.pd.depth ≤ n + 3 := by
  have key : ∀ (n : Nat), (∀ d, dOk n d = true → (∀ K H v, Rp K H d v → Dp K H v d.pd) ∧ d.pd.canLay0 = true ∧ d.pd.depth ≤ n + 3) →
      ∀ ds : List D, ds.all (dOk n) = true → (∀ K H vs, RpL K H ds vs → DpAll K H vs (D.pds ds)) ∧ PyData.canLayAll0 (D.pds ds) = true ∧ PyData.depthAll (D.pds ds) ≤ n + 3 := by
    intro n ih ds
    induction ds with
    | nil => intro _; exact ⟨fun K H vs h => by cases h; exact .nil, rfl, by simp [D.pds, PyData.depthAll]⟩
    | cons d ds ihd =>
      intro h
      rw [List.all_cons, Bool.and_eq_true] at h
      obtain ⟨a1, a2, a3⟩ := ih d h.1
      obtain ⟨b1, b2, b3⟩ := ihd h.2
      refine ⟨fun K H vs ⟨x, r, e, q1, q2⟩ => by subst e; exact .cons (a1 K H x q1) (b1 K H r q2), by rw [D.pds, PyData.canLayAll0, a2, b2]; rfl, by simp only [D.pds, PyData.depthAll]; omega⟩
  have sc : ∀ (n : Nat) (d : D), scl d = true → dOk n d = true → (∀ K H v, Rp K H d v → Dp K H v d.pd) ∧ d.pd.canLay0 = true ∧ d.pd.depth ≤ n + 3 := by
    intro n d h hb
    cases d with
    | non => exact ⟨fun K H v h => by have h : v = V.non := h; subst h; exact .non, rfl, by simp [D.pd, PyData.depth]⟩
    | bl b => exact ⟨fun K H v h => by have h : v = V.bl b := h; subst h; exact .bl b, rfl, by simp [D.pd, PyData.depth]⟩
    | int i => exact ⟨fun K H v h => by have h : v = V.int i := h; subst h; exact .int i, rfl, by simp [D.pd, PyData.depth]⟩
    | str s => exact ⟨fun K H v h => by have h : v = V.str s := h; subst h; exact .str s, (by cases n <;> exact hb), by simp [D.pd, PyData.depth]⟩
    | byt b => cases n <;> cases hb
    | _ => cases h
  intro n
  induction n with
  | zero =>
    intro d h
    cases d <;> first | cases h; done | exact sc 0 _ rfl h
  | succ n ih =>
    intro d h
    cases d with
    | lst ds =>
      obtain ⟨b1, b2, b3⟩ := key n ih ds h
      exact ⟨fun K H v ⟨a, xs, h1, h2, h3⟩ => by subst h1; exact .lst h2 (b1 K H xs h3), b2, by simp only [D.pd, PyData.depth]; omega⟩
    | tup ds =>
      obtain ⟨b1, b2, b3⟩ := key n ih ds h
      exact ⟨fun K H v ⟨a, xs, h1, h2, h3⟩ => by subst h1; exact .tup (SqT.of h2) (b1 K H xs h3), b2, by simp only [D.pd, PyData.depth]; omega⟩
    | _ => first | cases h; done | exact sc (n + 1) _ rfl h
section
variable {K : PySem.W.Frag} {env env' : List Bd} {l l' : Lv} {p : Bool} {d d' : D} {ta : TE} {b : Bool}
open Classical in
/-- d == d', asked only when they are the same -/
noncomputable def eqDO (d d' : D) : Option Bool := if d = d' ∧ dOk 50 d = true then some true else none
open Classical in
noncomputable def neDO (d d' : D) : Option Bool := if d = d' ∧ dOk 50 d = true then some false else none
theorem rv_eqDO (h : eqDO d d' = some b) : RV K l l' (rEqD K) d d' (.bl b) := fun X a0 H0 M ad σ H env v w Q E rx ry k => by
  unfold eqDO at h
  split at h
  · rename_i g
    cases h
    obtain ⟨rfl, g⟩ := g
    obtain ⟨h1, h2, h3⟩ := dp_of 50 d g
    refine ⟨d.pd, d.pd, DpM hid_all (h1 _ _ _ rx), DpM hid_all (h1 _ _ _ ry), shaped_of h2 h3 (by omega), shaped_of h2 h3 (by omega), ?_⟩
    rw [PySem.SeqAt.eqv_refl _ h2]
    exact k _ H E (Ex.refl _) rfl
  · cases h
theorem rv_neDO (h : neDO d d' = some b) : RV K l l' (rNeD K) d d' (.bl b) := fun X a0 H0 M ad σ H env v w Q E rx ry k => by
  unfold neDO at h
  split at h
  · rename_i g
    cases h
    obtain ⟨rfl, g⟩ := g
    obtain ⟨h1, h2, h3⟩ := dp_of 50 d g
    refine ⟨d.pd, d.pd, DpM hid_all (h1 _ _ _ rx), DpM hid_all (h1 _ _ _ ry), shaped_of h2 h3 (by omega), shaped_of h2 h3 (by omega), ?_⟩
    rw [PySem.SeqAt.eqv_refl _ h2]
    exact k _ H E (Ex.refl _) rfl
  · cases h
/-- isinstance of data of any kind -/
def isD (d : D) (n : String) : Option Bool := if dOk 50 d = true then kitB (tyN d) n else none
theorem ev_isiD {n : String} (h : EvD K l p ta env env' d) (hk : isD d n = some b) : EvD K l' p (tCB (rIsi K) (tCons ta (tCons (tC (.ty n)) tNil))) env env' (.bl b) := by
  unfold isD at hk
  split at hk
  · rename_i g
    exact ev_isi h hk (fun ks ds e => by subst e; cases g) (fun C ns ds e => by subst e; cases g)
  · cases hk
def dInt : D → Option Int
  | .int i => some i
  | _ => none
theorem dInt_eq {i : Int} (h : dInt d = some i) : d = .int i := by
  cases d <;> first | (cases h; done) | (have := Option.some.inj h; rw [this])
theorem encD_id (ds : List D) : D.lst (ds.map fun z => z) = D.lst ds := by rw [show (fun z : D => z) = id from rfl, List.map_id]
end
end Pw
/-! QTs: told values, the law's own promise, defs that may raise. -/
namespace Pw
open PySem PySem.Spec PyProof.Rows L2 LamX
/-- the tuple that tells of an error -/
def erD (e : Er) : D := .tup (.str "error" :: .str e.nm :: (e.fs.reverse.map (·.2)))
def toldD {α : Type} (f : α → D) : α ⊕ Er → D
  | .inl a => f a
  | .inr e => erD e
def toldO {α : Type} (okE : Er → Bool) (f : α → D) : α ⊕ Er → Option D
  | .inl a => some (f a)
  | .inr e => if okE e = true then some (erD e) else none
/-- what a def that may raise gives -/
def xD {α : Type} (f : α → D) : α ⊕ Er → D ⊕ Er
  | .inl a => .inl (f a)
  | .inr e => .inr e
theorem told_hd {α : Type} {okE : Er → Bool} {f : α → D} {r : α ⊕ Er} {d : D} (h : toldO okE f r = some d) : ToldIs (fun e r => okE e = true ∧ r = erD e) d (xD f r) := by
  cases r with
  | inl a => exact Option.some.inj h
  | inr e =>
    have h : (if okE e = true then some (erD e) else none) = some d := h
    by_cases g : okE e = true
    · rw [if_pos g] at h
      exact ⟨g, (Option.some.inj h).symm⟩
    · rw [if_neg g] at h
      cases h
/-- the way such a def ends: it answers -/
def xo {α : Type} (f : α → D) (n : Nat) : α ⊕ Er → Out
  | .inl a => .rx (f a)
  | .inr e => .er e (List.replicate n .an)
/-- .. or goes on -/
def xn (env : List Bd) (n : Nat) : Unit ⊕ Er → Out
  | .inl _ => .nx env
  | .inr e => .er e (List.replicate n .an)
section
variable {K : PySem.W.Frag} {We : WX} {X : Addr → Prop} {a0 : Addr} {H0 : Hp} {M M' : Msk} {ad ad' : Nat → List Addr} {σ σ' : L2.St} {H H' H1 : Hp} {env env' env'' env2 : List Bd} {l l' : Lv} {p : Bool} {d d' e : D} {ta tb te : TE} {ts tu : TS} {o : Out} {n : Nat}
theorem xo_ret {α : Type} {f : α → D} {n : Nat} (r : α ⊕ Er) : (xo f n r).ret = true := by cases r <;> rfl
theorem xo_nxt {α : Type} {f : α → D} {n : Nat} (r : α ⊕ Er) : (xo f n r).nxt = false := by cases r <;> rfl
theorem ER.anyN (E : ER K X a0 H0 M ad σ H env) (hn : env.length = n) : ER K X a0 H0 M ad σ H (List.replicate n .an) := by
  have at_ : ∀ (j : Nat) b, (List.replicate n Bd.an)[j]? = some b → b = .an := fun j b h => (List.mem_replicate.mp (List.mem_of_getElem? h)).2
  have ow : ∀ (j : Nat) t, own (List.replicate n Bd.an)[j]? = some t → False := fun j t h => by
    cases q : (List.replicate n Bd.an)[j]? with
    | none => rw [q] at h; cases h
    | some b => rw [q, at_ j b q] at h; cases h
  refine ⟨by rw [E.len, hn, List.length_replicate], E.ex, E.xin, E.min, E.mout, fun j d h => (by cases at_ j _ h), fun j d h => (by cases at_ j _ h), fun j t h => (ow j t h).elim, fun j t h => (by cases at_ j _ h), fun j t h => (by cases at_ j _ h), fun j k _ h _ => ?_, fun j v h => ?_⟩
  · obtain ⟨t, h⟩ := own_some h
    exact (ow j t h).elim
  · obtain ⟨b, h1, h2⟩ := pin_some h
    rw [at_ j b h1] at h2
    rcases h2 with ⟨t, z, _⟩ | z <;> cases z
theorem sd_erN {e : Er} (h : SD K We ts env (.er e env')) (hn : env'.length = n) : SD K We ts env (.er e (List.replicate n .an)) := fun X a0 H0 M ad σ H Dn E k =>
  h X a0 H0 M ad σ H Dn E fun M ad σ cls dd H' E' ok => k M ad σ cls dd H' (E'.anyN hn) ok
/-- a statement that is a call which may raise -/
theorem sd_dropXq {α : Type} {f : α → D} {r : α ⊕ Er} (h : EvX K We l te env env (xD f r)) (h1 : ∀ a, r = .inl a → SD K We tu env o) (h2 : ∀ e, r = .inr e → Out.er e (List.replicate n .an) = o) (hn : env.length = n) : SD K We (tSeq (tDrop te) tu) env o := by
  cases r with
  | inl a => exact sd_seq (sd_dropX (r := .inl (f a)) h) (h1 a rfl)
  | inr e =>
    rw [← h2 e rfl]
    exact sd_out (sd_erN (sd_dropX (r := .inr e) h) hn) rfl
theorem xo_xD {α : Type} {f : α → D} {m : Nat} (r : α ⊕ Er) : xo (fun d => d) m (xD f r) = xo f m r := by cases r <;> rfl
theorem run_PXo {ks : List Bool} {R : List D → D ⊕ Er → Prop} {N : List Str} {n m : Nat} {vs : List V} {Q : VK} {E : XK} (hn : ks.length + n = N.length) (h : SpPX K ks R vs H Q E)
    (hb : ∀ ds r, R ds r → SD K (wE E) ts (argEnv ks ds ++ List.replicate n .an) (xo (fun d => d) m r)) : ts { nx := fun _ H' => Q .non H', rt := Q } (L2.start N vs) H :=
  run_PX hn h fun ds r hR => by
    have := hb ds r hR
    cases r with
    | inl d => exact .inl this
    | inr e => exact ⟨_, this⟩
theorem run_PXn {ks : List Bool} {R : List D → D ⊕ Er → Prop} {N : List Str} {n m : Nat} {vs : List V} {Q : VK} {E : XK} (hn : ks.length + n = N.length) (h : SpPX K ks R vs H Q E)
    (hb : ∀ ds r, R ds r → ∃ (r' : Unit ⊕ Er) (env : List Bd), r = xD (fun _ => D.non) r' ∧ SD K (wE E) ts (argEnv ks ds ++ List.replicate n .an) (xn env m r')) : ts { nx := fun _ H' => Q .non H', rt := Q } (L2.start N vs) H :=
  run_PX hn h fun ds r hR => by
    obtain ⟨r', env, rfl, this⟩ := hb ds r hR
    cases r' with
    | inl u => exact .inr ⟨rfl, env, this⟩
    | inr e => exact ⟨_, this⟩
/-- the law's own promise: its table stands in the entry's heap -/
def SpL (P : Addr) (q : Str) (K : PySem.W.Frag) (R : List D → D → Prop) : Sp := fun vs H Q _ => ∃ (X : Addr → Prop) (ds : List D) (b : Bool), R ds (.bl b) ∧ (∀ a, X a → Nt (H a)) ∧ ArgOk K X H [true] ds vs ∧ TabS H P q ∧ ∀ H', Q (.bl b) H'
theorem SpL.len {P : Addr} {q : Str} {R : List D → D → Prop} : ∀ vs H Q E, SpL P q K R vs H Q E → vs.length = 1 := fun vs H Q E ⟨_, _, _, _, _, h, _⟩ => h.length.1
theorem run_L {P : Addr} {q : Str} {R : List D → D → Prop} {N : List Str} {n : Nat} {vs : List V} {Q : VK} {E : XK} (hn : 1 + n = N.length) (h : SpL P q K R vs H Q E)
    (hb : ∀ ds r, R ds r → SJ (fun H => TabS H P q) K (fun _ _ _ _ => False) ts (argEnv [true] ds ++ List.replicate n .an) (.rx r)) : ts { nx := fun _ H' => Q .non H', rt := Q } (L2.start N vs) H := by
  obtain ⟨X, ds, b, hR, hX, ha, hT, hQ⟩ := h
  rw [start_of (n := n) (by rw [ha.length.1]; exact hn)]
  exact hb ds _ hR X 0 H _ _ _ H _ hT (ER.entry hX ha) fun H0' _ env' M ad σ v H' E' rv => by
    have rv : v = V.bl b := rv
    rw [rv]
    exact hQ H'
end
/-- a def whose code object is named -/
theorem okC {P : Program} {w : World} {K : PySem.W.Frag} {mg : Str → Option Value} {base : Heap} {x qual : Str} {params : Arguments} {body : List Stmt} {scope : Scope} {dvs : List V} {kws : List (Str × V)} {p : Str × Option Str} {fd : FuncData} {CX : CXT} {N ps : List Str} {k : Nat} {sp : Sp}
    (F : FunD K x qual params body scope dvs kws (He.fAd K p) fd) (S : FnScope N ps scope) (len : ∀ vs H Q E, sp vs H Q E → vs.length = ps.length)
    (hbody : ∀ (A : Around) (outer : List Env) (s : Shared) (H : Hp) (vs : List V) (Q : VK) (E : XK), Room k (A.deeper (envOfC qual scope s.heap.objs.size (He.fAd K p) (.ref (He.codeOf K p)))) → sp vs H Q E →
      ∃ t, PSs (cxOf CX P w K mg base N qual scope (He.fAd K p) (.ref (He.codeOf K p)) A outer s H E) body t ∧ t { nx := fun _ H' => Q .non H', rt := Q } (start N vs) H) : FnOk P w K mg base CX (k + 1) (He.fAd K p) fd ps sp := by
  obtain ⟨oc, od, dV, kV, doc, pm, an, cdv, ct, osl, efd, lk, hcd, _, _⟩ := F.ex
  subst efd
  obtain ⟨c, e⟩ := He.codeIn_ref hcd
  subst e
  have ec := He.codeOf_eq (p := p) lk rfl
  refine fn_of lk hcd S len fun A outer s H vs Q E hr hsp => ?_
  have := hbody A outer s H vs Q E
  rw [ec] at this
  exact this hr hsp
end Pw
namespace K07
open PySem PySem.Spec PyProof.Rows L2 Pw
abbrev RW : PySem.W.OpenLaw := PySem.Challenge.rw_onceonly_k07_memory_needs
def top (i : Nat) : Stmt := PySem.Challenge.pw_onceonly_k07_memory_needs.main.body.getD i (.Pass ⟨0, 0, 0, 0⟩)
abbrev FnP (K : PySem.W.Frag) (x : Str) (st : Stmt) (f : Addr) (fd : FuncData) : Prop := FunD K x x (defArgs st) (defBody st) (defScope st) [] [] f fd
/-- what the row says -/
structure Tx (K : PySem.W.Frag) (mg : Str → Option Value) where
  a_is_number : Addr
  d_is_number : FuncData
  F_is_number : FnP K "is_number" (top 17) a_is_number d_is_number
  g_is_number : mg "is_number" = some (.ref a_is_number)
  a_is_number_within : Addr
  d_is_number_within : FuncData
  F_is_number_within : FnP K "is_number_within" (top 18) a_is_number_within d_is_number_within
  g_is_number_within : mg "is_number_within" = some (.ref a_is_number_within)
  a_are_offsets : Addr
  d_are_offsets : FuncData
  F_are_offsets : FnP K "are_offsets" (top 19) a_are_offsets d_are_offsets
  g_are_offsets : mg "are_offsets" = some (.ref a_are_offsets)
  a_is_call : Addr
  d_is_call : FuncData
  F_is_call : FnP K "is_call" (top 20) a_is_call d_is_call
  g_is_call : mg "is_call" = some (.ref a_is_call)
  a_check_system : Addr
  d_check_system : FuncData
  F_check_system : FnP K "check_system" (top 21) a_check_system d_check_system
  g_check_system : mg "check_system" = some (.ref a_check_system)
  a_calls_to : Addr
  d_calls_to : FuncData
  F_calls_to : FnP K "calls_to" (top 22) a_calls_to d_calls_to
  g_calls_to : mg "calls_to" = some (.ref a_calls_to)
  a_reachable_services : Addr
  d_reachable_services : FuncData
  F_reachable_services : FnP K "reachable_services" (top 23) a_reachable_services d_reachable_services
  g_reachable_services : mg "reachable_services" = some (.ref a_reachable_services)
  a_shortest_way : Addr
  d_shortest_way : FuncData
  F_shortest_way : FnP K "shortest_way" (top 25) a_shortest_way d_shortest_way
  g_shortest_way : mg "shortest_way" = some (.ref a_shortest_way)
  a_longest_way : Addr
  d_longest_way : FuncData
  F_longest_way : FnP K "longest_way" (top 26) a_longest_way d_longest_way
  g_longest_way : mg "longest_way" = some (.ref a_longest_way)
  a_late_choices : Addr
  d_late_choices : FuncData
  F_late_choices : FnP K "late_choices" (top 27) a_late_choices d_late_choices
  g_late_choices : mg "late_choices" = some (.ref a_late_choices)
  a_early_choices : Addr
  d_early_choices : FuncData
  F_early_choices : FnP K "early_choices" (top 28) a_early_choices d_early_choices
  g_early_choices : mg "early_choices" = some (.ref a_early_choices)
  a_greatest_differences : Addr
  d_greatest_differences : FuncData
  F_greatest_differences : FnP K "greatest_differences" (top 29) a_greatest_differences d_greatest_differences
  g_greatest_differences : mg "greatest_differences" = some (.ref a_greatest_differences)
  a_act_times : Addr
  d_act_times : FuncData
  F_act_times : FnP K "act_times" (top 30) a_act_times d_act_times
  g_act_times : mg "act_times" = some (.ref a_act_times)
  a_check_windows : Addr
  d_check_windows : FuncData
  F_check_windows : FnP K "check_windows" (top 34) a_check_windows d_check_windows
  g_check_windows : mg "check_windows" = some (.ref a_check_windows)
  a_memory_spans : Addr
  d_memory_spans : FuncData
  F_memory_spans : FnP K "memory_spans" (top 35) a_memory_spans d_memory_spans
  g_memory_spans : mg "memory_spans" = some (.ref a_memory_spans)
  a_memory_needs : Addr
  d_memory_needs : FuncData
  F_memory_needs : FnP K "memory_needs" (top 36) a_memory_needs d_memory_needs
  g_memory_needs : mg "memory_needs" = some (.ref a_memory_needs)
  a__law_dice : Addr
  d__law_dice : FuncData
  F__law_dice : FnP K "_law_dice" (top 38) a__law_dice d__law_dice
  g__law_dice : mg "_law_dice" = some (.ref a__law_dice)
  a__law_next : Addr
  d__law_next : FuncData
  F__law_next : FnP K "_law_next" (top 39) a__law_next d__law_next
  g__law_next : mg "_law_next" = some (.ref a__law_next)
  a__law_pick : Addr
  d__law_pick : FuncData
  F__law_pick : FnP K "_law_pick" (top 40) a__law_pick d__law_pick
  g__law_pick : mg "_law_pick" = some (.ref a__law_pick)
  a__law_call : Addr
  d__law_call : FuncData
  F__law_call : FnP K "_law_call" (top 42) a__law_call d__law_call
  g__law_call : mg "_law_call" = some (.ref a__law_call)
  a__law_system : Addr
  d__law_system : FuncData
  F__law_system : FnP K "_law_system" (top 43) a__law_system d__law_system
  g__law_system : mg "_law_system" = some (.ref a__law_system)
  a__law_told : Addr
  d__law_told : FuncData
  F__law_told : FnP K "_law_told" (top 41) a__law_told d__law_told
  g__law_told : mg "_law_told" = some (.ref a__law_told)
  a_law : Addr
  d_law : FuncData
  F_law : FnP K "law" (top 44) a_law d_law
  g_law : mg "law" = some (.ref a_law)
  b_ValueError : mg "ValueError" = none
  b_bool : mg "bool" = none
  b_enumerate : mg "enumerate" = none
  b_int : mg "int" = none
  b_isinstance : mg "isinstance" = none
  b_len : mg "len" = none
  b_max : mg "max" = none
  b_range : mg "range" = none
  b_set : mg "set" = none
  b_sorted : mg "sorted" = none
  b_tuple : mg "tuple" = none
  g_ImpossibleLog : mg "ImpossibleLog" = some (.ref (He.ga K "ImpossibleLog"))
  g_InvalidGap : mg "InvalidGap" = some (.ref (He.ga K "InvalidGap"))
  g_InvalidLog : mg "InvalidLog" = some (.ref (He.ga K "InvalidLog"))
  g_InvalidSchedule : mg "InvalidSchedule" = some (.ref (He.ga K "InvalidSchedule"))
  g_InvalidSystem : mg "InvalidSystem" = some (.ref (He.ga K "InvalidSystem"))
  g_InvalidTable : mg "InvalidTable" = some (.ref (He.ga K "InvalidTable"))
  g_InvalidTimes : mg "InvalidTimes" = some (.ref (He.ga K "InvalidTimes"))
  g_InvalidWindows : mg "InvalidWindows" = some (.ref (He.ga K "InvalidWindows"))
  g_OnceError : mg "OnceError" = some (.ref (He.ga K "OnceError"))
  g_TooManyAttempts : mg "TooManyAttempts" = some (.ref (He.ga K "TooManyAttempts"))
  g_UnknownService : mg "UnknownService" = some (.ref (He.ga K "UnknownService"))
  e_InvalidGap : PySem.W.excIn K (He.ga K "InvalidGap") He.veBase "ValueError.__new__" = true ∧ PySem.W.keepIn K (.ref (He.ga K "InvalidGap")) = true ∧ PySem.W.subIn K (.ref (He.ga K "InvalidGap")) (.type "BaseException") = some true ∧ PySem.W.typeIn K (.ref (He.ga K "InvalidGap")) = some (.type "type")
  xc_InvalidGap : excCB K (He.ga K "InvalidGap") = true
  k_InvalidGap_0 : PySem.W.kitOne K (.ref (He.ga K "InvalidGap")) (.ref (He.ga K "InvalidWindows")) = some false
  k_InvalidGap_1 : PySem.W.kitOne K (.ref (He.ga K "InvalidGap")) (.ref (He.ga K "InvalidLog")) = some false
  k_InvalidGap_2 : PySem.W.kitOne K (.ref (He.ga K "InvalidGap")) (.ref (He.ga K "InvalidSchedule")) = some false
  k_InvalidGap_3 : PySem.W.kitOne K (.ref (He.ga K "InvalidGap")) (.ref (He.ga K "InvalidTimes")) = some false
  k_InvalidGap_4 : PySem.W.kitOne K (.ref (He.ga K "InvalidGap")) (.ref (He.ga K "InvalidSystem")) = some false
  k_InvalidGap_5 : PySem.W.kitOne K (.ref (He.ga K "InvalidGap")) (.ref (He.ga K "InvalidTable")) = some false
  k_InvalidGap_6 : PySem.W.kitOne K (.ref (He.ga K "InvalidGap")) (.ref (He.ga K "ImpossibleLog")) = some false
  k_InvalidGap_7 : PySem.W.kitOne K (.ref (He.ga K "InvalidGap")) (.ref (He.ga K "UnknownService")) = some false
  k_InvalidGap_8 : PySem.W.kitOne K (.ref (He.ga K "InvalidGap")) (.ref (He.ga K "InvalidGap")) = some true
  k_InvalidGap_9 : PySem.W.kitOne K (.ref (He.ga K "InvalidGap")) (.ref (He.ga K "TooManyAttempts")) = some false
  kv_InvalidGap : PySem.W.kitOne K (.ref (He.ga K "InvalidGap")) (.type "ValueError") = some true
  exm_InvalidGap : PySem.W.exmOne K (.ref (He.ga K "InvalidGap")) (.ref (He.ga K "OnceError")) = some true
  ea_law : a_law = He.fAd K ("law", none)
  t_LAST_TICK : Nat
  c_LAST_TICK : mg "LAST_TICK" = some (.int 99 t_LAST_TICK)
  t_LONGEST_GAP : Nat
  c_LONGEST_GAP : mg "LONGEST_GAP" = some (.int 9999 t_LONGEST_GAP)
  t_LONGEST_WINDOW : Nat
  c_LONGEST_WINDOW : mg "LONGEST_WINDOW" = some (.int 9999 t_LONGEST_WINDOW)
  t_MOST_CALLS : Nat
  c_MOST_CALLS : mg "MOST_CALLS" = some (.int 20 t_MOST_CALLS)
  t_MOST_OFFSETS : Nat
  c_MOST_OFFSETS : mg "MOST_OFFSETS" = some (.int 4 t_MOST_OFFSETS)
  t_MOST_SERVICES : Nat
  c_MOST_SERVICES : mg "MOST_SERVICES" = some (.int 8 t_MOST_SERVICES)
section
variable {P : Program} {w : World} {K : PySem.W.Frag} {mg : Str → Option Value} {base : Heap}
/-- is_number -/
def m_is_number (a0 : Int) : Option Bool := some (true && (!false))
def R_is_number : List D → D → Prop := fun ds r => ∃ (a0 : Int) (v : Bool), m_is_number a0 = some v ∧ ds = [(D.int a0)] ∧ r = (D.bl v)
def nm_is_number : List Str := ["value"]
theorem sc_is_number : FnScope ["value"] ["value"] (defScope (top 17)) := ⟨rfl, rfl, rfl, by decide +kernel, rfl, by decide +kernel, by decide +kernel⟩
theorem ok_is_number (T : Tx K mg) : FnOk P w K mg base CX0 1 T.a_is_number T.d_is_number ["value"] (SpP K [true] R_is_number) := by
  refine T.F_is_number.ok sc_is_number (SpP.len rfl) (fun cdv A outer s H vs Q E hr h => ⟨_, PSs.nox (pss_one (ps_ret (pe_and (pe_callB (isiK (K := K) (by rfl)) rfl T.b_isinstance (by decide +kernel) (pa_cons (pv 0) (pa_cons (pe_bltn (v := .ty "int") rfl T.b_int (by decide +kernel) rfl) pa_nil))) (pe_one (pe_not (pe_callB (isiK (K := K) (by rfl)) rfl T.b_isinstance (by decide +kernel) (pa_cons (pv 0) (pa_cons (pe_bltn (v := .ty "bool") rfl T.b_bool (by decide +kernel) rfl) pa_nil)))))))), ?_⟩)
  refine run_P (n := 0) rfl h fun ds r hR => ?_
  obtain ⟨a0, v, h, rfl, rfl⟩ := hR
  unfold m_is_number at h
  refine sd_env (env2 := ([.im (D.int a0)] : List Bd)) rfl ?_
  have h := Option.some.inj h; subst h
  exact (sd_ret (d := (D.bl (true && (!false)))) (ev_lv (l := .l2) rfl (ev_andV (l := .l2) (ev_isi (l := .l2) (ev_im rfl) (show kitB "int" "int" = some true from by decide +kernel)) (fun _ => (ev_notV (l := .l2) (ev_isi (l := .l2) (ev_im rfl) (show kitB "int" "bool" = some false from by decide +kernel)))))))
/-- is_number_d -/
def m_is_number_d (a0 : D) : Option Bool := (isD a0 "int").bind fun x1 => (if x1 = true then (isD a0 "bool").bind fun x2 => some (!x2) else some false).bind fun c3 => some c3
def R_is_number_d : List D → D → Prop := fun ds r => ∃ (a0 : D) (v : Bool), m_is_number_d a0 = some v ∧ ds = [a0] ∧ r = (D.bl v)
def nm_is_number_d : List Str := ["value"]
theorem sc_is_number_d : FnScope ["value"] ["value"] (defScope (top 17)) := ⟨rfl, rfl, rfl, by decide +kernel, rfl, by decide +kernel, by decide +kernel⟩
theorem ok_is_number_d (T : Tx K mg) : FnOk P w K mg base CX0 1 T.a_is_number T.d_is_number ["value"] (SpP K [true] R_is_number_d) := by
  refine T.F_is_number.ok sc_is_number_d (SpP.len rfl) (fun cdv A outer s H vs Q E hr h => ⟨_, PSs.nox (pss_one (ps_ret (pe_and (pe_callB (isiK (K := K) (by rfl)) rfl T.b_isinstance (by decide +kernel) (pa_cons (pv 0) (pa_cons (pe_bltn (v := .ty "int") rfl T.b_int (by decide +kernel) rfl) pa_nil))) (pe_one (pe_not (pe_callB (isiK (K := K) (by rfl)) rfl T.b_isinstance (by decide +kernel) (pa_cons (pv 0) (pa_cons (pe_bltn (v := .ty "bool") rfl T.b_bool (by decide +kernel) rfl) pa_nil)))))))), ?_⟩)
  refine run_P (n := 0) rfl h fun ds r hR => ?_
  obtain ⟨a0, v, h, rfl, rfl⟩ := hR
  unfold m_is_number_d at h
  refine sd_env (env2 := ([.im a0] : List Bd)) rfl ?_
  obtain ⟨x1, hx1, h⟩ := Option.bind_eq_some_iff.mp h
  obtain ⟨c3, hc3, h⟩ := Option.bind_eq_some_iff.mp h
  have h := Option.some.inj h; subst h
  exact (sd_ret (d := (D.bl c3)) (ev_lv (l := .l2) rfl (ev_andW (c := c3) (l := .l2) (ev_isiD (l := .l2) (ev_im rfl) hx1) (fun hb => by have wc3 := ifT hb hc3; obtain ⟨x2, hx2, wc3⟩ := Option.bind_eq_some_iff.mp wc3; have wc3 := Option.some.inj wc3; subst wc3; exact (ev_notV (l := .l2) (ev_isiD (l := .l2) (ev_im rfl) hx2))) (fun hb => by have wc3 := ifF hb hc3; exact (Option.some.inj wc3).symm))))
/-- is_number_within -/
def m_is_number_within (a0 : Int) (a1 : Int) (a2 : Int) : Option Bool := (m_is_number a0).bind fun r1 => some (r1 && ((decide (a1 ≤ a0)) && (decide (a0 ≤ a2))))
def R_is_number_within : List D → D → Prop := fun ds r => ∃ (a0 : Int) (a1 : Int) (a2 : Int) (v : Bool), m_is_number_within a0 a1 a2 = some v ∧ ds = [(D.int a0), (D.int a1), (D.int a2)] ∧ r = (D.bl v)
def nm_is_number_within : List Str := ["value", "low", "high"]
theorem sc_is_number_within : FnScope ["value", "low", "high"] ["value", "low", "high"] (defScope (top 18)) := ⟨rfl, rfl, rfl, by decide +kernel, rfl, by decide +kernel, by decide +kernel⟩
theorem ok_is_number_within (T : Tx K mg) : FnOk P w K mg base CX0 2 T.a_is_number_within T.d_is_number_within ["value", "low", "high"] (SpP K [true, true, true] R_is_number_within) := by
  refine T.F_is_number_within.ok sc_is_number_within (SpP.len rfl) (fun cdv A outer s H vs Q E hr h => ⟨_, PSs.nox (pss_one (ps_ret (pe_and (pe_call (ok_is_number T) (hr.mono (by decide)) rfl T.g_is_number T.F_is_number.kp (T.F_is_number.bindsN fun _ _ _ _ _ _ us hl => match us, hl with | [_], _ => rfl) .nil pass0 (pa_cons (pv 0) pa_nil)) (pe_one (pe_chain op_le op_le (pv 1) (pv 0) (pv 2)))))), ?_⟩)
  refine run_P (n := 0) rfl h fun ds r hR => ?_
  obtain ⟨a0, a1, a2, v, h, rfl, rfl⟩ := hR
  unfold m_is_number_within at h
  refine sd_env (env2 := ([.im (D.int a0), .im (D.int a1), .im (D.int a2)] : List Bd)) rfl ?_
  obtain ⟨r1, hr1, h⟩ := Option.bind_eq_some_iff.mp h
  have h := Option.some.inj h; subst h
  exact (sd_ret (d := (D.bl (r1 && ((decide (a1 ≤ a0)) && (decide (a0 ≤ a2)))))) (ev_lv (l := .l2) rfl (ev_andV (l := .l2) (ev_callK (l := .l2) (ds := [(D.int a0)]) (R := R_is_number) (ek_A (ev_im rfl) ek_nil) ⟨a0, r1, hr1, rfl, rfl⟩) (fun _ => (ev_chain (c := (decide (a0 ≤ a2))) (Bool.eq_false_or_eq_true _) (ev_im rfl) (ev_im rfl) (ev_im rfl) rv_le rv_le)))))
/-- is_number_within_d -/
def m_is_number_within_d (a0 : D) (a1 : Int) (a2 : Int) : Option Bool := (m_is_number_d a0).bind fun r1 => (if r1 = true then (dInt a0).bind fun x2 => some ((decide (a1 ≤ x2)) && (decide (x2 ≤ a2))) else some false).bind fun c3 => some c3
def R_is_number_within_d : List D → D → Prop := fun ds r => ∃ (a0 : D) (a1 : Int) (a2 : Int) (v : Bool), m_is_number_within_d a0 a1 a2 = some v ∧ ds = [a0, (D.int a1), (D.int a2)] ∧ r = (D.bl v)
def nm_is_number_within_d : List Str := ["value", "low", "high"]
theorem sc_is_number_within_d : FnScope ["value", "low", "high"] ["value", "low", "high"] (defScope (top 18)) := ⟨rfl, rfl, rfl, by decide +kernel, rfl, by decide +kernel, by decide +kernel⟩
theorem ok_is_number_within_d (T : Tx K mg) : FnOk P w K mg base CX0 2 T.a_is_number_within T.d_is_number_within ["value", "low", "high"] (SpP K [true, true, true] R_is_number_within_d) := by
  refine T.F_is_number_within.ok sc_is_number_within_d (SpP.len rfl) (fun cdv A outer s H vs Q E hr h => ⟨_, PSs.nox (pss_one (ps_ret (pe_and (pe_call (ok_is_number_d T) (hr.mono (by decide)) rfl T.g_is_number T.F_is_number.kp (T.F_is_number.bindsN fun _ _ _ _ _ _ us hl => match us, hl with | [_], _ => rfl) .nil pass0 (pa_cons (pv 0) pa_nil)) (pe_one (pe_chain op_le op_le (pv 1) (pv 0) (pv 2)))))), ?_⟩)
  refine run_P (n := 0) rfl h fun ds r hR => ?_
  obtain ⟨a0, a1, a2, v, h, rfl, rfl⟩ := hR
  unfold m_is_number_within_d at h
  refine sd_env (env2 := ([.im a0, .im (D.int a1), .im (D.int a2)] : List Bd)) rfl ?_
  obtain ⟨r1, hr1, h⟩ := Option.bind_eq_some_iff.mp h
  obtain ⟨c3, hc3, h⟩ := Option.bind_eq_some_iff.mp h
  have h := Option.some.inj h; subst h
  exact (sd_ret (d := (D.bl c3)) (ev_lv (l := .l2) rfl (ev_andW (c := c3) (l := .l2) (ev_callK (l := .l2) (ds := [a0]) (R := R_is_number_d) (ek_A (ev_im rfl) ek_nil) ⟨a0, r1, hr1, rfl, rfl⟩) (fun hb => by have wc3 := ifT hb hc3; obtain ⟨x2, hx2, wc3⟩ := Option.bind_eq_some_iff.mp wc3; have wc3 := Option.some.inj wc3; subst wc3; exact (ev_chain (c := (decide (x2 ≤ a2))) (Bool.eq_false_or_eq_true _) (ev_im rfl) (ev_is (ev_im rfl) (dInt_eq hx2)) (ev_im rfl) rv_le rv_le)) (fun hb => by have wc3 := ifF hb hc3; exact (Option.some.inj wc3).symm))))
/-- are_offsets -/
def m_are_offsets (a0 : (List Int)) : Option Bool := if ((!true) || (!((decide ((1 : Int) ≤ (List.length a0 : Int))) && (decide ((List.length a0 : Int) ≤ (4 : Int)))))) = true then (some false) else ((foldR (fun (s2 : (Int)) (x1 : Int) => (m_is_number_within x1 s2 (99 : Int)).bind fun r4 => if (!r4) = true then (some (.inr false)) else (some (.inl (x1 + (1 : Int))))) a0 (0 : Int)).bind fun y5 => (match y5 with | .inl y6 => some true | .inr y6 => some y6))
def R_are_offsets : List D → D → Prop := fun ds r => ∃ (a0 : (List Int)) (v : Bool), m_are_offsets a0 = some v ∧ ds = [(D.tup (List.map D.int a0))] ∧ r = (D.bl v)
def nm_are_offsets : List Str := ["value", "low", "offset"]
theorem sc_are_offsets : FnScope ["value", "low", "offset"] ["value"] (defScope (top 19)) := ⟨rfl, rfl, rfl, by decide +kernel, rfl, by decide +kernel, by decide +kernel⟩
theorem ok_are_offsets (T : Tx K mg) : FnOk P w K mg base CX0 3 T.a_are_offsets T.d_are_offsets ["value"] (SpP K [true] R_are_offsets) := by
  refine T.F_are_offsets.ok sc_are_offsets (SpP.len rfl) (fun cdv A outer s H vs Q E hr h => ⟨_, PSs.nox (pss_cons (ps_if (PW.pt (pw_or (pt_not (pt_val (pe_callB (isiK (K := K) (by rfl)) rfl T.b_isinstance (by decide +kernel) (pa_cons (pv 0) (pa_cons (pe_bltn (v := .ty "tuple") rfl T.b_tuple (by decide +kernel) rfl) pa_nil))))) (pw_or1 (pt_not (pt_chain op_le op_le pe_int (pe_callB (lenK (K := K) (by rfl)) rfl T.b_len (by decide +kernel) (pa_cons (pv 0) pa_nil)) (pe_glob (v := .int 4) rfl T.c_MOST_OFFSETS ⟨_, rfl⟩)))))) (pss_one (ps_ret pe_bl)) pss_nil) (pss_cons (ps_set (i := 1) sc_are_offsets.nd rfl (Or.inl rfl) pe_int) (pss_cons (ps_for PassesOwn.never rfl (piTupK (K := K) (by rfl) (pv 0)) (pg_name (i := 2) sc_are_offsets.nd rfl (Or.inl rfl)) (pss_cons (ps_if (pt_not (pt_val (pe_call (ok_is_number_within T) (hr.mono (by decide)) rfl T.g_is_number_within T.F_is_number_within.kp (T.F_is_number_within.bindsN fun _ _ _ _ _ _ us hl => match us, hl with | [_, _, _], _ => rfl) .nil pass0 (pa_cons (pv 2) (pa_cons (pv 1) (pa_cons (pe_glob (v := .int 99) rfl T.c_LAST_TICK ⟨_, rfl⟩) pa_nil)))))) (pss_one (ps_ret pe_bl)) pss_nil) (pss_one (ps_set (i := 1) sc_are_offsets.nd rfl (Or.inl rfl) (pe_op op_add (pv 2) pe_int))))) (pss_one (ps_ret pe_bl))))), ?_⟩)
  refine run_P (n := 2) rfl h fun ds r hR => ?_
  obtain ⟨a0, v, h, rfl, rfl⟩ := hR
  unfold m_are_offsets at h
  refine sd_env (env2 := ([.im (D.tup (List.map D.int a0)), .an, .an] : List Bd)) rfl ?_
  refine sd_ifs (eb_or (eb_not (eb_B (l := .l2) (ev_isi (l := .l2) (ev_im rfl) (show kitB "tuple" "tuple" = some true from by decide +kernel)))) (fun _ => (eb_not (eb_test (l := .l2) (ev_chain (c := (decide ((List.length a0 : Int) ≤ (4 : Int)))) (Bool.eq_false_or_eq_true _) ev_int (ev_cb (l := .l2) (ea_consP (ev_im rfl) ea_nil) (rc_len_tm (f := D.int))) ev_int rv_le rv_le))))) (fun hb => ?_) (fun hb => ?_)
  · replace h := ifT hb h
    have h := Option.some.inj h; subst h
    exact sd_out (sd_ret (d := (D.bl false)) ev_bl) rfl
  · replace h := ifF hb h
    refine sd_seqNext ?_
    refine sd_seq (sd_asg (d := (D.int (0 : Int))) rfl ev_int) ?_
    refine sd_env (env2 := ([.im (D.tup (List.map D.int a0)), .im (D.int (0 : Int)), .an] : List Bd)) (by kernel_rfl) ?_
    obtain ⟨y5, hy5, h⟩ := Option.bind_eq_some_iff.mp h
    refine sd_wp' [2] (by kernel_rfl) (env2 := ([.im (D.tup (List.map D.int a0)), .im (D.int (0 : Int)), .an] : List Bd)) (by kernel_rfl) ?_
    refine sd_seqZ (sd_for (l := .l2) rfl (ei_tup rfl (ev_im rfl)) (loop_foldZ (en := D.int) (ev := fun (s2 : (Int)) => ([.im (D.tup (List.map D.int a0)), .im (D.int s2), .an] : List Bd)) (fin := (fun (r : Bool) => Out.rx (D.bl r))) (fun _ => rfl) (fun x1 s2 z3 h => ?_) _ (0 : Int) _ hy5)) (fun _ => rfl) (fun y6 e => ?_) (fun y6 e => ?_)
    · refine sdt (tg_name rfl) ?_
      obtain ⟨r4, hr4, h⟩ := Option.bind_eq_some_iff.mp h
      refine sd_ifs (eb_not (eb_B (l := .l2) (ev_callK (l := .l2) (ds := [(D.int x1), (D.int s2), (D.int (99 : Int))]) (R := R_is_number_within) (ek_A (ev_im rfl) (ek_A (ev_im rfl) (ek_A ev_int ek_nil))) ⟨x1, s2, (99 : Int), r4, hr4, rfl, rfl⟩))) (fun hb => ?_) (fun hb => ?_)
      · replace h := ifT hb h
        have h := Option.some.inj h; subst h
        exact sd_out (sd_ret (d := (D.bl false)) ev_bl) rfl
      · replace h := ifF hb h
        refine sd_seqNext ?_
        have h := Option.some.inj h; subst h
        exact sd_endW [2] (sd_asg (d := (D.int (x1 + (1 : Int)))) rfl (ev_opP (l := .l2) (ev_im rfl) ev_int rv_add)) (by kernel_rfl) (by kernel_rfl)
    · subst e; replace h : _ = _ := h
      have h := Option.some.inj h; subst h
      exact (sd_ret (d := (D.bl true)) ev_bl)
    · subst e; have h := Option.some.inj h; subst h; rfl
/-- is_call -/
def m_is_call (a0 : (Int × Int × (List Int) × Int × Int)) (a1 : Int) : Option Bool := if ((!true) || (!decide ((5 : Int) = (5 : Int)))) = true then (some false) else ((m_is_number_within a0.1 (0 : Int) (a1 - (1 : Int))).bind fun r1 => (if r1 = true then (m_is_number_within a0.2.1 (a0.1 + (1 : Int)) (a1 - (1 : Int))).bind fun r2 => (if r2 = true then (m_are_offsets a0.2.2.1).bind fun r3 => (if r3 = true then (m_is_number_within a0.2.2.2.1 (0 : Int) (99 : Int)).bind fun r4 => (if r4 = true then (m_is_number_within a0.2.2.2.2 a0.2.2.2.1 (99 : Int)).bind fun r5 => some r5 else some false).bind fun c6 => some c6 else some false).bind fun c7 => some c7 else some false).bind fun c8 => some c8 else some false).bind fun c9 => some c9)
def R_is_call : List D → D → Prop := fun ds r => ∃ (a0 : (Int × Int × (List Int) × Int × Int)) (a1 : Int) (v : Bool), m_is_call a0 a1 = some v ∧ ds = [(D.tup [(D.int a0.1), (D.int a0.2.1), (D.tup (List.map D.int a0.2.2.1)), (D.int a0.2.2.2.1), (D.int a0.2.2.2.2)]), (D.int a1)] ∧ r = (D.bl v)
def nm_is_call : List Str := ["value", "count", "caller", "target", "offsets", "least", "most"]
theorem sc_is_call : FnScope ["value", "count", "caller", "target", "offsets", "least", "most"] ["value", "count"] (defScope (top 20)) := ⟨rfl, rfl, rfl, by decide +kernel, rfl, by decide +kernel, by decide +kernel⟩
theorem ok_is_call (T : Tx K mg) : FnOk P w K mg base CX0 4 T.a_is_call T.d_is_call ["value", "count"] (SpP K [true, true] R_is_call) := by
  refine T.F_is_call.ok sc_is_call (SpP.len rfl) (fun cdv A outer s H vs Q E hr h => ⟨_, PSs.nox (pss_cons (ps_if (PW.pt (pw_or (pt_not (pt_val (pe_callB (isiK (K := K) (by rfl)) rfl T.b_isinstance (by decide +kernel) (pa_cons (pv 0) (pa_cons (pe_bltn (v := .ty "tuple") rfl T.b_tuple (by decide +kernel) rfl) pa_nil))))) (pw_or1 (pt_cmpR op_ne (pe_callB (lenK (K := K) (by rfl)) rfl T.b_len (by decide +kernel) (pa_cons (pv 0) pa_nil)) pe_int (nomark _))))) (pss_one (ps_ret pe_bl)) pss_nil) (pss_cons (ps_asg (pv 0) (pgTupK (K := K) (n := 5) (by rfl) rfl (pgs_cons (pg_name (i := 2) sc_is_call.nd rfl (Or.inl rfl)) (pgs_cons (pg_name (i := 3) sc_is_call.nd rfl (Or.inl rfl)) (pgs_cons (pg_name (i := 4) sc_is_call.nd rfl (Or.inl rfl)) (pgs_cons (pg_name (i := 5) sc_is_call.nd rfl (Or.inl rfl)) (pgs_cons (pg_name (i := 6) sc_is_call.nd rfl (Or.inl rfl)) pgs_nil))))) (by rfl) (by rfl))) (pss_one (ps_ret (pe_and (pe_call (ok_is_number_within T) (hr.mono (by decide)) rfl T.g_is_number_within T.F_is_number_within.kp (T.F_is_number_within.bindsN fun _ _ _ _ _ _ us hl => match us, hl with | [_, _, _], _ => rfl) .nil pass0 (pa_cons (pv 2) (pa_cons pe_int (pa_cons (pe_op op_sub (pv 1) pe_int) pa_nil)))) (pe_and (pe_call (ok_is_number_within T) (hr.mono (by decide)) rfl T.g_is_number_within T.F_is_number_within.kp (T.F_is_number_within.bindsN fun _ _ _ _ _ _ us hl => match us, hl with | [_, _, _], _ => rfl) .nil pass0 (pa_cons (pv 3) (pa_cons (pe_op op_add (pv 2) pe_int) (pa_cons (pe_op op_sub (pv 1) pe_int) pa_nil)))) (pe_and (pe_call (ok_are_offsets T) (hr.mono (by decide)) rfl T.g_are_offsets T.F_are_offsets.kp (T.F_are_offsets.bindsN fun _ _ _ _ _ _ us hl => match us, hl with | [_], _ => rfl) .nil pass0 (pa_cons (pv 4) pa_nil)) (pe_and (pe_call (ok_is_number_within T) (hr.mono (by decide)) rfl T.g_is_number_within T.F_is_number_within.kp (T.F_is_number_within.bindsN fun _ _ _ _ _ _ us hl => match us, hl with | [_, _, _], _ => rfl) .nil pass0 (pa_cons (pv 5) (pa_cons pe_int (pa_cons (pe_glob (v := .int 99) rfl T.c_LAST_TICK ⟨_, rfl⟩) pa_nil)))) (pe_one (pe_call (ok_is_number_within T) (hr.mono (by decide)) rfl T.g_is_number_within T.F_is_number_within.kp (T.F_is_number_within.bindsN fun _ _ _ _ _ _ us hl => match us, hl with | [_, _, _], _ => rfl) .nil pass0 (pa_cons (pv 6) (pa_cons (pv 5) (pa_cons (pe_glob (v := .int 99) rfl T.c_LAST_TICK ⟨_, rfl⟩) pa_nil))))))))))))), ?_⟩)
  refine run_P (n := 5) rfl h fun ds r hR => ?_
  obtain ⟨a0, a1, v, h, rfl, rfl⟩ := hR
  unfold m_is_call at h
  refine sd_env (env2 := ([.im (D.tup [(D.int a0.1), (D.int a0.2.1), (D.tup (List.map D.int a0.2.2.1)), (D.int a0.2.2.2.1), (D.int a0.2.2.2.2)]), .im (D.int a1), .an, .an, .an, .an, .an] : List Bd)) rfl ?_
  refine sd_ifs (eb_or (eb_not (eb_B (l := .l2) (ev_isi (l := .l2) (ev_im rfl) (show kitB "tuple" "tuple" = some true from by decide +kernel)))) (fun _ => (eb_test (l := .l2) (ev_opP (l := .l2) (ev_cb (l := .l2) (ea_consP (ev_im rfl) ea_nil) rc_len_t) ev_int rv_neI)))) (fun hb => ?_) (fun hb => ?_)
  · replace h := ifT hb h
    have h := Option.some.inj h; subst h
    exact sd_out (sd_ret (d := (D.bl false)) ev_bl) rfl
  · replace h := ifF hb h
    refine sd_seqNext ?_
    refine sd_seq (sd_asgG (l := .l2) (d := (D.tup [(D.int a0.1), (D.int a0.2.1), (D.tup (List.map D.int a0.2.2.1)), (D.int a0.2.2.2.1), (D.int a0.2.2.2.2)])) (ev_im rfl) (tg_tup rfl (tgs_cons (tg_name rfl) (tgs_cons (tg_name rfl) (tgs_cons (tg_name rfl) (tgs_cons (tg_name rfl) (tgs_cons (tg_name rfl) tgs_nil))))))) ?_
    refine sd_env (env2 := ([.im (D.tup [(D.int a0.1), (D.int a0.2.1), (D.tup (List.map D.int a0.2.2.1)), (D.int a0.2.2.2.1), (D.int a0.2.2.2.2)]), .im (D.int a1), .im (D.int a0.1), .im (D.int a0.2.1), .im (D.tup (List.map D.int a0.2.2.1)), .im (D.int a0.2.2.2.1), .im (D.int a0.2.2.2.2)] : List Bd)) (by kernel_rfl) ?_
    obtain ⟨r1, hr1, h⟩ := Option.bind_eq_some_iff.mp h
    obtain ⟨c9, hc9, h⟩ := Option.bind_eq_some_iff.mp h
    have h := Option.some.inj h; subst h
    exact (sd_ret (d := (D.bl c9)) (ev_lv (l := .l2) rfl (ev_andW (c := c9) (l := .l2) (ev_callK (l := .l2) (ds := [(D.int a0.1), (D.int (0 : Int)), (D.int (a1 - (1 : Int)))]) (R := R_is_number_within) (ek_A (ev_im rfl) (ek_A ev_int (ek_A (ev_opP (l := .l2) (ev_im rfl) ev_int rv_sub) ek_nil))) ⟨a0.1, (0 : Int), (a1 - (1 : Int)), r1, hr1, rfl, rfl⟩) (fun hb => by have wc9 := ifT hb hc9; obtain ⟨r2, hr2, wc9⟩ := Option.bind_eq_some_iff.mp wc9; obtain ⟨c8, hc8, wc9⟩ := Option.bind_eq_some_iff.mp wc9; have wc9 := Option.some.inj wc9; subst wc9; exact (ev_andW (c := c8) (l := .l2) (ev_callK (l := .l2) (ds := [(D.int a0.2.1), (D.int (a0.1 + (1 : Int))), (D.int (a1 - (1 : Int)))]) (R := R_is_number_within) (ek_A (ev_im rfl) (ek_A (ev_opP (l := .l2) (ev_im rfl) ev_int rv_add) (ek_A (ev_opP (l := .l2) (ev_im rfl) ev_int rv_sub) ek_nil))) ⟨a0.2.1, (a0.1 + (1 : Int)), (a1 - (1 : Int)), r2, hr2, rfl, rfl⟩) (fun hb => by have wc8 := ifT hb hc8; obtain ⟨r3, hr3, wc8⟩ := Option.bind_eq_some_iff.mp wc8; obtain ⟨c7, hc7, wc8⟩ := Option.bind_eq_some_iff.mp wc8; have wc8 := Option.some.inj wc8; subst wc8; exact (ev_andW (c := c7) (l := .l2) (ev_callK (l := .l2) (ds := [(D.tup (List.map D.int a0.2.2.1))]) (R := R_are_offsets) (ek_A (ev_im rfl) ek_nil) ⟨a0.2.2.1, r3, hr3, rfl, rfl⟩) (fun hb => by have wc7 := ifT hb hc7; obtain ⟨r4, hr4, wc7⟩ := Option.bind_eq_some_iff.mp wc7; obtain ⟨c6, hc6, wc7⟩ := Option.bind_eq_some_iff.mp wc7; have wc7 := Option.some.inj wc7; subst wc7; exact (ev_andW (c := c6) (l := .l2) (ev_callK (l := .l2) (ds := [(D.int a0.2.2.2.1), (D.int (0 : Int)), (D.int (99 : Int))]) (R := R_is_number_within) (ek_A (ev_im rfl) (ek_A ev_int (ek_A ev_int ek_nil))) ⟨a0.2.2.2.1, (0 : Int), (99 : Int), r4, hr4, rfl, rfl⟩) (fun hb => by have wc6 := ifT hb hc6; obtain ⟨r5, hr5, wc6⟩ := Option.bind_eq_some_iff.mp wc6; have wc6 := Option.some.inj wc6; subst wc6; exact (ev_callK (l := .l2) (ds := [(D.int a0.2.2.2.2), (D.int a0.2.2.2.1), (D.int (99 : Int))]) (R := R_is_number_within) (ek_A (ev_im rfl) (ek_A (ev_im rfl) (ek_A ev_int ek_nil))) ⟨a0.2.2.2.2, a0.2.2.2.1, (99 : Int), r5, hr5, rfl, rfl⟩)) (fun hb => by have wc6 := ifF hb hc6; exact (Option.some.inj wc6).symm))) (fun hb => by have wc7 := ifF hb hc7; exact (Option.some.inj wc7).symm))) (fun hb => by have wc8 := ifF hb hc8; exact (Option.some.inj wc8).symm))) (fun hb => by have wc9 := ifF hb hc9; exact (Option.some.inj wc9).symm))))
/-- check_system -/
def m_check_system (a0 : (Int × (List (Int × Int × (List Int) × Int × Int)))) : Option Unit := if ((!true) || (!decide ((2 : Int) = (2 : Int)))) = true then (none) else ((m_is_number_within a0.1 (1 : Int) (8 : Int)).bind fun r1 => if (!r1) = true then (none) else (if (!true) = true then (none) else ((List.foldlM (fun (s3 : Unit) (x2 : (Int × (Int × Int × (List Int) × Int × Int))) => (if (decide ((20 : Int) ≤ x2.1)) = true then some true else (m_is_call x2.2 a0.1).bind fun r5 => some (!r5)).bind fun c6 => if c6 = true then (none) else (some ())) () (enumT a0.2)).bind fun y7 => some ())))
def R_check_system : List D → D → Prop := fun ds r => ∃ (a0 : (Int × (List (Int × Int × (List Int) × Int × Int)))) (v : Unit), m_check_system a0 = some v ∧ ds = [(D.tup [(D.int a0.1), (D.tup (List.map (fun (z12 : (Int × Int × (List Int) × Int × Int)) => (D.tup [(D.int z12.1), (D.int z12.2.1), (D.tup (List.map D.int z12.2.2.1)), (D.int z12.2.2.2.1), (D.int z12.2.2.2.2)])) a0.2))])] ∧ r = D.non
def nm_check_system : List Str := ["system", "count", "calls", "index", "call"]
theorem sc_check_system : FnScope ["system", "count", "calls", "index", "call"] ["system"] (defScope (top 21)) := ⟨rfl, rfl, rfl, by decide +kernel, rfl, by decide +kernel, by decide +kernel⟩
theorem ok_check_system (T : Tx K mg) : FnOk P w K mg base CX0 5 T.a_check_system T.d_check_system ["system"] (SpP K [true] R_check_system) := by
  refine T.F_check_system.ok sc_check_system (SpP.len rfl) (fun cdv A outer s H vs Q E hr h => ⟨_, PSs.nox (pss_cons (ps_if (PW.pt (pw_or (pt_not (pt_val (pe_callB (isiK (K := K) (by rfl)) rfl T.b_isinstance (by decide +kernel) (pa_cons (pv 0) (pa_cons (pe_bltn (v := .ty "tuple") rfl T.b_tuple (by decide +kernel) rfl) pa_nil))))) (pw_or1 (pt_cmpR op_ne (pe_callB (lenK (K := K) (by rfl)) rfl T.b_len (by decide +kernel) (pa_cons (pv 0) pa_nil)) pe_int (nomark _))))) (pss_one ps_never) pss_nil) (pss_cons (ps_asg (pv 0) (pgTupK (K := K) (n := 2) (by rfl) rfl (pgs_cons (pg_name (i := 1) sc_check_system.nd rfl (Or.inl rfl)) (pgs_cons (pg_name (i := 2) sc_check_system.nd rfl (Or.inl rfl)) pgs_nil)) (by rfl) (by rfl))) (pss_cons (ps_if (pt_not (pt_val (pe_call (ok_is_number_within T) (hr.mono (by decide)) rfl T.g_is_number_within T.F_is_number_within.kp (T.F_is_number_within.bindsN fun _ _ _ _ _ _ us hl => match us, hl with | [_, _, _], _ => rfl) .nil pass0 (pa_cons (pv 1) (pa_cons pe_int (pa_cons (pe_glob (v := .int 8) rfl T.c_MOST_SERVICES ⟨_, rfl⟩) pa_nil)))))) (pss_one ps_never) pss_nil) (pss_cons (ps_if (pt_not (pt_val (pe_callB (isiK (K := K) (by rfl)) rfl T.b_isinstance (by decide +kernel) (pa_cons (pv 2) (pa_cons (pe_bltn (v := .ty "tuple") rfl T.b_tuple (by decide +kernel) rfl) pa_nil))))) (pss_one ps_never) pss_nil) (pss_one (ps_for PassesOwn.never rfl (pi_enT rfl T.b_enumerate (pa_cons (pv 2) pa_nil)) (pgTupK (K := K) (n := 2) (by rfl) rfl (pgs_cons (pg_name (i := 3) sc_check_system.nd rfl (Or.inl rfl)) (pgs_cons (pg_name (i := 4) sc_check_system.nd rfl (Or.inl rfl)) pgs_nil)) (by rfl) (by rfl)) (pss_one (ps_if (PW.pt (pw_or (pt_cmpR op_ge (pv 3) (pe_glob (v := .int 20) rfl T.c_MOST_CALLS ⟨_, rfl⟩) (nomark _)) (pw_or1 (pt_not (pt_val (pe_call (ok_is_call T) (hr.mono (by decide)) rfl T.g_is_call T.F_is_call.kp (T.F_is_call.bindsN fun _ _ _ _ _ _ us hl => match us, hl with | [_, _], _ => rfl) .nil pass0 (pa_cons (pv 4) (pa_cons (pv 1) pa_nil)))))))) (pss_one ps_never) pss_nil)))))))), ?_⟩)
  refine run_N (n := 4) rfl h fun ds r hR => ?_
  obtain ⟨a0, v, h, rfl, rfl⟩ := hR
  unfold m_check_system at h
  refine ⟨rfl, ([.im (D.tup [(D.int a0.1), (D.tup (List.map (fun (z13 : (Int × Int × (List Int) × Int × Int)) => (D.tup [(D.int z13.1), (D.int z13.2.1), (D.tup (List.map D.int z13.2.2.1)), (D.int z13.2.2.2.1), (D.int z13.2.2.2.2)])) a0.2))]), .an, .an, .an, .an] : List Bd), ?_⟩
  refine sd_env (env2 := ([.im (D.tup [(D.int a0.1), (D.tup (List.map (fun (z14 : (Int × Int × (List Int) × Int × Int)) => (D.tup [(D.int z14.1), (D.int z14.2.1), (D.tup (List.map D.int z14.2.2.1)), (D.int z14.2.2.2.1), (D.int z14.2.2.2.2)])) a0.2))]), .an, .an, .an, .an] : List Bd)) rfl ?_
  refine sd_ifs (eb_or (eb_not (eb_B (l := .l2) (ev_isi (l := .l2) (ev_im rfl) (show kitB "tuple" "tuple" = some true from by decide +kernel)))) (fun _ => (eb_test (l := .l2) (ev_opP (l := .l2) (ev_cb (l := .l2) (ea_consP (ev_im rfl) ea_nil) rc_len_t) ev_int rv_neI)))) (fun hb => ?_) (fun hb => ?_)
  · replace h := ifT hb h
    cases h
  · replace h := ifF hb h
    refine sd_seqNext ?_
    refine sd_seq (sd_asgG (l := .l2) (d := (D.tup [(D.int a0.1), (D.tup (List.map (fun (z1 : (Int × Int × (List Int) × Int × Int)) => (D.tup [(D.int z1.1), (D.int z1.2.1), (D.tup (List.map D.int z1.2.2.1)), (D.int z1.2.2.2.1), (D.int z1.2.2.2.2)])) a0.2))])) (ev_im rfl) (tg_tup rfl (tgs_cons (tg_name rfl) (tgs_cons (tg_name rfl) tgs_nil)))) ?_
    refine sd_env (env2 := ([.im (D.tup [(D.int a0.1), (D.tup (List.map (fun (z2 : (Int × Int × (List Int) × Int × Int)) => (D.tup [(D.int z2.1), (D.int z2.2.1), (D.tup (List.map D.int z2.2.2.1)), (D.int z2.2.2.2.1), (D.int z2.2.2.2.2)])) a0.2))]), .im (D.int a0.1), .im (D.tup (List.map (fun (z3 : (Int × Int × (List Int) × Int × Int)) => (D.tup [(D.int z3.1), (D.int z3.2.1), (D.tup (List.map D.int z3.2.2.1)), (D.int z3.2.2.2.1), (D.int z3.2.2.2.2)])) a0.2)), .an, .an] : List Bd)) (by kernel_rfl) ?_
    obtain ⟨r1, hr1, h⟩ := Option.bind_eq_some_iff.mp h
    refine sd_ifs (eb_not (eb_B (l := .l2) (ev_callK (l := .l2) (ds := [(D.int a0.1), (D.int (1 : Int)), (D.int (8 : Int))]) (R := R_is_number_within) (ek_A (ev_im rfl) (ek_A ev_int (ek_A ev_int ek_nil))) ⟨a0.1, (1 : Int), (8 : Int), r1, hr1, rfl, rfl⟩))) (fun hb => ?_) (fun hb => ?_)
    · replace h := ifT hb h
      cases h
    · replace h := ifF hb h
      refine sd_seqNext ?_
      refine sd_ifs (eb_not (eb_B (l := .l2) (ev_isi (l := .l2) (ev_im rfl) (show kitB "tuple" "tuple" = some true from by decide +kernel)))) (fun hb => ?_) (fun hb => ?_)
      · replace h := ifT hb h
        cases h
      · replace h := ifF hb h
        refine sd_seqNext ?_
        obtain ⟨y7, hy7, h⟩ := Option.bind_eq_some_iff.mp h
        refine sd_wp' [3, 4] (by kernel_rfl) (env2 := ([.im (D.tup [(D.int a0.1), (D.tup (List.map (fun (z7 : (Int × Int × (List Int) × Int × Int)) => (D.tup [(D.int z7.1), (D.int z7.2.1), (D.tup (List.map D.int z7.2.2.1)), (D.int z7.2.2.2.1), (D.int z7.2.2.2.2)])) a0.2))]), .im (D.int a0.1), .im (D.tup (List.map (fun (z8 : (Int × Int × (List Int) × Int × Int)) => (D.tup [(D.int z8.1), (D.int z8.2.1), (D.tup (List.map D.int z8.2.2.1)), (D.int z8.2.2.2.1), (D.int z8.2.2.2.2)])) a0.2)), .an, .an] : List Bd)) (by kernel_rfl) ?_
        refine (sd_endW [1, 2, 3, 4] (sd_for (l := .l2) (o := .nx ([.im (D.tup [(D.int a0.1), (D.tup (List.map (fun (z9 : (Int × Int × (List Int) × Int × Int)) => (D.tup [(D.int z9.1), (D.int z9.2.1), (D.tup (List.map D.int z9.2.2.1)), (D.int z9.2.2.2.1), (D.int z9.2.2.2.2)])) a0.2))]), .im (D.int a0.1), .im (D.tup (List.map (fun (z10 : (Int × Int × (List Int) × Int × Int)) => (D.tup [(D.int z10.1), (D.int z10.2.1), (D.tup (List.map D.int z10.2.2.1)), (D.int z10.2.2.2.1), (D.int z10.2.2.2.2)])) a0.2)), .an, .an] : List Bd)) rfl (ei_enumTT (f := (fun (z4 : (Int × Int × (List Int) × Int × Int)) => (D.tup [(D.int z4.1), (D.int z4.2.1), (D.tup (List.map D.int z4.2.2.1)), (D.int z4.2.2.2.1), (D.int z4.2.2.2.2)]))) rfl (ea_consP (ev_im rfl) ea_nil)) (loop_foldN (en := (fun (z11 : (Int × (Int × Int × (List Int) × Int × Int))) => (D.tup [(D.int z11.1), (D.tup [(D.int z11.2.1), (D.int z11.2.2.1), (D.tup (List.map D.int z11.2.2.2.1)), (D.int z11.2.2.2.2.1), (D.int z11.2.2.2.2.2)])]))) (ev := fun (s3 : Unit) => ([.im (D.tup [(D.int a0.1), (D.tup (List.map (fun (z5 : (Int × Int × (List Int) × Int × Int)) => (D.tup [(D.int z5.1), (D.int z5.2.1), (D.tup (List.map D.int z5.2.2.1)), (D.int z5.2.2.2.1), (D.int z5.2.2.2.2)])) a0.2))]), .im (D.int a0.1), .im (D.tup (List.map (fun (z6 : (Int × Int × (List Int) × Int × Int)) => (D.tup [(D.int z6.1), (D.int z6.2.1), (D.tup (List.map D.int z6.2.2.1)), (D.int z6.2.2.2.1), (D.int z6.2.2.2.2)])) a0.2)), .an, .an] : List Bd)) (fun x2 s3 z4 h => ?_) _ () y7 hy7)) (by kernel_rfl) (by kernel_rfl))
        · refine sdt (tg_tup rfl (tgs_cons (tg_name rfl) (tgs_cons (tg_name rfl) tgs_nil))) ?_
          obtain ⟨c6, hc6, h⟩ := Option.bind_eq_some_iff.mp h
          refine sd_if (eb_orW (c := c6) (eb_test (l := .l2) (ev_opP (l := .l2) (ev_im rfl) ev_int rv_ge)) (fun hb => by have wc6 := ifF hb hc6; obtain ⟨r5, hr5, wc6⟩ := Option.bind_eq_some_iff.mp wc6; have wc6 := Option.some.inj wc6; subst wc6; exact (eb_not (eb_B (l := .l2) (ev_callK (l := .l2) (ds := [(D.tup [(D.int x2.2.1), (D.int x2.2.2.1), (D.tup (List.map D.int x2.2.2.2.1)), (D.int x2.2.2.2.2.1), (D.int x2.2.2.2.2.2)]), (D.int a0.1)]) (R := R_is_call) (ek_A (ev_im rfl) (ek_A (ev_im rfl) ek_nil)) ⟨x2.2, a0.1, r5, hr5, rfl, rfl⟩)))) (fun hb => by have wc6 := ifT hb hc6; exact (Option.some.inj wc6).symm)) (fun hb => ?_) (fun hb => ?_)
          · replace h := ifT hb h
            cases h
          · replace h := ifF hb h
            have h := Option.some.inj h; subst h
            exact sd_nextW [3, 4] (by kernel_rfl) (by kernel_rfl)
/-- calls_to -/
def m_calls_to (a0 : (List (Int × Int × (List Int) × Int × Int))) (a1 : (List Int)) (a2 : Int) : Option (List Int) := (compO (fun (x1 : (Int × (Int × Int × (List Int) × Int × Int))) => if ((decide (x1.2.1 ∈ a1)) && (decide (x1.2.2.1 = a2))) = true then some (some x1.1) else some none) (enumT a0)).bind fun ys2 => some ys2
def R_calls_to : List D → D → Prop := fun ds r => ∃ (a0 : (List (Int × Int × (List Int) × Int × Int))) (a1 : (List Int)) (a2 : Int) (v : (List Int)), m_calls_to a0 a1 a2 = some v ∧ ds = [(D.tup (List.map (fun (z17 : (Int × Int × (List Int) × Int × Int)) => (D.tup [(D.int z17.1), (D.int z17.2.1), (D.tup (List.map D.int z17.2.2.1)), (D.int z17.2.2.2.1), (D.int z17.2.2.2.2)])) a0)), (D.lst (List.map D.int a1)), (D.int a2)] ∧ r = (D.lst (List.map D.int v))
def nm_calls_to : List Str := ["calls", "callers", "target", "index", "call"]
theorem sc_calls_to : FnScope ["calls", "callers", "target", "index", "call"] ["calls", "callers", "target"] (defScope (top 22)) := ⟨rfl, rfl, rfl, by decide +kernel, rfl, by decide +kernel, by decide +kernel⟩
theorem ok_calls_to (T : Tx K mg) : FnOk P w K mg base CX0 1 T.a_calls_to T.d_calls_to ["calls", "callers", "target"] (SpP K [true, false, true] R_calls_to) := by
  refine T.F_calls_to.ok sc_calls_to (SpP.len rfl) (fun cdv A outer s H vs Q E hr h => ⟨_, PSs.nox (pss_one (ps_ret (pe_lc (own := [("index", 3), ("call", 4)]) rfl sc_calls_to.nd (pi_enT rfl T.b_enumerate (pa_cons (pv 0) pa_nil)) (blkOk_by (own := [("index", 3), ("call", 4)]) (N := nm_calls_to) (sc := defScope (top 22)) (by decide +kernel)) (fun _ _ _ _ _ => (pgTupK (K := K) (n := 2) (by rfl) rfl (pgs_cons (pg_name (i := 3) sc_calls_to.nd rfl (Or.inl rfl)) (pgs_cons (pg_name (i := 4) sc_calls_to.nd rfl (Or.inl rfl)) pgs_nil)) (by rfl) (by rfl))) (fun _ _ _ _ _ => (pts_one (PW.pt (pw_and (pt_cmpR (inK (K := K) (by rfl)) (pe_ix (ixTK (K := K) (by rfl)) (pv 4) pe_int (fun _ _ => rfl)) (pv 1) rfl) (pw_and1 (pt_cmpR op_eq (pe_ix (ixTK (K := K) (by rfl)) (pv 4) pe_int (fun _ _ => rfl)) (pv 2) (nomark _))))))) (fun _ _ _ _ _ => (pv 3))))), ?_⟩)
  refine run_P (n := 2) rfl h fun ds r hR => ?_
  obtain ⟨a0, a1, a2, v, h, rfl, rfl⟩ := hR
  unfold m_calls_to at h
  refine sd_env (env2 := ([.im (D.tup (List.map (fun (z18 : (Int × Int × (List Int) × Int × Int)) => (D.tup [(D.int z18.1), (D.int z18.2.1), (D.tup (List.map D.int z18.2.2.1)), (D.int z18.2.2.2.1), (D.int z18.2.2.2.2)])) a0)), .rd (D.lst (List.map D.int a1)), .im (D.int a2), .an, .an] : List Bd)) rfl ?_
  obtain ⟨ys2, hys2, h⟩ := Option.bind_eq_some_iff.mp h
  have h := Option.some.inj h; subst h
  exact (sd_ret (d := (D.lst (List.map D.int ys2))) (ef_ev (ef_lcO (l := .l2) (en := (fun (z16 : (Int × (Int × Int × (List Int) × Int × Int))) => (D.tup [(D.int z16.1), (D.tup [(D.int z16.2.1), (D.int z16.2.2.1), (D.tup (List.map D.int z16.2.2.2.1)), (D.int z16.2.2.2.2.1), (D.int z16.2.2.2.2.2)])]))) (eb := D.int) hys2 rfl (ei_enumTT (f := (fun (z15 : (Int × Int × (List Int) × Int × Int)) => (D.tup [(D.int z15.1), (D.int z15.2.1), (D.tup (List.map D.int z15.2.2.1)), (D.int z15.2.2.2.1), (D.int z15.2.2.2.2)]))) rfl (ea_consP (ev_im rfl) ea_nil)) (tw_tup (tws_cons (tw_name (i := 3) (vs := [3, 4]) (by decide)) (tws_cons (tw_name (i := 4) (vs := [3, 4]) (by decide)) tws_nil))) (anC (v := 3) rfl (anC (v := 4) rfl anN)) (fun x1 rr wys2 => by exact (Bool.eq_false_or_eq_true (((decide (x1.2.1 ∈ a1)) && (decide (x1.2.2.1 = a2))))).elim (fun hb => by have wys2 := ifT hb wys2; have wys2 := Option.some.inj wys2; subst wys2; exact turn_yes (tg_tup rfl (tgs_cons (tg_name rfl) (tgs_cons (tg_name rfl) tgs_nil))) (eb_is (eb_and (eb_test (l := .l2) (ev_opP (l := .l1) (ev_opP (l := .l1) (ev_im rfl) ev_int (rv_ixTn 0 rfl)) (ev_rd (.inr rfl) rfl) rv_in0)) (fun _ => (eb_test (l := .l2) (ev_opP (l := .l2) (ev_opP (l := .l2) (ev_im rfl) ev_int (rv_ixTn 1 rfl)) (ev_im rfl) rv_eqI)))) hb) (ev_im rfl) rfl rfl rfl (anC (v := 3) rfl (anC (v := 4) rfl anN))) (fun hb => by have wys2 := ifF hb wys2; have wys2 := Option.some.inj wys2; subst wys2; exact turn_no (tg_tup rfl (tgs_cons (tg_name rfl) (tgs_cons (tg_name rfl) tgs_nil))) (eb_is (eb_and (eb_test (l := .l2) (ev_opP (l := .l1) (ev_opP (l := .l1) (ev_im rfl) ev_int (rv_ixTn 0 rfl)) (ev_rd (.inr rfl) rfl) rv_in0)) (fun _ => (eb_test (l := .l2) (ev_opP (l := .l2) (ev_opP (l := .l2) (ev_im rfl) ev_int (rv_ixTn 1 rfl)) (ev_im rfl) rv_eqI)))) hb) rfl rfl (anC (v := 3) rfl (anC (v := 4) rfl anN)))))))
/-- reachable_services -/
def m_reachable_services (a0 : (Int × (List (Int × Int × (List Int) × Int × Int)))) : Option (List Int) := (m_check_system a0).bind fun r1 => (rngO (1 : Int) a0.1).bind fun x2 => (List.foldlM (fun (s4 : ((List Int))) (x3 : Int) => (m_calls_to a0.2 s4 x3).bind fun r6 => if (!List.isEmpty r6) = true then ((okL (List.length s4)).bind fun x7 => some (s4 ++ [x3])) else (some s4)) ([(0 : Int)] : List Int) x2).bind fun y8 => some y8
def R_reachable_services : List D → D → Prop := fun ds r => ∃ (a0 : (Int × (List (Int × Int × (List Int) × Int × Int)))) (v : (List Int)), m_reachable_services a0 = some v ∧ ds = [(D.tup [(D.int a0.1), (D.tup (List.map (fun (z33 : (Int × Int × (List Int) × Int × Int)) => (D.tup [(D.int z33.1), (D.int z33.2.1), (D.tup (List.map D.int z33.2.2.1)), (D.int z33.2.2.2.1), (D.int z33.2.2.2.2)])) a0.2))])] ∧ r = (D.lst (List.map D.int v))
def nm_reachable_services : List Str := ["system", "reached", "service", "count", "calls"]
theorem sc_reachable_services : FnScope ["system", "reached", "service", "count", "calls"] ["system"] (defScope (top 23)) := ⟨rfl, rfl, rfl, by decide +kernel, rfl, by decide +kernel, by decide +kernel⟩
theorem ok_reachable_services (T : Tx K mg) : FnOk P w K mg base CX0 6 T.a_reachable_services T.d_reachable_services ["system"] (SpP K [true] R_reachable_services) := by
  refine T.F_reachable_services.ok sc_reachable_services (SpP.len rfl) (fun cdv A outer s H vs Q E hr h => ⟨_, PSs.nox (pss_cons (ps_expr (pe_call (ok_check_system T) (hr.mono (by decide)) rfl T.g_check_system T.F_check_system.kp (T.F_check_system.bindsN fun _ _ _ _ _ _ us hl => match us, hl with | [_], _ => rfl) .nil pass0 (pa_cons (pv 0) pa_nil))) (pss_cons (ps_asg (pv 0) (pgTupK (K := K) (n := 2) (by rfl) rfl (pgs_cons (pg_name (i := 3) sc_reachable_services.nd rfl (Or.inl rfl)) (pgs_cons (pg_name (i := 4) sc_reachable_services.nd rfl (Or.inl rfl)) pgs_nil)) (by rfl) (by rfl))) (pss_cons (ps_set (i := 1) sc_reachable_services.nd rfl (Or.inl rfl) (pe_lst (pa_cons pe_int pa_nil))) (pss_cons (ps_for PassesOwn.never rfl (pi_range2 rfl T.b_range (pa_cons pe_int (pa_cons (pv 3) pa_nil))) (pg_name (i := 2) sc_reachable_services.nd rfl (Or.inl rfl)) (pss_one (ps_if (pt_truth (pe_call (ok_calls_to T) (hr.mono (by decide)) rfl T.g_calls_to T.F_calls_to.kp (T.F_calls_to.bindsN fun _ _ _ _ _ _ us hl => match us, hl with | [_, _, _], _ => rfl) .nil pass0 (pa_cons (pv 4) (pa_cons (pv 1) (pa_cons (pv 2) pa_nil)))) (by intro _; rfl)) (pss_one (ps_expr (pe_bm PySem.F.plainAttrs_list PySem.F.slot_list_append PySem.F.type_list_append mt_append (pv 1) (pa_cons (pv 2) pa_nil)))) pss_nil))) (pss_one (ps_ret (pv 1))))))), ?_⟩)
  refine run_P (n := 4) rfl h fun ds r hR => ?_
  obtain ⟨a0, v, h, rfl, rfl⟩ := hR
  unfold m_reachable_services at h
  refine sd_env (env2 := ([.im (D.tup [(D.int a0.1), (D.tup (List.map (fun (z34 : (Int × Int × (List Int) × Int × Int)) => (D.tup [(D.int z34.1), (D.int z34.2.1), (D.tup (List.map D.int z34.2.2.1)), (D.int z34.2.2.2.1), (D.int z34.2.2.2.2)])) a0.2))]), .an, .an, .an, .an] : List Bd)) rfl ?_
  obtain ⟨r1, hr1, h⟩ := Option.bind_eq_some_iff.mp h
  refine sd_seq (sd_drop (d := D.non) (l := .l2) (ev_callK (l := .l2) (ds := [(D.tup [(D.int a0.1), (D.tup (List.map (fun (z19 : (Int × Int × (List Int) × Int × Int)) => (D.tup [(D.int z19.1), (D.int z19.2.1), (D.tup (List.map D.int z19.2.2.1)), (D.int z19.2.2.2.1), (D.int z19.2.2.2.2)])) a0.2))])]) (R := R_check_system) (ek_A (ev_im rfl) ek_nil) ⟨a0, r1, hr1, rfl, rfl⟩)) ?_
  refine sd_env (env2 := ([.im (D.tup [(D.int a0.1), (D.tup (List.map (fun (z20 : (Int × Int × (List Int) × Int × Int)) => (D.tup [(D.int z20.1), (D.int z20.2.1), (D.tup (List.map D.int z20.2.2.1)), (D.int z20.2.2.2.1), (D.int z20.2.2.2.2)])) a0.2))]), .an, .an, .an, .an] : List Bd)) (by kernel_rfl) ?_
  refine sd_seq (sd_asgG (l := .l2) (d := (D.tup [(D.int a0.1), (D.tup (List.map (fun (z21 : (Int × Int × (List Int) × Int × Int)) => (D.tup [(D.int z21.1), (D.int z21.2.1), (D.tup (List.map D.int z21.2.2.1)), (D.int z21.2.2.2.1), (D.int z21.2.2.2.2)])) a0.2))])) (ev_im rfl) (tg_tup rfl (tgs_cons (tg_name rfl) (tgs_cons (tg_name rfl) tgs_nil)))) ?_
  refine sd_env (env2 := ([.im (D.tup [(D.int a0.1), (D.tup (List.map (fun (z22 : (Int × Int × (List Int) × Int × Int)) => (D.tup [(D.int z22.1), (D.int z22.2.1), (D.tup (List.map D.int z22.2.2.1)), (D.int z22.2.2.2.1), (D.int z22.2.2.2.2)])) a0.2))]), .an, .an, .im (D.int a0.1), .im (D.tup (List.map (fun (z23 : (Int × Int × (List Int) × Int × Int)) => (D.tup [(D.int z23.1), (D.int z23.2.1), (D.tup (List.map D.int z23.2.2.1)), (D.int z23.2.2.2.1), (D.int z23.2.2.2.2)])) a0.2))] : List Bd)) (by kernel_rfl) ?_
  refine sd_seq (sd_asgF (d := (D.lst (List.map D.int ([(0 : Int)] : List Int)))) rfl (ef_is (D.lst (List.map D.int ([(0 : Int)] : List Int))) (ef_lst (ea_consP ev_int ea_nil) (show 1 ≤ 1000 from by decide)) rfl)) ?_
  refine sd_env (env2 := ([.im (D.tup [(D.int a0.1), (D.tup (List.map (fun (z24 : (Int × Int × (List Int) × Int × Int)) => (D.tup [(D.int z24.1), (D.int z24.2.1), (D.tup (List.map D.int z24.2.2.1)), (D.int z24.2.2.2.1), (D.int z24.2.2.2.2)])) a0.2))]), .ow (D.lst (List.map D.int ([(0 : Int)] : List Int))), .an, .im (D.int a0.1), .im (D.tup (List.map (fun (z25 : (Int × Int × (List Int) × Int × Int)) => (D.tup [(D.int z25.1), (D.int z25.2.1), (D.tup (List.map D.int z25.2.2.1)), (D.int z25.2.2.2.1), (D.int z25.2.2.2.2)])) a0.2))] : List Bd)) (by kernel_rfl) ?_
  obtain ⟨x2, hx2, h⟩ := Option.bind_eq_some_iff.mp h
  obtain ⟨y8, hy8, h⟩ := Option.bind_eq_some_iff.mp h
  refine sd_wp' [2] (by kernel_rfl) (env2 := ([.im (D.tup [(D.int a0.1), (D.tup (List.map (fun (z29 : (Int × Int × (List Int) × Int × Int)) => (D.tup [(D.int z29.1), (D.int z29.2.1), (D.tup (List.map D.int z29.2.2.1)), (D.int z29.2.2.2.1), (D.int z29.2.2.2.2)])) a0.2))]), .ow (D.lst (List.map D.int ([(0 : Int)] : List Int))), .an, .im (D.int a0.1), .im (D.tup (List.map (fun (z30 : (Int × Int × (List Int) × Int × Int)) => (D.tup [(D.int z30.1), (D.int z30.2.1), (D.tup (List.map D.int z30.2.2.1)), (D.int z30.2.2.2.1), (D.int z30.2.2.2.2)])) a0.2))] : List Bd)) (by kernel_rfl) ?_
  refine sd_seq (sd_for (l := .l2) (o := .nx ([.im (D.tup [(D.int a0.1), (D.tup (List.map (fun (z31 : (Int × Int × (List Int) × Int × Int)) => (D.tup [(D.int z31.1), (D.int z31.2.1), (D.tup (List.map D.int z31.2.2.1)), (D.int z31.2.2.2.1), (D.int z31.2.2.2.2)])) a0.2))]), .ow (D.lst (List.map D.int y8)), .an, .im (D.int a0.1), .im (D.tup (List.map (fun (z32 : (Int × Int × (List Int) × Int × Int)) => (D.tup [(D.int z32.1), (D.int z32.2.1), (D.tup (List.map D.int z32.2.2.1)), (D.int z32.2.2.2.1), (D.int z32.2.2.2.2)])) a0.2))] : List Bd)) rfl (ei_rng2T (l' := .l2) hx2 (ea_consP ev_int (ea_consP (ev_im rfl) ea_nil))) (loop_foldN (en := D.int) (ev := fun (s4 : ((List Int))) => ([.im (D.tup [(D.int a0.1), (D.tup (List.map (fun (z27 : (Int × Int × (List Int) × Int × Int)) => (D.tup [(D.int z27.1), (D.int z27.2.1), (D.tup (List.map D.int z27.2.2.1)), (D.int z27.2.2.2.1), (D.int z27.2.2.2.2)])) a0.2))]), .ow (D.lst (List.map D.int s4)), .an, .im (D.int a0.1), .im (D.tup (List.map (fun (z28 : (Int × Int × (List Int) × Int × Int)) => (D.tup [(D.int z28.1), (D.int z28.2.1), (D.tup (List.map D.int z28.2.2.1)), (D.int z28.2.2.2.1), (D.int z28.2.2.2.2)])) a0.2))] : List Bd)) (fun x3 s4 z5 h => ?_) _ ([(0 : Int)] : List Int) y8 hy8)) ?_
  · refine sdt (tg_name rfl) ?_
    obtain ⟨r6, hr6, h⟩ := Option.bind_eq_some_iff.mp h
    refine sd_if (eb_truLT (l := .l2) (f := D.int) (ev_callK (l := .l2) (ds := [(D.tup (List.map (fun (z26 : (Int × Int × (List Int) × Int × Int)) => (D.tup [(D.int z26.1), (D.int z26.2.1), (D.tup (List.map D.int z26.2.2.1)), (D.int z26.2.2.2.1), (D.int z26.2.2.2.2)])) a0.2)), (D.lst (List.map D.int s4)), (D.int x3)]) (R := R_calls_to) (ek_A (ev_im rfl) (ek_R (ev_ow (.inl rfl) rfl) (ek_A (ev_im rfl) ek_nil))) ⟨a0.2, s4, x3, r6, hr6, rfl, rfl⟩)) (fun hb => ?_) (fun hb => ?_)
    · replace h := ifT hb h
      obtain ⟨x7, hx7, h⟩ := Option.bind_eq_some_iff.mp h
      have h := Option.some.inj h; subst h
      exact sd_endW [2] (sd_appendT (f := D.int) (xs := s4) (v := x3) hx7 rfl rfl (ev_im rfl)) (by kernel_rfl) (by kernel_rfl)
    · replace h := ifF hb h
      have h := Option.some.inj h; subst h
      exact sd_nextW [2] (by kernel_rfl) (by kernel_rfl)
  have h := Option.some.inj h; subst h
  exact (sd_ret (d := (D.lst (List.map D.int y8))) (ev_ow (.inr rfl) rfl))
/-- shortest_way -/
def m_shortest_way (a0 : (Int × Int × (List Int) × Int × Int)) : Option Int := (atI a0.2.2.1 (0 : Int)).bind fun x1 => some (x1 + a0.2.2.2.1)
def R_shortest_way : List D → D → Prop := fun ds r => ∃ (a0 : (Int × Int × (List Int) × Int × Int)) (v : Int), m_shortest_way a0 = some v ∧ ds = [(D.tup [(D.int a0.1), (D.int a0.2.1), (D.tup (List.map D.int a0.2.2.1)), (D.int a0.2.2.2.1), (D.int a0.2.2.2.2)])] ∧ r = (D.int v)
def nm_shortest_way : List Str := ["call", "offsets", "least"]
theorem sc_shortest_way : FnScope ["call", "offsets", "least"] ["call"] (defScope (top 25)) := ⟨rfl, rfl, rfl, by decide +kernel, rfl, by decide +kernel, by decide +kernel⟩
theorem ok_shortest_way (T : Tx K mg) : FnOk P w K mg base CX0 1 T.a_shortest_way T.d_shortest_way ["call"] (SpP K [true] R_shortest_way) := by
  refine T.F_shortest_way.ok sc_shortest_way (SpP.len rfl) (fun cdv A outer s H vs Q E hr h => ⟨_, PSs.nox (pss_cons (ps_par (i := 1) (j := 2) rfl sc_shortest_way.nd rfl rfl (by decide) rfl rfl (pa_cons (pe_ix (ixTK (K := K) (by rfl)) (pv 0) pe_int (fun _ _ => rfl)) (pa_cons (pe_ix (ixTK (K := K) (by rfl)) (pv 0) pe_int (fun _ _ => rfl)) pa_nil)) (by rfl)) (pss_one (ps_ret (pe_op op_add (pe_ix (ixTK (K := K) (by rfl)) (pv 1) pe_int (fun _ _ => rfl)) (pv 2))))), ?_⟩)
  refine run_P (n := 2) rfl h fun ds r hR => ?_
  obtain ⟨a0, v, h, rfl, rfl⟩ := hR
  unfold m_shortest_way at h
  refine sd_env (env2 := ([.im (D.tup [(D.int a0.1), (D.int a0.2.1), (D.tup (List.map D.int a0.2.2.1)), (D.int a0.2.2.2.1), (D.int a0.2.2.2.2)]), .an, .an] : List Bd)) rfl ?_
  refine sd_seq (sd_par (pf_im (d := (D.tup (List.map D.int a0.2.2.1))) rfl (ev_opP (l := .l2) (ev_im rfl) ev_int (rv_ixTn 2 rfl)) (pf_im (d := (D.int a0.2.2.2.1)) rfl (ev_opP (l := .l2) (ev_im rfl) ev_int (rv_ixTn 3 rfl)) pf_nil))) ?_
  refine sd_env (env2 := ([.im (D.tup [(D.int a0.1), (D.int a0.2.1), (D.tup (List.map D.int a0.2.2.1)), (D.int a0.2.2.2.1), (D.int a0.2.2.2.2)]), .im (D.tup (List.map D.int a0.2.2.1)), .im (D.int a0.2.2.2.1)] : List Bd)) (by kernel_rfl) ?_
  obtain ⟨x1, hx1, h⟩ := Option.bind_eq_some_iff.mp h
  have h := Option.some.inj h; subst h
  exact (sd_ret (d := (D.int (x1 + a0.2.2.2.1))) (ev_opP (l := .l2) (ev_opP (l := .l2) (ev_im rfl) ev_int (rv_ixTm (f := D.int) (xs := a0.2.2.1) (v := x1) hx1)) (ev_im rfl) rv_add))
/-- longest_way -/
def m_longest_way (a0 : (Int × Int × (List Int) × Int × Int)) : Option Int := (atI a0.2.2.1 (-(1 : Int))).bind fun x1 => some (x1 + a0.2.2.2.2)
def R_longest_way : List D → D → Prop := fun ds r => ∃ (a0 : (Int × Int × (List Int) × Int × Int)) (v : Int), m_longest_way a0 = some v ∧ ds = [(D.tup [(D.int a0.1), (D.int a0.2.1), (D.tup (List.map D.int a0.2.2.1)), (D.int a0.2.2.2.1), (D.int a0.2.2.2.2)])] ∧ r = (D.int v)
def nm_longest_way : List Str := ["call", "offsets", "most"]
theorem sc_longest_way : FnScope ["call", "offsets", "most"] ["call"] (defScope (top 26)) := ⟨rfl, rfl, rfl, by decide +kernel, rfl, by decide +kernel, by decide +kernel⟩
theorem ok_longest_way (T : Tx K mg) : FnOk P w K mg base CX0 1 T.a_longest_way T.d_longest_way ["call"] (SpP K [true] R_longest_way) := by
  refine T.F_longest_way.ok sc_longest_way (SpP.len rfl) (fun cdv A outer s H vs Q E hr h => ⟨_, PSs.nox (pss_cons (ps_par (i := 1) (j := 2) rfl sc_longest_way.nd rfl rfl (by decide) rfl rfl (pa_cons (pe_ix (ixTK (K := K) (by rfl)) (pv 0) pe_int (fun _ _ => rfl)) (pa_cons (pe_ix (ixTK (K := K) (by rfl)) (pv 0) pe_int (fun _ _ => rfl)) pa_nil)) (by rfl)) (pss_one (ps_ret (pe_op op_add (pe_ix (ixTK (K := K) (by rfl)) (pv 1) (pe_un un_neg pe_int) (fun _ _ => rfl)) (pv 2))))), ?_⟩)
  refine run_P (n := 2) rfl h fun ds r hR => ?_
  obtain ⟨a0, v, h, rfl, rfl⟩ := hR
  unfold m_longest_way at h
  refine sd_env (env2 := ([.im (D.tup [(D.int a0.1), (D.int a0.2.1), (D.tup (List.map D.int a0.2.2.1)), (D.int a0.2.2.2.1), (D.int a0.2.2.2.2)]), .an, .an] : List Bd)) rfl ?_
  refine sd_seq (sd_par (pf_im (d := (D.tup (List.map D.int a0.2.2.1))) rfl (ev_opP (l := .l2) (ev_im rfl) ev_int (rv_ixTn 2 rfl)) (pf_im (d := (D.int a0.2.2.2.2)) rfl (ev_opP (l := .l2) (ev_im rfl) ev_int (rv_ixTn 4 rfl)) pf_nil))) ?_
  refine sd_env (env2 := ([.im (D.tup [(D.int a0.1), (D.int a0.2.1), (D.tup (List.map D.int a0.2.2.1)), (D.int a0.2.2.2.1), (D.int a0.2.2.2.2)]), .im (D.tup (List.map D.int a0.2.2.1)), .im (D.int a0.2.2.2.2)] : List Bd)) (by kernel_rfl) ?_
  obtain ⟨x1, hx1, h⟩ := Option.bind_eq_some_iff.mp h
  have h := Option.some.inj h; subst h
  exact (sd_ret (d := (D.int (x1 + a0.2.2.2.2))) (ev_opP (l := .l2) (ev_opP (l := .l2) (ev_im rfl) (ev_un (f := fun i => V.int (-i)) (e := D.int (-(1 : Int))) (l := .l2) ev_int (fun _ => rfl)) (rv_ixTm (f := D.int) (xs := a0.2.2.1) (v := x1) hx1)) (ev_im rfl) rv_add))
/-- late_choices -/
def m_late_choices (a0 : (List (Int × Int × (List Int) × Int × Int))) (a1 : (List Int)) (a2 : (List (List Int × (Int × (Option Int))))) (a3 : Int) : Option (List (Int × Int)) := (compO (fun (x1 : Int) => (atI a0 x1).bind fun x2 => (getA a2 [x2.1, a3]).bind fun x3 => (atI a0 x1).bind fun x4 => (m_longest_way x4).bind fun r5 => some (some ((x3.1 + r5), x1))) a1).bind fun ys6 => some ys6
def R_late_choices : List D → D → Prop := fun ds r => ∃ (a0 : (List (Int × Int × (List Int) × Int × Int))) (a1 : (List Int)) (a2 : (List (List Int × (Int × (Option Int))))) (a3 : Int) (v : (List (Int × Int))), m_late_choices a0 a1 a2 a3 = some v ∧ ds = [(D.tup (List.map (fun (z40 : (Int × Int × (List Int) × Int × Int)) => (D.tup [(D.int z40.1), (D.int z40.2.1), (D.tup (List.map D.int z40.2.2.1)), (D.int z40.2.2.2.1), (D.int z40.2.2.2.2)])) a0)), (D.lst (List.map D.int a1)), (dtL (List.map (fun (z : List Int × (Int × (Option Int))) => ((z.1.map Sum.inl : List Key), (D.tup [(D.int z.2.1), (encO D.int z.2.2)]))) a2)), (D.int a3)] ∧ r = (D.lst (List.map (fun (z41 : (Int × Int)) => (D.tup [(D.int z41.1), (D.int z41.2)])) v))
def nm_late_choices : List Str := ["calls", "indexes", "table", "other", "index"]
theorem sc_late_choices : FnScope ["calls", "indexes", "table", "other", "index"] ["calls", "indexes", "table", "other"] (defScope (top 27)) := ⟨rfl, rfl, rfl, by decide +kernel, rfl, by decide +kernel, by decide +kernel⟩
theorem ok_late_choices (T : Tx K mg) : FnOk P w K mg base CX0 2 T.a_late_choices T.d_late_choices ["calls", "indexes", "table", "other"] (SpP K [true, true, false, true] R_late_choices) := by
  refine T.F_late_choices.ok sc_late_choices (SpP.len rfl) (fun cdv A outer s H vs Q E hr h => ⟨_, PSs.nox (pss_one (ps_ret (pe_lc (own := [("index", 4)]) rfl sc_late_choices.nd (piListK (K := K) (by rfl) (pv 1)) (blkOk_by (own := [("index", 4)]) (N := nm_late_choices) (sc := defScope (top 27)) (by decide +kernel)) (fun _ _ _ _ _ => (pg_name (i := 4) sc_late_choices.nd rfl (Or.inl rfl))) (fun _ _ _ _ _ => pts_nil) (fun _ _ _ _ _ => (pe_tup (pa_cons (pe_op op_add (pe_ix (ixTK (K := K) (by rfl)) (pe_dget (hu_of hr) (pv 2) (pe_tup (pa_cons (pe_ix (ixTK (K := K) (by rfl)) (pe_ix (ixTK (K := K) (by rfl)) (pv 0) (pv 4) (fun _ _ => rfl)) pe_int (fun _ _ => rfl)) (pa_cons (pv 3) pa_nil))) (fun _ _ => rfl)) pe_int (fun _ _ => rfl)) (pe_call (ok_longest_way T) (hr.mono (by decide)) rfl T.g_longest_way T.F_longest_way.kp (T.F_longest_way.bindsN fun _ _ _ _ _ _ us hl => match us, hl with | [_], _ => rfl) .nil pass0 (pa_cons (pe_ix (ixTK (K := K) (by rfl)) (pv 0) (pv 4) (fun _ _ => rfl)) pa_nil))) (pa_cons (pv 4) pa_nil))))))), ?_⟩)
  refine run_P (n := 1) rfl h fun ds r hR => ?_
  obtain ⟨a0, a1, a2, a3, v, h, rfl, rfl⟩ := hR
  unfold m_late_choices at h
  refine sd_env (env2 := ([.im (D.tup (List.map (fun (z42 : (Int × Int × (List Int) × Int × Int)) => (D.tup [(D.int z42.1), (D.int z42.2.1), (D.tup (List.map D.int z42.2.2.1)), (D.int z42.2.2.2.1), (D.int z42.2.2.2.2)])) a0)), .im (D.lst (List.map D.int a1)), .rd (dtL (List.map (fun (z : List Int × (Int × (Option Int))) => ((z.1.map Sum.inl : List Key), (D.tup [(D.int z.2.1), (encO D.int z.2.2)]))) a2)), .im (D.int a3), .an] : List Bd)) rfl ?_
  obtain ⟨ys6, hys6, h⟩ := Option.bind_eq_some_iff.mp h
  have h := Option.some.inj h; subst h
  exact (sd_ret (d := (D.lst (List.map (fun (z39 : (Int × Int)) => (D.tup [(D.int z39.1), (D.int z39.2)])) ys6))) (ef_ev (ef_lcO (l := .l2) (en := D.int) (eb := (fun (z38 : (Int × Int)) => (D.tup [(D.int z38.1), (D.int z38.2)]))) hys6 rfl (ei_list rfl (ev_im rfl)) (tw_name (i := 4) (vs := [4]) (by decide)) (anC (v := 4) rfl anN) (fun x1 rr wys6 => by obtain ⟨x2, hx2, wys6⟩ := Option.bind_eq_some_iff.mp wys6; obtain ⟨x3, hx3, wys6⟩ := Option.bind_eq_some_iff.mp wys6; obtain ⟨x4, hx4, wys6⟩ := Option.bind_eq_some_iff.mp wys6; obtain ⟨r5, hr5, wys6⟩ := Option.bind_eq_some_iff.mp wys6; have wys6 := Option.some.inj wys6; subst wys6; exact turn_yes (tg_name rfl) eb_yes (ev_tup (ea_consP (ev_opP (l := .l2) (ev_lv (l := .l1) rfl (ev_opP (l := .l1) (ev_dgetTt (f := (fun (z36 : (Int × (Option Int))) => (D.tup [(D.int z36.1), (encO D.int z36.2)]))) (ns := [x2.1, a3]) (v := x3) hx3 (ev_rd (.inr rfl) rfl) (ea_consP (ev_opP (l := .l2) (ev_opP (l := .l2) (ev_im rfl) (ev_im rfl) (rv_ixTm (f := (fun (z35 : (Int × Int × (List Int) × Int × Int)) => (D.tup [(D.int z35.1), (D.int z35.2.1), (D.tup (List.map D.int z35.2.2.1)), (D.int z35.2.2.2.1), (D.int z35.2.2.2.2)]))) (xs := a0) (v := x2) hx2)) ev_int (rv_ixTn 0 rfl)) (ea_consP (ev_im rfl) ea_nil)) (show 2 ≤ 1000 from by decide)) ev_int (rv_ixTn 0 rfl))) (ev_callK (l := .l2) (ds := [(D.tup [(D.int x4.1), (D.int x4.2.1), (D.tup (List.map D.int x4.2.2.1)), (D.int x4.2.2.2.1), (D.int x4.2.2.2.2)])]) (R := R_longest_way) (ek_A (ev_opP (l := .l2) (ev_im rfl) (ev_im rfl) (rv_ixTm (f := (fun (z37 : (Int × Int × (List Int) × Int × Int)) => (D.tup [(D.int z37.1), (D.int z37.2.1), (D.tup (List.map D.int z37.2.2.1)), (D.int z37.2.2.2.1), (D.int z37.2.2.2.2)]))) (xs := a0) (v := x4) hx4)) ek_nil) ⟨x4, r5, hr5, rfl, rfl⟩) rv_add) (ea_consP (ev_im rfl) ea_nil)) (show 2 ≤ 1000 from by decide)) rfl rfl rfl (anC (v := 4) rfl anN)))))
/-- early_choices -/
def m_early_choices (a0 : (List (Int × Int × (List Int) × Int × Int))) (a1 : (List Int)) (a2 : (List (List Int × (Int × (Option Int))))) (a3 : Int) : Option (List (Int × Int)) := (compO (fun (x1 : Int) => (atI a0 x1).bind fun x2 => (getA a2 [a3, x2.1]).bind fun x3 => (atI a0 x1).bind fun x4 => (m_shortest_way x4).bind fun r5 => some (some ((x3.1 - r5), x1))) a1).bind fun ys6 => some ys6
def R_early_choices : List D → D → Prop := fun ds r => ∃ (a0 : (List (Int × Int × (List Int) × Int × Int))) (a1 : (List Int)) (a2 : (List (List Int × (Int × (Option Int))))) (a3 : Int) (v : (List (Int × Int))), m_early_choices a0 a1 a2 a3 = some v ∧ ds = [(D.tup (List.map (fun (z48 : (Int × Int × (List Int) × Int × Int)) => (D.tup [(D.int z48.1), (D.int z48.2.1), (D.tup (List.map D.int z48.2.2.1)), (D.int z48.2.2.2.1), (D.int z48.2.2.2.2)])) a0)), (D.lst (List.map D.int a1)), (dtL (List.map (fun (z : List Int × (Int × (Option Int))) => ((z.1.map Sum.inl : List Key), (D.tup [(D.int z.2.1), (encO D.int z.2.2)]))) a2)), (D.int a3)] ∧ r = (D.lst (List.map (fun (z49 : (Int × Int)) => (D.tup [(D.int z49.1), (D.int z49.2)])) v))
def nm_early_choices : List Str := ["calls", "indexes", "table", "other", "index"]
theorem sc_early_choices : FnScope ["calls", "indexes", "table", "other", "index"] ["calls", "indexes", "table", "other"] (defScope (top 28)) := ⟨rfl, rfl, rfl, by decide +kernel, rfl, by decide +kernel, by decide +kernel⟩
theorem ok_early_choices (T : Tx K mg) : FnOk P w K mg base CX0 2 T.a_early_choices T.d_early_choices ["calls", "indexes", "table", "other"] (SpP K [true, true, false, true] R_early_choices) := by
  refine T.F_early_choices.ok sc_early_choices (SpP.len rfl) (fun cdv A outer s H vs Q E hr h => ⟨_, PSs.nox (pss_one (ps_ret (pe_lc (own := [("index", 4)]) rfl sc_early_choices.nd (piListK (K := K) (by rfl) (pv 1)) (blkOk_by (own := [("index", 4)]) (N := nm_early_choices) (sc := defScope (top 28)) (by decide +kernel)) (fun _ _ _ _ _ => (pg_name (i := 4) sc_early_choices.nd rfl (Or.inl rfl))) (fun _ _ _ _ _ => pts_nil) (fun _ _ _ _ _ => (pe_tup (pa_cons (pe_op op_sub (pe_ix (ixTK (K := K) (by rfl)) (pe_dget (hu_of hr) (pv 2) (pe_tup (pa_cons (pv 3) (pa_cons (pe_ix (ixTK (K := K) (by rfl)) (pe_ix (ixTK (K := K) (by rfl)) (pv 0) (pv 4) (fun _ _ => rfl)) pe_int (fun _ _ => rfl)) pa_nil))) (fun _ _ => rfl)) pe_int (fun _ _ => rfl)) (pe_call (ok_shortest_way T) (hr.mono (by decide)) rfl T.g_shortest_way T.F_shortest_way.kp (T.F_shortest_way.bindsN fun _ _ _ _ _ _ us hl => match us, hl with | [_], _ => rfl) .nil pass0 (pa_cons (pe_ix (ixTK (K := K) (by rfl)) (pv 0) (pv 4) (fun _ _ => rfl)) pa_nil))) (pa_cons (pv 4) pa_nil))))))), ?_⟩)
  refine run_P (n := 1) rfl h fun ds r hR => ?_
  obtain ⟨a0, a1, a2, a3, v, h, rfl, rfl⟩ := hR
  unfold m_early_choices at h
  refine sd_env (env2 := ([.im (D.tup (List.map (fun (z50 : (Int × Int × (List Int) × Int × Int)) => (D.tup [(D.int z50.1), (D.int z50.2.1), (D.tup (List.map D.int z50.2.2.1)), (D.int z50.2.2.2.1), (D.int z50.2.2.2.2)])) a0)), .im (D.lst (List.map D.int a1)), .rd (dtL (List.map (fun (z : List Int × (Int × (Option Int))) => ((z.1.map Sum.inl : List Key), (D.tup [(D.int z.2.1), (encO D.int z.2.2)]))) a2)), .im (D.int a3), .an] : List Bd)) rfl ?_
  obtain ⟨ys6, hys6, h⟩ := Option.bind_eq_some_iff.mp h
  have h := Option.some.inj h; subst h
  exact (sd_ret (d := (D.lst (List.map (fun (z47 : (Int × Int)) => (D.tup [(D.int z47.1), (D.int z47.2)])) ys6))) (ef_ev (ef_lcO (l := .l2) (en := D.int) (eb := (fun (z46 : (Int × Int)) => (D.tup [(D.int z46.1), (D.int z46.2)]))) hys6 rfl (ei_list rfl (ev_im rfl)) (tw_name (i := 4) (vs := [4]) (by decide)) (anC (v := 4) rfl anN) (fun x1 rr wys6 => by obtain ⟨x2, hx2, wys6⟩ := Option.bind_eq_some_iff.mp wys6; obtain ⟨x3, hx3, wys6⟩ := Option.bind_eq_some_iff.mp wys6; obtain ⟨x4, hx4, wys6⟩ := Option.bind_eq_some_iff.mp wys6; obtain ⟨r5, hr5, wys6⟩ := Option.bind_eq_some_iff.mp wys6; have wys6 := Option.some.inj wys6; subst wys6; exact turn_yes (tg_name rfl) eb_yes (ev_tup (ea_consP (ev_opP (l := .l2) (ev_lv (l := .l1) rfl (ev_opP (l := .l1) (ev_dgetTt (f := (fun (z44 : (Int × (Option Int))) => (D.tup [(D.int z44.1), (encO D.int z44.2)]))) (ns := [a3, x2.1]) (v := x3) hx3 (ev_rd (.inr rfl) rfl) (ea_consP (ev_im rfl) (ea_consP (ev_opP (l := .l2) (ev_opP (l := .l2) (ev_im rfl) (ev_im rfl) (rv_ixTm (f := (fun (z43 : (Int × Int × (List Int) × Int × Int)) => (D.tup [(D.int z43.1), (D.int z43.2.1), (D.tup (List.map D.int z43.2.2.1)), (D.int z43.2.2.2.1), (D.int z43.2.2.2.2)]))) (xs := a0) (v := x2) hx2)) ev_int (rv_ixTn 0 rfl)) ea_nil)) (show 2 ≤ 1000 from by decide)) ev_int (rv_ixTn 0 rfl))) (ev_callK (l := .l2) (ds := [(D.tup [(D.int x4.1), (D.int x4.2.1), (D.tup (List.map D.int x4.2.2.1)), (D.int x4.2.2.2.1), (D.int x4.2.2.2.2)])]) (R := R_shortest_way) (ek_A (ev_opP (l := .l2) (ev_im rfl) (ev_im rfl) (rv_ixTm (f := (fun (z45 : (Int × Int × (List Int) × Int × Int)) => (D.tup [(D.int z45.1), (D.int z45.2.1), (D.tup (List.map D.int z45.2.2.1)), (D.int z45.2.2.2.1), (D.int z45.2.2.2.2)]))) (xs := a0) (v := x4) hx4)) ek_nil) ⟨x4, r5, hr5, rfl, rfl⟩) rv_sub) (ea_consP (ev_im rfl) ea_nil)) (show 2 ≤ 1000 from by decide)) rfl rfl rfl (anC (v := 4) rfl anN)))))
/-- greatest_differences -/
def m_greatest_differences (a0 : (Int × (List (Int × Int × (List Int) × Int × Int)))) : Option (List (List Int × (Int × (Option Int)))) := (m_reachable_services a0).bind fun r1 => (List.foldlM (fun (s3 : ((List (List Int × (Int × (Option Int)))))) (x2 : Int) => (m_calls_to a0.2 r1 x2).bind fun r5 => (List.foldlM (fun (s7 : ((List (List Int × (Int × (Option Int)))))) (x6 : Int) => if (decide (x6 < x2)) = true then ((m_late_choices a0.2 r5 s7 x6).bind fun r9 => (maxO (fun (k10 : (Int × Int)) => [k10.1, k10.2]) r9).bind fun x11 => (okL (List.length s7)).bind fun x12 => (m_early_choices a0.2 r5 (putA s7 [x2, x6] (x11.1, (some x11.2))) x6).bind fun r13 => (maxO (fun (k14 : (Int × Int)) => [k14.1, k14.2]) r13).bind fun x15 => (okL (List.length (putA s7 [x2, x6] (x11.1, (some x11.2))))).bind fun x16 => some (putA (putA s7 [x2, x6] (x11.1, (some x11.2))) [x6, x2] (x15.1, (some x15.2)))) else (some s7)) s3 r1).bind fun y17 => (okL (List.length y17)).bind fun x18 => some (putA y17 [x2, x2] ((0 : Int), (none : (Option Int))))) ([] : List (List Int × (Int × (Option Int)))) r1).bind fun y19 => some y19
def R_greatest_differences : List D → D → Prop := fun ds r => ∃ (a0 : (Int × (List (Int × Int × (List Int) × Int × Int)))) (v : (List (List Int × (Int × (Option Int))))), m_greatest_differences a0 = some v ∧ ds = [(D.tup [(D.int a0.1), (D.tup (List.map (fun (z80 : (Int × Int × (List Int) × Int × Int)) => (D.tup [(D.int z80.1), (D.int z80.2.1), (D.tup (List.map D.int z80.2.2.1)), (D.int z80.2.2.2.1), (D.int z80.2.2.2.2)])) a0.2))])] ∧ r = (dtL (List.map (fun (z : List Int × (Int × (Option Int))) => ((z.1.map Sum.inl : List Key), (D.tup [(D.int z.2.1), (encO D.int z.2.2)]))) v))
def nm_greatest_differences : List Str := ["system", "reached", "calls", "table", "service", "indexes", "other"]
theorem sc_greatest_differences : FnScope ["system", "reached", "calls", "table", "service", "indexes", "other"] ["system"] (defScope (top 29)) := ⟨rfl, rfl, rfl, by decide +kernel, rfl, by decide +kernel, by decide +kernel⟩
theorem ok_greatest_differences (T : Tx K mg) : FnOk P w K mg base CX0 7 T.a_greatest_differences T.d_greatest_differences ["system"] (SpP K [true] R_greatest_differences) := by
  refine T.F_greatest_differences.ok sc_greatest_differences (SpP.len rfl) (fun cdv A outer s H vs Q E hr h => ⟨_, PSs.nox (pss_cons (ps_set (i := 1) sc_greatest_differences.nd rfl (Or.inl rfl) (pe_call (ok_reachable_services T) (hr.mono (by decide)) rfl T.g_reachable_services T.F_reachable_services.kp (T.F_reachable_services.bindsN fun _ _ _ _ _ _ us hl => match us, hl with | [_], _ => rfl) .nil pass0 (pa_cons (pv 0) pa_nil))) (pss_cons (ps_set (i := 2) sc_greatest_differences.nd rfl (Or.inl rfl) (pe_ix (ixTK (K := K) (by rfl)) (pv 0) pe_int (fun _ _ => rfl))) (pss_cons (ps_set (i := 3) sc_greatest_differences.nd rfl (Or.inl rfl) pe_dnewT) (pss_cons (ps_for PassesOwn.never rfl (piListK (K := K) (by rfl) (pv 1)) (pg_name (i := 4) sc_greatest_differences.nd rfl (Or.inl rfl)) (pss_cons (ps_set (i := 5) sc_greatest_differences.nd rfl (Or.inl rfl) (pe_call (ok_calls_to T) (hr.mono (by decide)) rfl T.g_calls_to T.F_calls_to.kp (T.F_calls_to.bindsN fun _ _ _ _ _ _ us hl => match us, hl with | [_, _, _], _ => rfl) .nil pass0 (pa_cons (pv 2) (pa_cons (pv 1) (pa_cons (pv 4) pa_nil))))) (pss_cons (ps_for PassesOwn.never rfl (piListK (K := K) (by rfl) (pv 1)) (pg_name (i := 6) sc_greatest_differences.nd rfl (Or.inl rfl)) (pss_one (ps_if (pt_cmpR op_lt (pv 6) (pv 4) (nomark _)) (pss_cons (ps_dput (hu_of hr) (pv 3) (pe_tup (pa_cons (pv 4) (pa_cons (pv 6) pa_nil))) (pe_callB (maxDK (K := K) (by rfl) rfl (hu64 hr)) rfl T.b_max (by decide +kernel) (pa_cons (pe_call (ok_late_choices T) (hr.mono (by decide)) rfl T.g_late_choices T.F_late_choices.kp (T.F_late_choices.bindsN fun _ _ _ _ _ _ us hl => match us, hl with | [_, _, _, _], _ => rfl) .nil pass0 (pa_cons (pv 2) (pa_cons (pv 5) (pa_cons (pv 3) (pa_cons (pv 6) pa_nil))))) pa_nil)) rfl) (pss_one (ps_dput (hu_of hr) (pv 3) (pe_tup (pa_cons (pv 6) (pa_cons (pv 4) pa_nil))) (pe_callB (maxDK (K := K) (by rfl) rfl (hu64 hr)) rfl T.b_max (by decide +kernel) (pa_cons (pe_call (ok_early_choices T) (hr.mono (by decide)) rfl T.g_early_choices T.F_early_choices.kp (T.F_early_choices.bindsN fun _ _ _ _ _ _ us hl => match us, hl with | [_, _, _, _], _ => rfl) .nil pass0 (pa_cons (pv 2) (pa_cons (pv 5) (pa_cons (pv 3) (pa_cons (pv 6) pa_nil))))) pa_nil)) rfl))) pss_nil))) (pss_one (ps_dput (hu_of hr) (pv 3) (pe_tup (pa_cons (pv 4) (pa_cons (pv 4) pa_nil))) (pe_tup (pa_cons pe_int (pa_cons pe_non pa_nil))) rfl))))) (pss_one (ps_ret (pv 3))))))), ?_⟩)
  refine run_P (n := 6) rfl h fun ds r hR => ?_
  obtain ⟨a0, v, h, rfl, rfl⟩ := hR
  unfold m_greatest_differences at h
  refine sd_env (env2 := ([.im (D.tup [(D.int a0.1), (D.tup (List.map (fun (z81 : (Int × Int × (List Int) × Int × Int)) => (D.tup [(D.int z81.1), (D.int z81.2.1), (D.tup (List.map D.int z81.2.2.1)), (D.int z81.2.2.2.1), (D.int z81.2.2.2.2)])) a0.2))]), .an, .an, .an, .an, .an, .an] : List Bd)) rfl ?_
  obtain ⟨r1, hr1, h⟩ := Option.bind_eq_some_iff.mp h
  refine sd_seq (sd_asg (d := (D.lst (List.map D.int r1))) rfl (ev_callK (l := .l2) (ds := [(D.tup [(D.int a0.1), (D.tup (List.map (fun (z51 : (Int × Int × (List Int) × Int × Int)) => (D.tup [(D.int z51.1), (D.int z51.2.1), (D.tup (List.map D.int z51.2.2.1)), (D.int z51.2.2.2.1), (D.int z51.2.2.2.2)])) a0.2))])]) (R := R_reachable_services) (ek_A (ev_im rfl) ek_nil) ⟨a0, r1, hr1, rfl, rfl⟩)) ?_
  refine sd_env (env2 := ([.im (D.tup [(D.int a0.1), (D.tup (List.map (fun (z52 : (Int × Int × (List Int) × Int × Int)) => (D.tup [(D.int z52.1), (D.int z52.2.1), (D.tup (List.map D.int z52.2.2.1)), (D.int z52.2.2.2.1), (D.int z52.2.2.2.2)])) a0.2))]), .im (D.lst (List.map D.int r1)), .an, .an, .an, .an, .an] : List Bd)) (by kernel_rfl) ?_
  refine sd_seq (sd_asg (d := (D.tup (List.map (fun (z53 : (Int × Int × (List Int) × Int × Int)) => (D.tup [(D.int z53.1), (D.int z53.2.1), (D.tup (List.map D.int z53.2.2.1)), (D.int z53.2.2.2.1), (D.int z53.2.2.2.2)])) a0.2))) rfl (ev_opP (l := .l2) (ev_im rfl) ev_int (rv_ixTn 1 rfl))) ?_
  refine sd_env (env2 := ([.im (D.tup [(D.int a0.1), (D.tup (List.map (fun (z54 : (Int × Int × (List Int) × Int × Int)) => (D.tup [(D.int z54.1), (D.int z54.2.1), (D.tup (List.map D.int z54.2.2.1)), (D.int z54.2.2.2.1), (D.int z54.2.2.2.2)])) a0.2))]), .im (D.lst (List.map D.int r1)), .im (D.tup (List.map (fun (z55 : (Int × Int × (List Int) × Int × Int)) => (D.tup [(D.int z55.1), (D.int z55.2.1), (D.tup (List.map D.int z55.2.2.1)), (D.int z55.2.2.2.1), (D.int z55.2.2.2.2)])) a0.2)), .an, .an, .an, .an] : List Bd)) (by kernel_rfl) ?_
  refine sd_seq (sd_asgF (d := (dtL (List.map (fun (z : List Int × (Int × (Option Int))) => ((z.1.map Sum.inl : List Key), (D.tup [(D.int z.2.1), (encO D.int z.2.2)]))) ([] : List (List Int × (Int × (Option Int))))))) rfl (ef_is (dtL (List.map (fun (z : List Int × (Int × (Option Int))) => ((z.1.map Sum.inl : List Key), (D.tup [(D.int z.2.1), (encO D.int z.2.2)]))) ([] : List (List Int × (Int × (Option Int)))))) ef_dt rfl)) ?_
  refine sd_env (env2 := ([.im (D.tup [(D.int a0.1), (D.tup (List.map (fun (z56 : (Int × Int × (List Int) × Int × Int)) => (D.tup [(D.int z56.1), (D.int z56.2.1), (D.tup (List.map D.int z56.2.2.1)), (D.int z56.2.2.2.1), (D.int z56.2.2.2.2)])) a0.2))]), .im (D.lst (List.map D.int r1)), .im (D.tup (List.map (fun (z57 : (Int × Int × (List Int) × Int × Int)) => (D.tup [(D.int z57.1), (D.int z57.2.1), (D.tup (List.map D.int z57.2.2.1)), (D.int z57.2.2.2.1), (D.int z57.2.2.2.2)])) a0.2)), .ow (dtL (List.map (fun (z : List Int × (Int × (Option Int))) => ((z.1.map Sum.inl : List Key), (D.tup [(D.int z.2.1), (encO D.int z.2.2)]))) ([] : List (List Int × (Int × (Option Int)))))), .an, .an, .an] : List Bd)) (by kernel_rfl) ?_
  obtain ⟨y19, hy19, h⟩ := Option.bind_eq_some_iff.mp h
  refine sd_wp' [4, 5, 6] (by kernel_rfl) (env2 := ([.im (D.tup [(D.int a0.1), (D.tup (List.map (fun (z76 : (Int × Int × (List Int) × Int × Int)) => (D.tup [(D.int z76.1), (D.int z76.2.1), (D.tup (List.map D.int z76.2.2.1)), (D.int z76.2.2.2.1), (D.int z76.2.2.2.2)])) a0.2))]), .im (D.lst (List.map D.int r1)), .im (D.tup (List.map (fun (z77 : (Int × Int × (List Int) × Int × Int)) => (D.tup [(D.int z77.1), (D.int z77.2.1), (D.tup (List.map D.int z77.2.2.1)), (D.int z77.2.2.2.1), (D.int z77.2.2.2.2)])) a0.2)), .ow (dtL (List.map (fun (z : List Int × (Int × (Option Int))) => ((z.1.map Sum.inl : List Key), (D.tup [(D.int z.2.1), (encO D.int z.2.2)]))) ([] : List (List Int × (Int × (Option Int)))))), .an, .an, .an] : List Bd)) (by kernel_rfl) ?_
  refine sd_seq (sd_for (l := .l2) (o := .nx ([.im (D.tup [(D.int a0.1), (D.tup (List.map (fun (z78 : (Int × Int × (List Int) × Int × Int)) => (D.tup [(D.int z78.1), (D.int z78.2.1), (D.tup (List.map D.int z78.2.2.1)), (D.int z78.2.2.2.1), (D.int z78.2.2.2.2)])) a0.2))]), .im (D.lst (List.map D.int r1)), .im (D.tup (List.map (fun (z79 : (Int × Int × (List Int) × Int × Int)) => (D.tup [(D.int z79.1), (D.int z79.2.1), (D.tup (List.map D.int z79.2.2.1)), (D.int z79.2.2.2.1), (D.int z79.2.2.2.2)])) a0.2)), .ow (dtL (List.map (fun (z : List Int × (Int × (Option Int))) => ((z.1.map Sum.inl : List Key), (D.tup [(D.int z.2.1), (encO D.int z.2.2)]))) y19)), .an, .an, .an] : List Bd)) rfl (ei_list rfl (ev_im rfl)) (loop_foldN (en := D.int) (ev := fun (s3 : ((List (List Int × (Int × (Option Int)))))) => ([.im (D.tup [(D.int a0.1), (D.tup (List.map (fun (z74 : (Int × Int × (List Int) × Int × Int)) => (D.tup [(D.int z74.1), (D.int z74.2.1), (D.tup (List.map D.int z74.2.2.1)), (D.int z74.2.2.2.1), (D.int z74.2.2.2.2)])) a0.2))]), .im (D.lst (List.map D.int r1)), .im (D.tup (List.map (fun (z75 : (Int × Int × (List Int) × Int × Int)) => (D.tup [(D.int z75.1), (D.int z75.2.1), (D.tup (List.map D.int z75.2.2.1)), (D.int z75.2.2.2.1), (D.int z75.2.2.2.2)])) a0.2)), .ow (dtL (List.map (fun (z : List Int × (Int × (Option Int))) => ((z.1.map Sum.inl : List Key), (D.tup [(D.int z.2.1), (encO D.int z.2.2)]))) s3)), .an, .an, .an] : List Bd)) (fun x2 s3 z4 h => ?_) _ ([] : List (List Int × (Int × (Option Int)))) y19 hy19)) ?_
  · refine sdt (tg_name rfl) ?_
    obtain ⟨r5, hr5, h⟩ := Option.bind_eq_some_iff.mp h
    refine sd_seq (sd_asg (d := (D.lst (List.map D.int r5))) rfl (ev_callK (l := .l2) (ds := [(D.tup (List.map (fun (z58 : (Int × Int × (List Int) × Int × Int)) => (D.tup [(D.int z58.1), (D.int z58.2.1), (D.tup (List.map D.int z58.2.2.1)), (D.int z58.2.2.2.1), (D.int z58.2.2.2.2)])) a0.2)), (D.lst (List.map D.int r1)), (D.int x2)]) (R := R_calls_to) (ek_A (ev_im rfl) (ek_R (ev_im rfl) (ek_A (ev_im rfl) ek_nil))) ⟨a0.2, r1, x2, r5, hr5, rfl, rfl⟩)) ?_
    refine sd_env (env2 := ([.im (D.tup [(D.int a0.1), (D.tup (List.map (fun (z59 : (Int × Int × (List Int) × Int × Int)) => (D.tup [(D.int z59.1), (D.int z59.2.1), (D.tup (List.map D.int z59.2.2.1)), (D.int z59.2.2.2.1), (D.int z59.2.2.2.2)])) a0.2))]), .im (D.lst (List.map D.int r1)), .im (D.tup (List.map (fun (z60 : (Int × Int × (List Int) × Int × Int)) => (D.tup [(D.int z60.1), (D.int z60.2.1), (D.tup (List.map D.int z60.2.2.1)), (D.int z60.2.2.2.1), (D.int z60.2.2.2.2)])) a0.2)), .ow (dtL (List.map (fun (z : List Int × (Int × (Option Int))) => ((z.1.map Sum.inl : List Key), (D.tup [(D.int z.2.1), (encO D.int z.2.2)]))) s3)), .im (D.int x2), .im (D.lst (List.map D.int r5)), .an] : List Bd)) (by kernel_rfl) ?_
    obtain ⟨y17, hy17, h⟩ := Option.bind_eq_some_iff.mp h
    refine sd_wp' [6] (by kernel_rfl) (env2 := ([.im (D.tup [(D.int a0.1), (D.tup (List.map (fun (z69 : (Int × Int × (List Int) × Int × Int)) => (D.tup [(D.int z69.1), (D.int z69.2.1), (D.tup (List.map D.int z69.2.2.1)), (D.int z69.2.2.2.1), (D.int z69.2.2.2.2)])) a0.2))]), .im (D.lst (List.map D.int r1)), .im (D.tup (List.map (fun (z70 : (Int × Int × (List Int) × Int × Int)) => (D.tup [(D.int z70.1), (D.int z70.2.1), (D.tup (List.map D.int z70.2.2.1)), (D.int z70.2.2.2.1), (D.int z70.2.2.2.2)])) a0.2)), .ow (dtL (List.map (fun (z : List Int × (Int × (Option Int))) => ((z.1.map Sum.inl : List Key), (D.tup [(D.int z.2.1), (encO D.int z.2.2)]))) s3)), .im (D.int x2), .im (D.lst (List.map D.int r5)), .an] : List Bd)) (by kernel_rfl) ?_
    refine sd_seq (sd_for (l := .l2) (o := .nx ([.im (D.tup [(D.int a0.1), (D.tup (List.map (fun (z71 : (Int × Int × (List Int) × Int × Int)) => (D.tup [(D.int z71.1), (D.int z71.2.1), (D.tup (List.map D.int z71.2.2.1)), (D.int z71.2.2.2.1), (D.int z71.2.2.2.2)])) a0.2))]), .im (D.lst (List.map D.int r1)), .im (D.tup (List.map (fun (z72 : (Int × Int × (List Int) × Int × Int)) => (D.tup [(D.int z72.1), (D.int z72.2.1), (D.tup (List.map D.int z72.2.2.1)), (D.int z72.2.2.2.1), (D.int z72.2.2.2.2)])) a0.2)), .ow (dtL (List.map (fun (z : List Int × (Int × (Option Int))) => ((z.1.map Sum.inl : List Key), (D.tup [(D.int z.2.1), (encO D.int z.2.2)]))) y17)), .im (D.int x2), .im (D.lst (List.map D.int r5)), .an] : List Bd)) rfl (ei_list rfl (ev_im rfl)) (loop_foldN (en := D.int) (ev := fun (s7 : ((List (List Int × (Int × (Option Int)))))) => ([.im (D.tup [(D.int a0.1), (D.tup (List.map (fun (z67 : (Int × Int × (List Int) × Int × Int)) => (D.tup [(D.int z67.1), (D.int z67.2.1), (D.tup (List.map D.int z67.2.2.1)), (D.int z67.2.2.2.1), (D.int z67.2.2.2.2)])) a0.2))]), .im (D.lst (List.map D.int r1)), .im (D.tup (List.map (fun (z68 : (Int × Int × (List Int) × Int × Int)) => (D.tup [(D.int z68.1), (D.int z68.2.1), (D.tup (List.map D.int z68.2.2.1)), (D.int z68.2.2.2.1), (D.int z68.2.2.2.2)])) a0.2)), .ow (dtL (List.map (fun (z : List Int × (Int × (Option Int))) => ((z.1.map Sum.inl : List Key), (D.tup [(D.int z.2.1), (encO D.int z.2.2)]))) s7)), .im (D.int x2), .im (D.lst (List.map D.int r5)), .an] : List Bd)) (fun x6 s7 z8 h => ?_) _ s3 y17 hy17)) ?_
    · refine sdt (tg_name rfl) ?_
      refine sd_if (eb_test (l := .l2) (ev_opP (l := .l2) (ev_im rfl) (ev_im rfl) rv_lt)) (fun hb => ?_) (fun hb => ?_)
      · replace h := ifT hb h
        obtain ⟨r9, hr9, h⟩ := Option.bind_eq_some_iff.mp h
        obtain ⟨x11, hx11, h⟩ := Option.bind_eq_some_iff.mp h
        obtain ⟨x12, hx12, h⟩ := Option.bind_eq_some_iff.mp h
        refine sd_seq (sd_dputTt (f := (fun (z62 : (Int × (Option Int))) => (D.tup [(D.int z62.1), (encO D.int z62.2)]))) (l1 := s7) (v := (x11.1, (some x11.2))) (ns := [x2, x6]) rfl (ev_is (ev_cb (l := .l2) (ea_consP (ev_callK (l := .l2) (ds := [(D.tup (List.map (fun (z61 : (Int × Int × (List Int) × Int × Int)) => (D.tup [(D.int z61.1), (D.int z61.2.1), (D.tup (List.map D.int z61.2.2.1)), (D.int z61.2.2.2.1), (D.int z61.2.2.2.2)])) a0.2)), (D.lst (List.map D.int r5)), (dtL (List.map (fun (z : List Int × (Int × (Option Int))) => ((z.1.map Sum.inl : List Key), (D.tup [(D.int z.2.1), (encO D.int z.2.2)]))) s7)), (D.int x6)]) (R := R_late_choices) (ek_A (ev_im rfl) (ek_A (ev_im rfl) (ek_R (ev_ow (.inl rfl) rfl) (ek_A (ev_im rfl) ek_nil)))) ⟨a0.2, r5, s7, x6, r9, hr9, rfl, rfl⟩) ea_nil) (rc_maxT (key := (fun (k10 : (Int × Int)) => [k10.1, k10.2])) hx11)) (show _ = (D.tup [(D.int x11.1), (encO D.int (some x11.2))]) from rfl)) (ea_consP (ev_im rfl) (ea_consP (ev_im rfl) ea_nil)) (show 2 ≤ 1000 from by decide) (okL_of hx12)) ?_
        refine sd_env (env2 := ([.im (D.tup [(D.int a0.1), (D.tup (List.map (fun (z63 : (Int × Int × (List Int) × Int × Int)) => (D.tup [(D.int z63.1), (D.int z63.2.1), (D.tup (List.map D.int z63.2.2.1)), (D.int z63.2.2.2.1), (D.int z63.2.2.2.2)])) a0.2))]), .im (D.lst (List.map D.int r1)), .im (D.tup (List.map (fun (z64 : (Int × Int × (List Int) × Int × Int)) => (D.tup [(D.int z64.1), (D.int z64.2.1), (D.tup (List.map D.int z64.2.2.1)), (D.int z64.2.2.2.1), (D.int z64.2.2.2.2)])) a0.2)), .ow (dtL (List.map (fun (z : List Int × (Int × (Option Int))) => ((z.1.map Sum.inl : List Key), (D.tup [(D.int z.2.1), (encO D.int z.2.2)]))) (putA s7 [x2, x6] (x11.1, (some x11.2))))), .im (D.int x2), .im (D.lst (List.map D.int r5)), .im (D.int x6)] : List Bd)) (by kernel_rfl) ?_
        obtain ⟨r13, hr13, h⟩ := Option.bind_eq_some_iff.mp h
        obtain ⟨x15, hx15, h⟩ := Option.bind_eq_some_iff.mp h
        obtain ⟨x16, hx16, h⟩ := Option.bind_eq_some_iff.mp h
        have h := Option.some.inj h; subst h
        exact sd_endW [6] (sd_dputTt (f := (fun (z66 : (Int × (Option Int))) => (D.tup [(D.int z66.1), (encO D.int z66.2)]))) (l1 := (putA s7 [x2, x6] (x11.1, (some x11.2)))) (v := (x15.1, (some x15.2))) (ns := [x6, x2]) rfl (ev_is (ev_cb (l := .l2) (ea_consP (ev_callK (l := .l2) (ds := [(D.tup (List.map (fun (z65 : (Int × Int × (List Int) × Int × Int)) => (D.tup [(D.int z65.1), (D.int z65.2.1), (D.tup (List.map D.int z65.2.2.1)), (D.int z65.2.2.2.1), (D.int z65.2.2.2.2)])) a0.2)), (D.lst (List.map D.int r5)), (dtL (List.map (fun (z : List Int × (Int × (Option Int))) => ((z.1.map Sum.inl : List Key), (D.tup [(D.int z.2.1), (encO D.int z.2.2)]))) (putA s7 [x2, x6] (x11.1, (some x11.2))))), (D.int x6)]) (R := R_early_choices) (ek_A (ev_im rfl) (ek_A (ev_im rfl) (ek_R (ev_ow (.inl rfl) rfl) (ek_A (ev_im rfl) ek_nil)))) ⟨a0.2, r5, (putA s7 [x2, x6] (x11.1, (some x11.2))), x6, r13, hr13, rfl, rfl⟩) ea_nil) (rc_maxT (key := (fun (k14 : (Int × Int)) => [k14.1, k14.2])) hx15)) (show _ = (D.tup [(D.int x15.1), (encO D.int (some x15.2))]) from rfl)) (ea_consP (ev_im rfl) (ea_consP (ev_im rfl) ea_nil)) (show 2 ≤ 1000 from by decide) (okL_of hx16)) (by kernel_rfl) (by kernel_rfl)
      · replace h := ifF hb h
        have h := Option.some.inj h; subst h
        exact sd_nextW [6] (by kernel_rfl) (by kernel_rfl)
    obtain ⟨x18, hx18, h⟩ := Option.bind_eq_some_iff.mp h
    have h := Option.some.inj h; subst h
    exact sd_endW [4, 5, 6] (sd_dputTt (f := (fun (z73 : (Int × (Option Int))) => (D.tup [(D.int z73.1), (encO D.int z73.2)]))) (l1 := y17) (v := ((0 : Int), (none : (Option Int)))) (ns := [x2, x2]) rfl (ev_is (ev_tup (ea_consP ev_int (ea_consP ev_non ea_nil)) (show 2 ≤ 1000 from by decide)) (show _ = (D.tup [(D.int (0 : Int)), (encO D.int (none : (Option Int)))]) from rfl)) (ea_consP (ev_im rfl) (ea_consP (ev_im rfl) ea_nil)) (show 2 ≤ 1000 from by decide) (okL_of hx18)) (by kernel_rfl) (by kernel_rfl)
  have h := Option.some.inj h; subst h
  exact (sd_ret (d := (dtL (List.map (fun (z : List Int × (Int × (Option Int))) => ((z.1.map Sum.inl : List Key), (D.tup [(D.int z.2.1), (encO D.int z.2.2)]))) y19))) (ev_ow (.inr rfl) rfl))
/-- act_times -/
def m_act_times (a0 : (Int × (List (Int × Int × (List Int) × Int × Int)))) : Option (List (Int × (Int × Int))) := (m_greatest_differences a0).bind fun r1 => (m_reachable_services a0).bind fun r2 => (dictO (fun (x3 : Int) => (getA r1 [(0 : Int), x3]).bind fun x4 => (getA r1 [x3, (0 : Int)]).bind fun x5 => some (x3, ((-x4.1), x5.1))) r2).bind fun dd6 => some dd6
def R_act_times : List D → D → Prop := fun ds r => ∃ (a0 : (Int × (List (Int × Int × (List Int) × Int × Int)))) (v : (List (Int × (Int × Int)))), m_act_times a0 = some v ∧ ds = [(D.tup [(D.int a0.1), (D.tup (List.map (fun (z88 : (Int × Int × (List Int) × Int × Int)) => (D.tup [(D.int z88.1), (D.int z88.2.1), (D.tup (List.map D.int z88.2.2.1)), (D.int z88.2.2.2.1), (D.int z88.2.2.2.2)])) a0.2))])] ∧ r = (dkL (List.map (fun (z : Int × (Int × Int)) => ((Sum.inl z.1 : Key), (D.tup [(D.int z.2.1), (D.int z.2.2)]))) v))
def nm_act_times : List Str := ["system", "table", "service"]
theorem sc_act_times : FnScope ["system", "table", "service"] ["system"] (defScope (top 30)) := ⟨rfl, rfl, rfl, by decide +kernel, rfl, by decide +kernel, by decide +kernel⟩
theorem ok_act_times (T : Tx K mg) : FnOk P w K mg base CX0 8 T.a_act_times T.d_act_times ["system"] (SpP K [true] R_act_times) := by
  refine T.F_act_times.ok sc_act_times (SpP.len rfl) (fun cdv A outer s H vs Q E hr h => ⟨_, PSs.nox (pss_cons (ps_set (i := 1) sc_act_times.nd rfl (Or.inr rfl) (pe_call (ok_greatest_differences T) (hr.mono (by decide)) rfl T.g_greatest_differences T.F_greatest_differences.kp (T.F_greatest_differences.bindsN fun _ _ _ _ _ _ us hl => match us, hl with | [_], _ => rfl) .nil pass0 (pa_cons (pv 0) pa_nil))) (pss_one (ps_ret (pe_dg (o := .dK []) (own := [("service", 2)]) (.inl rfl) rfl (hu_of hr) sc_act_times.nd (piListK (K := K) (by rfl) (pe_call (ok_reachable_services T) (hr.mono (by decide)) rfl T.g_reachable_services T.F_reachable_services.kp (T.F_reachable_services.bindsN fun _ _ _ _ _ _ us hl => match us, hl with | [_], _ => rfl) .nil pass0 (pa_cons (pv 0) pa_nil))) (blkOk_by (own := [("service", 2)]) (N := nm_act_times) (sc := defScope (top 30)) (by decide +kernel)) (fun _ _ _ _ _ => (pg_name (i := 2) sc_act_times.nd rfl (Or.inl rfl))) (fun _ _ _ _ _ => pts_nil) (fun _ _ _ _ _ => (pv 2)) (fun _ _ _ _ _ => (pe_tup (pa_cons (pe_un un_neg (pe_ix (ixTK (K := K) (by rfl)) (pe_dget (hu_of hr) (pv 1) (pe_tup (pa_cons pe_int (pa_cons (pv 2) pa_nil))) (fun _ _ => rfl)) pe_int (fun _ _ => rfl))) (pa_cons (pe_ix (ixTK (K := K) (by rfl)) (pe_dget (hu_of hr) (pv 1) (pe_tup (pa_cons (pv 2) (pa_cons pe_int pa_nil))) (fun _ _ => rfl)) pe_int (fun _ _ => rfl)) pa_nil)))))))), ?_⟩)
  refine run_P (n := 2) rfl h fun ds r hR => ?_
  obtain ⟨a0, v, h, rfl, rfl⟩ := hR
  unfold m_act_times at h
  refine sd_env (env2 := ([.im (D.tup [(D.int a0.1), (D.tup (List.map (fun (z89 : (Int × Int × (List Int) × Int × Int)) => (D.tup [(D.int z89.1), (D.int z89.2.1), (D.tup (List.map D.int z89.2.2.1)), (D.int z89.2.2.2.1), (D.int z89.2.2.2.2)])) a0.2))]), .an, .an] : List Bd)) rfl ?_
  obtain ⟨r1, hr1, h⟩ := Option.bind_eq_some_iff.mp h
  refine sd_seq (sd_asg (d := (dtL (List.map (fun (z : List Int × (Int × (Option Int))) => ((z.1.map Sum.inl : List Key), (D.tup [(D.int z.2.1), (encO D.int z.2.2)]))) r1))) rfl (ev_callK (l := .l2) (ds := [(D.tup [(D.int a0.1), (D.tup (List.map (fun (z82 : (Int × Int × (List Int) × Int × Int)) => (D.tup [(D.int z82.1), (D.int z82.2.1), (D.tup (List.map D.int z82.2.2.1)), (D.int z82.2.2.2.1), (D.int z82.2.2.2.2)])) a0.2))])]) (R := R_greatest_differences) (ek_A (ev_im rfl) ek_nil) ⟨a0, r1, hr1, rfl, rfl⟩)) ?_
  refine sd_env (env2 := ([.im (D.tup [(D.int a0.1), (D.tup (List.map (fun (z83 : (Int × Int × (List Int) × Int × Int)) => (D.tup [(D.int z83.1), (D.int z83.2.1), (D.tup (List.map D.int z83.2.2.1)), (D.int z83.2.2.2.1), (D.int z83.2.2.2.2)])) a0.2))]), .im (dtL (List.map (fun (z : List Int × (Int × (Option Int))) => ((z.1.map Sum.inl : List Key), (D.tup [(D.int z.2.1), (encO D.int z.2.2)]))) r1)), .an] : List Bd)) (by kernel_rfl) ?_
  obtain ⟨r2, hr2, h⟩ := Option.bind_eq_some_iff.mp h
  obtain ⟨dd6, hdd6, h⟩ := Option.bind_eq_some_iff.mp h
  have h := Option.some.inj h; subst h
  exact (sd_ret (d := (dkL (List.map (fun (z : Int × (Int × Int)) => ((Sum.inl z.1 : Key), (D.tup [(D.int z.2.1), (D.int z.2.2)]))) dd6))) (ef_ev (ef_dictK (l := .l2) (en := D.int) (eb := (fun (z87 : (Int × Int)) => (D.tup [(D.int z87.1), (D.int z87.2)]))) hdd6 rfl (ei_list rfl (ev_callK (l := .l2) (ds := [(D.tup [(D.int a0.1), (D.tup (List.map (fun (z84 : (Int × Int × (List Int) × Int × Int)) => (D.tup [(D.int z84.1), (D.int z84.2.1), (D.tup (List.map D.int z84.2.2.1)), (D.int z84.2.2.2.1), (D.int z84.2.2.2.2)])) a0.2))])]) (R := R_reachable_services) (ek_A (ev_im rfl) ek_nil) ⟨a0, r2, hr2, rfl, rfl⟩)) (tw_name (i := 2) (vs := [2]) (by decide)) (anC (v := 2) rfl anN) (fun x3 kv wdd6 => by obtain ⟨x4, hx4, wdd6⟩ := Option.bind_eq_some_iff.mp wdd6; obtain ⟨x5, hx5, wdd6⟩ := Option.bind_eq_some_iff.mp wdd6; have wdd6 := Option.some.inj wdd6; subst wdd6; exact turnK (tg_name rfl) (ev_im rfl) (ev_tup (ea_consP (ev_un (f := fun i => V.int (-i)) (e := D.int (-x4.1)) (l := .l2) (ev_opP (l := .l2) (ev_dgetTt (f := (fun (z85 : (Int × (Option Int))) => (D.tup [(D.int z85.1), (encO D.int z85.2)]))) (ns := [(0 : Int), x3]) (v := x4) hx4 (ev_im rfl) (ea_consP ev_int (ea_consP (ev_im rfl) ea_nil)) (show 2 ≤ 1000 from by decide)) ev_int (rv_ixTn 0 rfl)) (fun _ => rfl)) (ea_consP (ev_opP (l := .l2) (ev_dgetTt (f := (fun (z86 : (Int × (Option Int))) => (D.tup [(D.int z86.1), (encO D.int z86.2)]))) (ns := [x3, (0 : Int)]) (v := x5) hx5 (ev_im rfl) (ea_consP (ev_im rfl) (ea_consP ev_int ea_nil)) (show 2 ≤ 1000 from by decide)) ev_int (rv_ixTn 0 rfl)) ea_nil)) (show 2 ≤ 1000 from by decide)) rfl rfl))))
/-- check_windows -/
def m_check_windows (a0 : (Int × (List (Int × Int × (List Int) × Int × Int)))) (a1 : (List Int)) : Option Unit := (m_check_system a0).bind fun r1 => if (!true) = true then (none) else ((List.foldlM (fun (s3 : Unit) (x2 : (Int × Int)) => (if (decide (a0.1 ≤ x2.1)) = true then some true else (m_is_number_within x2.2 (0 : Int) (9999 : Int)).bind fun r5 => some (!r5)).bind fun c6 => if c6 = true then (none) else (some ())) () (enumT a1)).bind fun y7 => if (decide ((List.length a1 : Int) < a0.1)) = true then (none) else (some ()))
def R_check_windows : List D → D → Prop := fun ds r => ∃ (a0 : (Int × (List (Int × Int × (List Int) × Int × Int)))) (a1 : (List Int)) (v : Unit), m_check_windows a0 a1 = some v ∧ ds = [(D.tup [(D.int a0.1), (D.tup (List.map (fun (z97 : (Int × Int × (List Int) × Int × Int)) => (D.tup [(D.int z97.1), (D.int z97.2.1), (D.tup (List.map D.int z97.2.2.1)), (D.int z97.2.2.2.1), (D.int z97.2.2.2.2)])) a0.2))]), (D.tup (List.map D.int a1))] ∧ r = D.non
def nm_check_windows : List Str := ["system", "windows", "count", "index", "window"]
theorem sc_check_windows : FnScope ["system", "windows", "count", "index", "window"] ["system", "windows"] (defScope (top 34)) := ⟨rfl, rfl, rfl, by decide +kernel, rfl, by decide +kernel, by decide +kernel⟩
theorem ok_check_windows (T : Tx K mg) : FnOk P w K mg base CX0 6 T.a_check_windows T.d_check_windows ["system", "windows"] (SpP K [true, true] R_check_windows) := by
  refine T.F_check_windows.ok sc_check_windows (SpP.len rfl) (fun cdv A outer s H vs Q E hr h => ⟨_, PSs.nox (pss_cons (ps_expr (pe_call (ok_check_system T) (hr.mono (by decide)) rfl T.g_check_system T.F_check_system.kp (T.F_check_system.bindsN fun _ _ _ _ _ _ us hl => match us, hl with | [_], _ => rfl) .nil pass0 (pa_cons (pv 0) pa_nil))) (pss_cons (ps_set (i := 2) sc_check_windows.nd rfl (Or.inl rfl) (pe_ix (ixTK (K := K) (by rfl)) (pv 0) pe_int (fun _ _ => rfl))) (pss_cons (ps_if (pt_not (pt_val (pe_callB (isiK (K := K) (by rfl)) rfl T.b_isinstance (by decide +kernel) (pa_cons (pv 1) (pa_cons (pe_bltn (v := .ty "tuple") rfl T.b_tuple (by decide +kernel) rfl) pa_nil))))) (pss_one ps_never) pss_nil) (pss_cons (ps_for PassesOwn.never rfl (pi_enT rfl T.b_enumerate (pa_cons (pv 1) pa_nil)) (pgTupK (K := K) (n := 2) (by rfl) rfl (pgs_cons (pg_name (i := 3) sc_check_windows.nd rfl (Or.inl rfl)) (pgs_cons (pg_name (i := 4) sc_check_windows.nd rfl (Or.inl rfl)) pgs_nil)) (by rfl) (by rfl)) (pss_one (ps_if (PW.pt (pw_or (pt_cmpR op_ge (pv 3) (pv 2) (nomark _)) (pw_or1 (pt_not (pt_val (pe_call (ok_is_number_within T) (hr.mono (by decide)) rfl T.g_is_number_within T.F_is_number_within.kp (T.F_is_number_within.bindsN fun _ _ _ _ _ _ us hl => match us, hl with | [_, _, _], _ => rfl) .nil pass0 (pa_cons (pv 4) (pa_cons pe_int (pa_cons (pe_glob (v := .int 9999) rfl T.c_LONGEST_WINDOW ⟨_, rfl⟩) pa_nil))))))))) (pss_one ps_never) pss_nil))) (pss_one (ps_if (pt_cmpR op_lt (pe_callB (lenK (K := K) (by rfl)) rfl T.b_len (by decide +kernel) (pa_cons (pv 1) pa_nil)) (pv 2) (nomark _)) (pss_one ps_never) pss_nil)))))), ?_⟩)
  refine run_N (n := 3) rfl h fun ds r hR => ?_
  obtain ⟨a0, a1, v, h, rfl, rfl⟩ := hR
  unfold m_check_windows at h
  refine ⟨rfl, ([.im (D.tup [(D.int a0.1), (D.tup (List.map (fun (z98 : (Int × Int × (List Int) × Int × Int)) => (D.tup [(D.int z98.1), (D.int z98.2.1), (D.tup (List.map D.int z98.2.2.1)), (D.int z98.2.2.2.1), (D.int z98.2.2.2.2)])) a0.2))]), .im (D.tup (List.map D.int a1)), .an, .an, .an] : List Bd), ?_⟩
  refine sd_env (env2 := ([.im (D.tup [(D.int a0.1), (D.tup (List.map (fun (z99 : (Int × Int × (List Int) × Int × Int)) => (D.tup [(D.int z99.1), (D.int z99.2.1), (D.tup (List.map D.int z99.2.2.1)), (D.int z99.2.2.2.1), (D.int z99.2.2.2.2)])) a0.2))]), .im (D.tup (List.map D.int a1)), .an, .an, .an] : List Bd)) rfl ?_
  obtain ⟨r1, hr1, h⟩ := Option.bind_eq_some_iff.mp h
  refine sd_seq (sd_drop (d := D.non) (l := .l2) (ev_callK (l := .l2) (ds := [(D.tup [(D.int a0.1), (D.tup (List.map (fun (z90 : (Int × Int × (List Int) × Int × Int)) => (D.tup [(D.int z90.1), (D.int z90.2.1), (D.tup (List.map D.int z90.2.2.1)), (D.int z90.2.2.2.1), (D.int z90.2.2.2.2)])) a0.2))])]) (R := R_check_system) (ek_A (ev_im rfl) ek_nil) ⟨a0, r1, hr1, rfl, rfl⟩)) ?_
  refine sd_env (env2 := ([.im (D.tup [(D.int a0.1), (D.tup (List.map (fun (z91 : (Int × Int × (List Int) × Int × Int)) => (D.tup [(D.int z91.1), (D.int z91.2.1), (D.tup (List.map D.int z91.2.2.1)), (D.int z91.2.2.2.1), (D.int z91.2.2.2.2)])) a0.2))]), .im (D.tup (List.map D.int a1)), .an, .an, .an] : List Bd)) (by kernel_rfl) ?_
  refine sd_seq (sd_asg (d := (D.int a0.1)) rfl (ev_opP (l := .l2) (ev_im rfl) ev_int (rv_ixTn 0 rfl))) ?_
  refine sd_env (env2 := ([.im (D.tup [(D.int a0.1), (D.tup (List.map (fun (z92 : (Int × Int × (List Int) × Int × Int)) => (D.tup [(D.int z92.1), (D.int z92.2.1), (D.tup (List.map D.int z92.2.2.1)), (D.int z92.2.2.2.1), (D.int z92.2.2.2.2)])) a0.2))]), .im (D.tup (List.map D.int a1)), .im (D.int a0.1), .an, .an] : List Bd)) (by kernel_rfl) ?_
  refine sd_ifs (eb_not (eb_B (l := .l2) (ev_isi (l := .l2) (ev_im rfl) (show kitB "tuple" "tuple" = some true from by decide +kernel)))) (fun hb => ?_) (fun hb => ?_)
  · replace h := ifT hb h
    cases h
  · replace h := ifF hb h
    refine sd_seqNext ?_
    obtain ⟨y7, hy7, h⟩ := Option.bind_eq_some_iff.mp h
    refine sd_wp' [3, 4] (by kernel_rfl) (env2 := ([.im (D.tup [(D.int a0.1), (D.tup (List.map (fun (z94 : (Int × Int × (List Int) × Int × Int)) => (D.tup [(D.int z94.1), (D.int z94.2.1), (D.tup (List.map D.int z94.2.2.1)), (D.int z94.2.2.2.1), (D.int z94.2.2.2.2)])) a0.2))]), .im (D.tup (List.map D.int a1)), .im (D.int a0.1), .an, .an] : List Bd)) (by kernel_rfl) ?_
    refine sd_seq (sd_for (l := .l2) (o := .nx ([.im (D.tup [(D.int a0.1), (D.tup (List.map (fun (z95 : (Int × Int × (List Int) × Int × Int)) => (D.tup [(D.int z95.1), (D.int z95.2.1), (D.tup (List.map D.int z95.2.2.1)), (D.int z95.2.2.2.1), (D.int z95.2.2.2.2)])) a0.2))]), .im (D.tup (List.map D.int a1)), .im (D.int a0.1), .an, .an] : List Bd)) rfl (ei_enumTT (f := D.int) rfl (ea_consP (ev_im rfl) ea_nil)) (loop_foldN (en := (fun (z96 : (Int × Int)) => (D.tup [(D.int z96.1), (D.int z96.2)]))) (ev := fun (s3 : Unit) => ([.im (D.tup [(D.int a0.1), (D.tup (List.map (fun (z93 : (Int × Int × (List Int) × Int × Int)) => (D.tup [(D.int z93.1), (D.int z93.2.1), (D.tup (List.map D.int z93.2.2.1)), (D.int z93.2.2.2.1), (D.int z93.2.2.2.2)])) a0.2))]), .im (D.tup (List.map D.int a1)), .im (D.int a0.1), .an, .an] : List Bd)) (fun x2 s3 z4 h => ?_) _ () y7 hy7)) ?_
    · refine sdt (tg_tup rfl (tgs_cons (tg_name rfl) (tgs_cons (tg_name rfl) tgs_nil))) ?_
      obtain ⟨c6, hc6, h⟩ := Option.bind_eq_some_iff.mp h
      refine sd_if (eb_orW (c := c6) (eb_test (l := .l2) (ev_opP (l := .l2) (ev_im rfl) (ev_im rfl) rv_ge)) (fun hb => by have wc6 := ifF hb hc6; obtain ⟨r5, hr5, wc6⟩ := Option.bind_eq_some_iff.mp wc6; have wc6 := Option.some.inj wc6; subst wc6; exact (eb_not (eb_B (l := .l2) (ev_callK (l := .l2) (ds := [(D.int x2.2), (D.int (0 : Int)), (D.int (9999 : Int))]) (R := R_is_number_within) (ek_A (ev_im rfl) (ek_A ev_int (ek_A ev_int ek_nil))) ⟨x2.2, (0 : Int), (9999 : Int), r5, hr5, rfl, rfl⟩)))) (fun hb => by have wc6 := ifT hb hc6; exact (Option.some.inj wc6).symm)) (fun hb => ?_) (fun hb => ?_)
      · replace h := ifT hb h
        cases h
      · replace h := ifF hb h
        have h := Option.some.inj h; subst h
        exact sd_nextW [3, 4] (by kernel_rfl) (by kernel_rfl)
    refine sd_if (eb_test (l := .l2) (ev_opP (l := .l2) (ev_cb (l := .l2) (ea_consP (ev_im rfl) ea_nil) (rc_len_tm (f := D.int))) (ev_im rfl) rv_lt)) (fun hb => ?_) (fun hb => ?_)
    · replace h := ifT hb h
      cases h
    · replace h := ifF hb h
      exact sd_nextW [2, 3, 4] (by kernel_rfl) (by kernel_rfl)
/-- memory_spans -/
def m_memory_spans (a0 : (Int × (List (Int × Int × (List Int) × Int × Int)))) (a1 : (List Int)) : Option (List (Int × Int)) := (m_act_times a0).bind fun r1 => (dictO (fun (x2 : Int) => (atI a1 x2).bind fun x3 => (getA r1 x2).bind fun x4 => (getA r1 x2).bind fun x5 => some (x2, ((x3 + x4.2) - x5.1))) (List.map (fun z => z.1) r1)).bind fun dd6 => some dd6
def R_memory_spans : List D → D → Prop := fun ds r => ∃ (a0 : (Int × (List (Int × Int × (List Int) × Int × Int)))) (a1 : (List Int)) (v : (List (Int × Int))), m_memory_spans a0 a1 = some v ∧ ds = [(D.tup [(D.int a0.1), (D.tup (List.map (fun (z105 : (Int × Int × (List Int) × Int × Int)) => (D.tup [(D.int z105.1), (D.int z105.2.1), (D.tup (List.map D.int z105.2.2.1)), (D.int z105.2.2.2.1), (D.int z105.2.2.2.2)])) a0.2))]), (D.tup (List.map D.int a1))] ∧ r = (dkL (List.map (fun (z : Int × Int) => ((Sum.inl z.1 : Key), (D.int z.2))) v))
def nm_memory_spans : List Str := ["system", "windows", "times", "service"]
theorem sc_memory_spans : FnScope ["system", "windows", "times", "service"] ["system", "windows"] (defScope (top 35)) := ⟨rfl, rfl, rfl, by decide +kernel, rfl, by decide +kernel, by decide +kernel⟩
theorem ok_memory_spans (T : Tx K mg) : FnOk P w K mg base CX0 9 T.a_memory_spans T.d_memory_spans ["system", "windows"] (SpF K [true, true] R_memory_spans) := by
  refine T.F_memory_spans.ok sc_memory_spans (SpF.len rfl) (fun cdv A outer s H vs Q E hr h => ⟨_, PSs.nox (pss_cons (ps_set (i := 2) sc_memory_spans.nd rfl (Or.inr rfl) (pe_call (ok_act_times T) (hr.mono (by decide)) rfl T.g_act_times T.F_act_times.kp (T.F_act_times.bindsN fun _ _ _ _ _ _ us hl => match us, hl with | [_], _ => rfl) .nil pass0 (pa_cons (pv 0) pa_nil))) (pss_one (ps_ret (pe_lk (pe_dg (o := .dK []) (own := [("service", 3)]) (.inl rfl) rfl (hu_of hr) sc_memory_spans.nd (pi_keys (pv 2)) (blkOk_by (own := [("service", 3)]) (N := nm_memory_spans) (sc := defScope (top 35)) (by decide +kernel)) (fun _ _ _ _ _ => (pg_name (i := 3) sc_memory_spans.nd rfl (Or.inl rfl))) (fun _ _ _ _ _ => pts_nil) (fun _ _ _ _ _ => (pv 3)) (fun _ _ _ _ _ => (pe_op op_sub (pe_op op_add (pe_ix (ixTK (K := K) (by rfl)) (pv 1) (pv 3) (fun _ _ => rfl)) (pe_ix (ixTK (K := K) (by rfl)) (pe_dget (hu_of hr) (pv 2) (pv 3) (fun _ _ => rfl)) pe_int (fun _ _ => rfl))) (pe_ix (ixTK (K := K) (by rfl)) (pe_dget (hu_of hr) (pv 2) (pv 3) (fun _ _ => rfl)) pe_int (fun _ _ => rfl))))))))), ?_⟩)
  refine run_F (n := 2) rfl h fun ds r hR => ?_
  obtain ⟨a0, a1, v, h, rfl, rfl⟩ := hR
  unfold m_memory_spans at h
  refine sd_env (env2 := ([.im (D.tup [(D.int a0.1), (D.tup (List.map (fun (z106 : (Int × Int × (List Int) × Int × Int)) => (D.tup [(D.int z106.1), (D.int z106.2.1), (D.tup (List.map D.int z106.2.2.1)), (D.int z106.2.2.2.1), (D.int z106.2.2.2.2)])) a0.2))]), .im (D.tup (List.map D.int a1)), .an, .an] : List Bd)) rfl ?_
  obtain ⟨r1, hr1, h⟩ := Option.bind_eq_some_iff.mp h
  refine sd_seq (sd_asg (d := (dkL (List.map (fun (z : Int × (Int × Int)) => ((Sum.inl z.1 : Key), (D.tup [(D.int z.2.1), (D.int z.2.2)]))) r1))) rfl (ev_callK (l := .l2) (ds := [(D.tup [(D.int a0.1), (D.tup (List.map (fun (z100 : (Int × Int × (List Int) × Int × Int)) => (D.tup [(D.int z100.1), (D.int z100.2.1), (D.tup (List.map D.int z100.2.2.1)), (D.int z100.2.2.2.1), (D.int z100.2.2.2.2)])) a0.2))])]) (R := R_act_times) (ek_A (ev_im rfl) ek_nil) ⟨a0, r1, hr1, rfl, rfl⟩)) ?_
  refine sd_env (env2 := ([.im (D.tup [(D.int a0.1), (D.tup (List.map (fun (z101 : (Int × Int × (List Int) × Int × Int)) => (D.tup [(D.int z101.1), (D.int z101.2.1), (D.tup (List.map D.int z101.2.2.1)), (D.int z101.2.2.2.1), (D.int z101.2.2.2.2)])) a0.2))]), .im (D.tup (List.map D.int a1)), .im (dkL (List.map (fun (z : Int × (Int × Int)) => ((Sum.inl z.1 : Key), (D.tup [(D.int z.2.1), (D.int z.2.2)]))) r1)), .an] : List Bd)) (by kernel_rfl) ?_
  obtain ⟨dd6, hdd6, h⟩ := Option.bind_eq_some_iff.mp h
  have h := Option.some.inj h; subst h
  exact (sd_retF (d := (dkL (List.map (fun (z : Int × Int) => ((Sum.inl z.1 : Key), (D.int z.2))) dd6))) (ef_lk rfl rfl (ef_dictK (l := .l2) (en := D.int) (eb := D.int) hdd6 rfl (ei_keysKt (f := (fun (z104 : (Int × Int)) => (D.tup [(D.int z104.1), (D.int z104.2)]))) (l1 := r1) rfl) (tw_name (i := 3) (vs := [3]) (by decide)) (anC (v := 3) rfl anN) (fun x2 kv wdd6 => by obtain ⟨x3, hx3, wdd6⟩ := Option.bind_eq_some_iff.mp wdd6; obtain ⟨x4, hx4, wdd6⟩ := Option.bind_eq_some_iff.mp wdd6; obtain ⟨x5, hx5, wdd6⟩ := Option.bind_eq_some_iff.mp wdd6; have wdd6 := Option.some.inj wdd6; subst wdd6; exact turnK (tg_name rfl) (ev_im rfl) (ev_opP (l := .l2) (ev_opP (l := .l2) (ev_opP (l := .l2) (ev_im rfl) (ev_im rfl) (rv_ixTm (f := D.int) (xs := a1) (v := x3) hx3)) (ev_opP (l := .l2) (ev_dgetKt (f := (fun (z102 : (Int × Int)) => (D.tup [(D.int z102.1), (D.int z102.2)]))) (v := x4) hx4 (ev_im rfl) (ev_im rfl)) ev_int (rv_ixTn 1 rfl)) rv_add) (ev_opP (l := .l2) (ev_dgetKt (f := (fun (z103 : (Int × Int)) => (D.tup [(D.int z103.1), (D.int z103.2)]))) (v := x5) hx5 (ev_im rfl) (ev_im rfl)) ev_int (rv_ixTn 0 rfl)) rv_sub) rfl rfl)) (fun _ _ _ hf h => h hf)))
/-- memory_needs -/
def m_memory_needs (a0 : (Int × (List (Int × Int × (List Int) × Int × Int)))) (a1 : (List Int)) (a2 : Int) : Option (List Int) := (m_check_windows a0 a1).bind fun r1 => (m_is_number_within a2 (1 : Int) (9999 : Int)).bind fun r2 => if (!r2) = true then (none) else ((if (decide (0 ≤ a0.1 ∧ a0.1 ≤ 1000)) = true then some () else none).bind fun g3 => (m_memory_spans a0 a1).bind fun r4 => (List.foldlM (fun (s6 : ((List Int))) (x5 : (Int × Int)) => (divO x5.2 a2).bind fun x8 => (ixN (List.length s6) x5.1).bind fun j9 => some (List.set s6 j9 (x8 + (1 : Int)))) ((List.replicate (Int.toNat a0.1) ([(0 : Int)] : List Int)).flatten) r4).bind fun y10 => some y10)
def R_memory_needs : List D → D → Prop := fun ds r => ∃ (a0 : (Int × (List (Int × Int × (List Int) × Int × Int)))) (a1 : (List Int)) (a2 : Int) (v : (List Int)), m_memory_needs a0 a1 a2 = some v ∧ ds = [(D.tup [(D.int a0.1), (D.tup (List.map (fun (z115 : (Int × Int × (List Int) × Int × Int)) => (D.tup [(D.int z115.1), (D.int z115.2.1), (D.tup (List.map D.int z115.2.2.1)), (D.int z115.2.2.2.1), (D.int z115.2.2.2.2)])) a0.2))]), (D.tup (List.map D.int a1)), (D.int a2)] ∧ r = (D.lst (List.map D.int v))
def nm_memory_needs : List Str := ["system", "windows", "gap", "needs", "service", "span"]
theorem sc_memory_needs : FnScope ["system", "windows", "gap", "needs", "service", "span"] ["system", "windows", "gap"] (defScope (top 36)) := ⟨rfl, rfl, rfl, by decide +kernel, rfl, by decide +kernel, by decide +kernel⟩
theorem ok_memory_needs (T : Tx K mg) : FnOk P w K mg base CX0 10 T.a_memory_needs T.d_memory_needs ["system", "windows", "gap"] (SpP K [true, true, true] R_memory_needs) := by
  refine T.F_memory_needs.ok sc_memory_needs (SpP.len rfl) (fun cdv A outer s H vs Q E hr h => ⟨_, PSs.nox (pss_cons (ps_expr (pe_call (ok_check_windows T) (hr.mono (by decide)) rfl T.g_check_windows T.F_check_windows.kp (T.F_check_windows.bindsN fun _ _ _ _ _ _ us hl => match us, hl with | [_, _], _ => rfl) .nil pass0 (pa_cons (pv 0) (pa_cons (pv 1) pa_nil)))) (pss_cons (ps_if (pt_not (pt_val (pe_call (ok_is_number_within T) (hr.mono (by decide)) rfl T.g_is_number_within T.F_is_number_within.kp (T.F_is_number_within.bindsN fun _ _ _ _ _ _ us hl => match us, hl with | [_, _, _], _ => rfl) .nil pass0 (pa_cons (pv 2) (pa_cons pe_int (pa_cons (pe_glob (v := .int 9999) rfl T.c_LONGEST_GAP ⟨_, rfl⟩) pa_nil)))))) (pss_one ps_never) pss_nil) (pss_cons (ps_set (i := 3) sc_memory_needs.nd rfl (Or.inl rfl) (pe_op op_rep (pe_lst (pa_cons pe_int pa_nil)) (pe_ix (ixTK (K := K) (by rfl)) (pv 0) pe_int (fun _ _ => rfl)))) (pss_cons (ps_for PassesOwn.never rfl (pi_items (pe_lkR (pe_call (ok_memory_spans T) (hr.mono (by decide)) rfl T.g_memory_spans T.F_memory_spans.kp (T.F_memory_spans.bindsN fun _ _ _ _ _ _ us hl => match us, hl with | [_, _], _ => rfl) .nil pass0 (pa_cons (pv 0) (pa_cons (pv 1) pa_nil))))) (pgTupK (K := K) (n := 2) (by rfl) rfl (pgs_cons (pg_name (i := 4) sc_memory_needs.nd rfl (Or.inl rfl)) (pgs_cons (pg_name (i := 5) sc_memory_needs.nd rfl (Or.inl rfl)) pgs_nil)) (by rfl) (by rfl)) (pss_one (ps_asg (pe_op op_add (pe_op op_fdivW (pv 5) (pv 2)) pe_int) (pg_sub (pv 3) (pv 4) set_list)))) (pss_one (ps_ret (pv 3))))))), ?_⟩)
  refine run_P (n := 3) rfl h fun ds r hR => ?_
  obtain ⟨a0, a1, a2, v, h, rfl, rfl⟩ := hR
  unfold m_memory_needs at h
  refine sd_env (env2 := ([.im (D.tup [(D.int a0.1), (D.tup (List.map (fun (z116 : (Int × Int × (List Int) × Int × Int)) => (D.tup [(D.int z116.1), (D.int z116.2.1), (D.tup (List.map D.int z116.2.2.1)), (D.int z116.2.2.2.1), (D.int z116.2.2.2.2)])) a0.2))]), .im (D.tup (List.map D.int a1)), .im (D.int a2), .an, .an, .an] : List Bd)) rfl ?_
  obtain ⟨r1, hr1, h⟩ := Option.bind_eq_some_iff.mp h
  refine sd_seq (sd_drop (d := D.non) (l := .l2) (ev_callK (l := .l2) (ds := [(D.tup [(D.int a0.1), (D.tup (List.map (fun (z107 : (Int × Int × (List Int) × Int × Int)) => (D.tup [(D.int z107.1), (D.int z107.2.1), (D.tup (List.map D.int z107.2.2.1)), (D.int z107.2.2.2.1), (D.int z107.2.2.2.2)])) a0.2))]), (D.tup (List.map D.int a1))]) (R := R_check_windows) (ek_A (ev_im rfl) (ek_A (ev_im rfl) ek_nil)) ⟨a0, a1, r1, hr1, rfl, rfl⟩)) ?_
  refine sd_env (env2 := ([.im (D.tup [(D.int a0.1), (D.tup (List.map (fun (z108 : (Int × Int × (List Int) × Int × Int)) => (D.tup [(D.int z108.1), (D.int z108.2.1), (D.tup (List.map D.int z108.2.2.1)), (D.int z108.2.2.2.1), (D.int z108.2.2.2.2)])) a0.2))]), .im (D.tup (List.map D.int a1)), .im (D.int a2), .an, .an, .an] : List Bd)) (by kernel_rfl) ?_
  obtain ⟨r2, hr2, h⟩ := Option.bind_eq_some_iff.mp h
  refine sd_ifs (eb_not (eb_B (l := .l2) (ev_callK (l := .l2) (ds := [(D.int a2), (D.int (1 : Int)), (D.int (9999 : Int))]) (R := R_is_number_within) (ek_A (ev_im rfl) (ek_A ev_int (ek_A ev_int ek_nil))) ⟨a2, (1 : Int), (9999 : Int), r2, hr2, rfl, rfl⟩))) (fun hb => ?_) (fun hb => ?_)
  · replace h := ifT hb h
    cases h
  · replace h := ifF hb h
    refine sd_seqNext ?_
    obtain ⟨g3, hg3, h⟩ := Option.bind_eq_some_iff.mp h
    refine sd_seq (sd_asgF (d := (D.lst (List.map D.int ((List.replicate (Int.toNat a0.1) ([(0 : Int)] : List Int)).flatten)))) rfl (ef_repLT (f := D.int) (xs := ([(0 : Int)] : List Int)) (ef_is (D.lst (List.map D.int ([(0 : Int)] : List Int))) (ef_lst (ea_consP ev_int ea_nil) (show 1 ≤ 1000 from by decide)) rfl) (ev_opP (l := .l2) (ev_im rfl) ev_int (rv_ixTn 0 rfl)) (of_decide_eq_true (gd hg3)) (Nat.le_of_ble_eq_true rfl))) ?_
    refine sd_env (env2 := ([.im (D.tup [(D.int a0.1), (D.tup (List.map (fun (z109 : (Int × Int × (List Int) × Int × Int)) => (D.tup [(D.int z109.1), (D.int z109.2.1), (D.tup (List.map D.int z109.2.2.1)), (D.int z109.2.2.2.1), (D.int z109.2.2.2.2)])) a0.2))]), .im (D.tup (List.map D.int a1)), .im (D.int a2), .ow (D.lst (List.map D.int ((List.replicate (Int.toNat a0.1) ([(0 : Int)] : List Int)).flatten))), .an, .an] : List Bd)) (by kernel_rfl) ?_
    obtain ⟨r4, hr4, h⟩ := Option.bind_eq_some_iff.mp h
    obtain ⟨y10, hy10, h⟩ := Option.bind_eq_some_iff.mp h
    refine sd_wp' [4, 5] (by kernel_rfl) (env2 := ([.im (D.tup [(D.int a0.1), (D.tup (List.map (fun (z112 : (Int × Int × (List Int) × Int × Int)) => (D.tup [(D.int z112.1), (D.int z112.2.1), (D.tup (List.map D.int z112.2.2.1)), (D.int z112.2.2.2.1), (D.int z112.2.2.2.2)])) a0.2))]), .im (D.tup (List.map D.int a1)), .im (D.int a2), .ow (D.lst (List.map D.int ((List.replicate (Int.toNat a0.1) ([(0 : Int)] : List Int)).flatten))), .an, .an] : List Bd)) (by kernel_rfl) ?_
    refine sd_seq (sd_for (l := .l2) (o := .nx ([.im (D.tup [(D.int a0.1), (D.tup (List.map (fun (z113 : (Int × Int × (List Int) × Int × Int)) => (D.tup [(D.int z113.1), (D.int z113.2.1), (D.tup (List.map D.int z113.2.2.1)), (D.int z113.2.2.2.1), (D.int z113.2.2.2.2)])) a0.2))]), .im (D.tup (List.map D.int a1)), .im (D.int a2), .ow (D.lst (List.map D.int y10)), .an, .an] : List Bd)) rfl (ei_itemsKt (f := D.int) rfl (ef_callA (ks := [true, true]) (ds := [(D.tup [(D.int a0.1), (D.tup (List.map (fun (z110 : (Int × Int × (List Int) × Int × Int)) => (D.tup [(D.int z110.1), (D.int z110.2.1), (D.tup (List.map D.int z110.2.2.1)), (D.int z110.2.2.2.1), (D.int z110.2.2.2.2)])) a0.2))]), (D.tup (List.map D.int a1))]) (R := R_memory_spans) rfl (ea_consP (ev_im rfl) (ea_consP (ev_im rfl) ea_nil)) ⟨a0, a1, r4, hr4, rfl, rfl⟩)) (loop_foldN (en := (fun (z114 : (Int × Int)) => (D.tup [(D.int z114.1), (D.int z114.2)]))) (ev := fun (s6 : ((List Int))) => ([.im (D.tup [(D.int a0.1), (D.tup (List.map (fun (z111 : (Int × Int × (List Int) × Int × Int)) => (D.tup [(D.int z111.1), (D.int z111.2.1), (D.tup (List.map D.int z111.2.2.1)), (D.int z111.2.2.2.1), (D.int z111.2.2.2.2)])) a0.2))]), .im (D.tup (List.map D.int a1)), .im (D.int a2), .ow (D.lst (List.map D.int s6)), .an, .an] : List Bd)) (fun x5 s6 z7 h => ?_) _ ((List.replicate (Int.toNat a0.1) ([(0 : Int)] : List Int)).flatten) y10 hy10)) ?_
    · refine sdt (tg_tup rfl (tgs_cons (tg_name rfl) (tgs_cons (tg_name rfl) tgs_nil))) ?_
      obtain ⟨x8, hx8, h⟩ := Option.bind_eq_some_iff.mp h
      obtain ⟨j9, hj9, h⟩ := Option.bind_eq_some_iff.mp h
      have h := Option.some.inj h; subst h
      exact sd_endW [4, 5] (sd_setOwT (f := D.int) (xs := s6) (v := (x8 + (1 : Int))) hj9 rfl rfl (ev_opP (l := .l2) (ev_opP (l := .l2) (ev_im rfl) (ev_im rfl) (rv_div hx8)) ev_int rv_add) (ev_im rfl)) (by kernel_rfl) (by kernel_rfl)
    have h := Option.some.inj h; subst h
    exact (sd_ret (d := (D.lst (List.map D.int y10))) (ev_ow (.inr rfl) rfl))
/-- memory_needs_x -/
def m_memory_needs_x (a0 : (Int × (List (Int × Int × (List Int) × Int × Int)))) (a1 : (List Int)) (a2 : D) : Option ((List Int) ⊕ Er) := (m_check_windows a0 a1).bind fun r1 => (m_is_number_within_d a2 (1 : Int) (9999 : Int)).bind fun r2 => if (!r2) = true then (some (.inr (⟨"InvalidGap", []⟩ : Er))) else ((if (decide (0 ≤ a0.1 ∧ a0.1 ≤ 1000)) = true then some () else none).bind fun g3 => (m_memory_spans a0 a1).bind fun r4 => (List.foldlM (fun (s6 : ((List Int))) (x5 : (Int × Int)) => (dInt a2).bind fun x8 => (divO x5.2 x8).bind fun x9 => (ixN (List.length s6) x5.1).bind fun j10 => some (List.set s6 j10 (x9 + (1 : Int)))) ((List.replicate (Int.toNat a0.1) ([(0 : Int)] : List Int)).flatten) r4).bind fun y11 => some (.inl y11))
def R_memory_needs_x : List D → D ⊕ Er → Prop := fun ds r => ∃ (a0 : (Int × (List (Int × Int × (List Int) × Int × Int)))) (a1 : (List Int)) (a2 : D) (v : ((List Int) ⊕ Er)), m_memory_needs_x a0 a1 a2 = some v ∧ ds = [(D.tup [(D.int a0.1), (D.tup (List.map (fun (z125 : (Int × Int × (List Int) × Int × Int)) => (D.tup [(D.int z125.1), (D.int z125.2.1), (D.tup (List.map D.int z125.2.2.1)), (D.int z125.2.2.2.1), (D.int z125.2.2.2.2)])) a0.2))]), (D.tup (List.map D.int a1)), a2] ∧ r = xD (fun (z126 : (List Int)) => (D.lst (List.map D.int z126))) v
def nm_memory_needs_x : List Str := ["system", "windows", "gap", "needs", "service", "span"]
theorem sc_memory_needs_x : FnScope ["system", "windows", "gap", "needs", "service", "span"] ["system", "windows", "gap"] (defScope (top 36)) := ⟨rfl, rfl, rfl, by decide +kernel, rfl, by decide +kernel, by decide +kernel⟩
theorem ok_memory_needs_x (T : Tx K mg) : FnOk P w K mg base (L2.CX P w) 10 T.a_memory_needs T.d_memory_needs ["system", "windows", "gap"] (SpPX K [true, true, true] R_memory_needs_x) := by
  refine T.F_memory_needs.ok sc_memory_needs_x (SpPX.len rfl) (fun cdv A outer s H vs Q E hr h => ⟨_, (pss_cons (ps_expr (pe_call (ok_check_windows T) (hr.mono (by decide)) rfl T.g_check_windows T.F_check_windows.kp (T.F_check_windows.bindsN fun _ _ _ _ _ _ us hl => match us, hl with | [_, _], _ => rfl) .nil pass0 (pa_cons (pv 0) (pa_cons (pv 1) pa_nil)))) (pss_cons (ps_if (pt_not (pt_val (pe_call (ok_is_number_within_d T) (hr.mono (by decide)) rfl T.g_is_number_within T.F_is_number_within.kp (T.F_is_number_within.bindsN fun _ _ _ _ _ _ us hl => match us, hl with | [_, _, _], _ => rfl) .nil pass0 (pa_cons (pv 2) (pa_cons pe_int (pa_cons (pe_glob (v := .int 9999) rfl T.c_LONGEST_GAP ⟨_, rfl⟩) pa_nil)))))) (pss_one (ps_raise rfl (takes_of rfl rfl rfl rfl) (pmk_own PySem.F.excBase_ValueError T.e_InvalidGap.1 T.g_InvalidGap T.e_InvalidGap.2.1 (raises_own T.e_InvalidGap.2.2.1 T.e_InvalidGap.2.2.2) rfl))) pss_nil) (pss_cons (ps_set (i := 3) sc_memory_needs_x.nd rfl (Or.inl rfl) (pe_op op_rep (pe_lst (pa_cons pe_int pa_nil)) (pe_ix (ixTK (K := K) (by rfl)) (pv 0) pe_int (fun _ _ => rfl)))) (pss_cons (ps_for (passes_of rfl) rfl (pi_items (pe_lkR (pe_call (ok_memory_spans T) (hr.mono (by decide)) rfl T.g_memory_spans T.F_memory_spans.kp (T.F_memory_spans.bindsN fun _ _ _ _ _ _ us hl => match us, hl with | [_, _], _ => rfl) .nil pass0 (pa_cons (pv 0) (pa_cons (pv 1) pa_nil))))) (pgTupK (K := K) (n := 2) (by rfl) rfl (pgs_cons (pg_name (i := 4) sc_memory_needs_x.nd rfl (Or.inl rfl)) (pgs_cons (pg_name (i := 5) sc_memory_needs_x.nd rfl (Or.inl rfl)) pgs_nil)) (by rfl) (by rfl)) (pss_one (ps_asg (pe_op op_add (pe_op op_fdivW (pv 5) (pv 2)) pe_int) (pg_sub (pv 3) (pv 4) set_list)))) (pss_one (ps_ret (pv 3))))))), ?_⟩)
  refine run_PXo (n := 3) (m := 6) rfl h fun ds r hR => ?_
  obtain ⟨a0, a1, a2, v, h, rfl, rfl⟩ := hR
  rw [xo_xD]
  unfold m_memory_needs_x at h
  refine sd_env (env2 := ([.im (D.tup [(D.int a0.1), (D.tup (List.map (fun (z127 : (Int × Int × (List Int) × Int × Int)) => (D.tup [(D.int z127.1), (D.int z127.2.1), (D.tup (List.map D.int z127.2.2.1)), (D.int z127.2.2.2.1), (D.int z127.2.2.2.2)])) a0.2))]), .im (D.tup (List.map D.int a1)), .im a2, .an, .an, .an] : List Bd)) rfl ?_
  obtain ⟨r1, hr1, h⟩ := Option.bind_eq_some_iff.mp h
  refine sd_seq (sd_drop (d := D.non) (l := .l2) (ev_callK (l := .l2) (ds := [(D.tup [(D.int a0.1), (D.tup (List.map (fun (z117 : (Int × Int × (List Int) × Int × Int)) => (D.tup [(D.int z117.1), (D.int z117.2.1), (D.tup (List.map D.int z117.2.2.1)), (D.int z117.2.2.2.1), (D.int z117.2.2.2.2)])) a0.2))]), (D.tup (List.map D.int a1))]) (R := R_check_windows) (ek_A (ev_im rfl) (ek_A (ev_im rfl) ek_nil)) ⟨a0, a1, r1, hr1, rfl, rfl⟩)) ?_
  refine sd_env (env2 := ([.im (D.tup [(D.int a0.1), (D.tup (List.map (fun (z118 : (Int × Int × (List Int) × Int × Int)) => (D.tup [(D.int z118.1), (D.int z118.2.1), (D.tup (List.map D.int z118.2.2.1)), (D.int z118.2.2.2.1), (D.int z118.2.2.2.2)])) a0.2))]), .im (D.tup (List.map D.int a1)), .im a2, .an, .an, .an] : List Bd)) (by kernel_rfl) ?_
  obtain ⟨r2, hr2, h⟩ := Option.bind_eq_some_iff.mp h
  refine sd_ifs (eb_not (eb_B (l := .l2) (ev_callK (l := .l2) (ds := [a2, (D.int (1 : Int)), (D.int (9999 : Int))]) (R := R_is_number_within_d) (ek_A (ev_im rfl) (ek_A ev_int (ek_A ev_int ek_nil))) ⟨a2, (1 : Int), (9999 : Int), r2, hr2, rfl, rfl⟩))) (fun hb => ?_) (fun hb => ?_)
  · replace h := ifT hb h
    have h := Option.some.inj h; subst h
    exact sd_out (sd_erN (sd_raise0 rfl) (by kernel_rfl)) rfl
  · replace h := ifF hb h
    refine sd_seqNext ?_
    obtain ⟨g3, hg3, h⟩ := Option.bind_eq_some_iff.mp h
    refine sd_seq (sd_asgF (d := (D.lst (List.map D.int ((List.replicate (Int.toNat a0.1) ([(0 : Int)] : List Int)).flatten)))) rfl (ef_repLT (f := D.int) (xs := ([(0 : Int)] : List Int)) (ef_is (D.lst (List.map D.int ([(0 : Int)] : List Int))) (ef_lst (ea_consP ev_int ea_nil) (show 1 ≤ 1000 from by decide)) rfl) (ev_opP (l := .l2) (ev_im rfl) ev_int (rv_ixTn 0 rfl)) (of_decide_eq_true (gd hg3)) (Nat.le_of_ble_eq_true rfl))) ?_
    refine sd_env (env2 := ([.im (D.tup [(D.int a0.1), (D.tup (List.map (fun (z119 : (Int × Int × (List Int) × Int × Int)) => (D.tup [(D.int z119.1), (D.int z119.2.1), (D.tup (List.map D.int z119.2.2.1)), (D.int z119.2.2.2.1), (D.int z119.2.2.2.2)])) a0.2))]), .im (D.tup (List.map D.int a1)), .im a2, .ow (D.lst (List.map D.int ((List.replicate (Int.toNat a0.1) ([(0 : Int)] : List Int)).flatten))), .an, .an] : List Bd)) (by kernel_rfl) ?_
    obtain ⟨r4, hr4, h⟩ := Option.bind_eq_some_iff.mp h
    obtain ⟨y11, hy11, h⟩ := Option.bind_eq_some_iff.mp h
    refine sd_wp' [4, 5] (by kernel_rfl) (env2 := ([.im (D.tup [(D.int a0.1), (D.tup (List.map (fun (z122 : (Int × Int × (List Int) × Int × Int)) => (D.tup [(D.int z122.1), (D.int z122.2.1), (D.tup (List.map D.int z122.2.2.1)), (D.int z122.2.2.2.1), (D.int z122.2.2.2.2)])) a0.2))]), .im (D.tup (List.map D.int a1)), .im a2, .ow (D.lst (List.map D.int ((List.replicate (Int.toNat a0.1) ([(0 : Int)] : List Int)).flatten))), .an, .an] : List Bd)) (by kernel_rfl) ?_
    refine sd_seq (sd_for (l := .l2) (o := .nx ([.im (D.tup [(D.int a0.1), (D.tup (List.map (fun (z123 : (Int × Int × (List Int) × Int × Int)) => (D.tup [(D.int z123.1), (D.int z123.2.1), (D.tup (List.map D.int z123.2.2.1)), (D.int z123.2.2.2.1), (D.int z123.2.2.2.2)])) a0.2))]), .im (D.tup (List.map D.int a1)), .im a2, .ow (D.lst (List.map D.int y11)), .an, .an] : List Bd)) rfl (ei_itemsKt (f := D.int) rfl (ef_callA (ks := [true, true]) (ds := [(D.tup [(D.int a0.1), (D.tup (List.map (fun (z120 : (Int × Int × (List Int) × Int × Int)) => (D.tup [(D.int z120.1), (D.int z120.2.1), (D.tup (List.map D.int z120.2.2.1)), (D.int z120.2.2.2.1), (D.int z120.2.2.2.2)])) a0.2))]), (D.tup (List.map D.int a1))]) (R := R_memory_spans) rfl (ea_consP (ev_im rfl) (ea_consP (ev_im rfl) ea_nil)) ⟨a0, a1, r4, hr4, rfl, rfl⟩)) (loop_foldN (en := (fun (z124 : (Int × Int)) => (D.tup [(D.int z124.1), (D.int z124.2)]))) (ev := fun (s6 : ((List Int))) => ([.im (D.tup [(D.int a0.1), (D.tup (List.map (fun (z121 : (Int × Int × (List Int) × Int × Int)) => (D.tup [(D.int z121.1), (D.int z121.2.1), (D.tup (List.map D.int z121.2.2.1)), (D.int z121.2.2.2.1), (D.int z121.2.2.2.2)])) a0.2))]), .im (D.tup (List.map D.int a1)), .im a2, .ow (D.lst (List.map D.int s6)), .an, .an] : List Bd)) (fun x5 s6 z7 h => ?_) _ ((List.replicate (Int.toNat a0.1) ([(0 : Int)] : List Int)).flatten) y11 hy11)) ?_
    · refine sdt (tg_tup rfl (tgs_cons (tg_name rfl) (tgs_cons (tg_name rfl) tgs_nil))) ?_
      obtain ⟨x8, hx8, h⟩ := Option.bind_eq_some_iff.mp h
      obtain ⟨x9, hx9, h⟩ := Option.bind_eq_some_iff.mp h
      obtain ⟨j10, hj10, h⟩ := Option.bind_eq_some_iff.mp h
      have h := Option.some.inj h; subst h
      exact sd_endW [4, 5] (sd_setOwT (f := D.int) (xs := s6) (v := (x9 + (1 : Int))) hj10 rfl rfl (ev_opP (l := .l2) (ev_opP (l := .l2) (ev_im rfl) (ev_is (ev_im rfl) (dInt_eq hx8)) (rv_div hx9)) ev_int rv_add) (ev_im rfl)) (by kernel_rfl) (by kernel_rfl)
    have h := Option.some.inj h; subst h
    exact (sd_ret (d := (D.lst (List.map D.int y11))) (ev_ow (.inr rfl) rfl))
/-- _law_dice -/
def m__law_dice (a0 : (List Int)) : Option ((List Int) × Int × Int × Int) := (List.foldlM (fun (s2 : (Int)) (x1 : Int) => (mulO s2 (48271 : Int)).bind fun x4 => (mulO (x1 % (2147483647 : Int)) (69621 : Int)).bind fun x5 => some (((x4 + x5) + (11 : Int)) % (2147483647 : Int))) (0 : Int) a0).bind fun y6 => (mulO y6 (if (decide ((2 : Int) < (List.length a0 : Int))) = true then (1 : Int) else 0)).bind fun x7 => some (a0, (0 : Int), x7, (0 : Int))
def R__law_dice : List D → D → Prop := fun ds r => ∃ (a0 : (List Int)) (v : ((List Int) × Int × Int × Int)), m__law_dice a0 = some v ∧ ds = [(D.lst (List.map D.int a0))] ∧ r = (D.lst [(D.lst (List.map D.int v.1)), (D.int v.2.1), (D.int v.2.2.1), (D.int v.2.2.2)])
def nm__law_dice : List Str := ["_law_script", "_law_mixed", "_law_cell"]
theorem sc__law_dice : FnScope ["_law_script", "_law_mixed", "_law_cell"] ["_law_script"] (defScope (top 38)) := ⟨rfl, rfl, rfl, by decide +kernel, rfl, by decide +kernel, by decide +kernel⟩
theorem ok__law_dice (T : Tx K mg) : FnOk P w K mg base CX0 1 T.a__law_dice T.d__law_dice ["_law_script"] (SpF K [true] R__law_dice) := by
  refine T.F__law_dice.ok sc__law_dice (SpF.len rfl) (fun cdv A outer s H vs Q E hr h => ⟨_, PSs.nox (pss_cons (ps_set (i := 1) sc__law_dice.nd rfl (Or.inl rfl) pe_int) (pss_cons (ps_for PassesOwn.never rfl (piListK (K := K) (by rfl) (pv 0)) (pg_name (i := 2) sc__law_dice.nd rfl (Or.inl rfl)) (pss_one (ps_set (i := 1) sc__law_dice.nd rfl (Or.inl rfl) (pe_op op_mod (pe_op op_add (pe_op op_add (pe_op op_mulW (pv 1) pe_int) (pe_op op_mulW (pe_op op_mod (pe_callTy call_int1 rfl T.b_int (by decide +kernel) (pa_cons (pv 2) pa_nil)) pe_int) pe_int)) pe_int) pe_int)))) (pss_one (ps_ret (pe_lst (pa_cons (pv 0) (pa_cons pe_int (pa_cons (pe_op op_mulW (pv 1) (pe_callTy call_int1 rfl T.b_int (by decide +kernel) (pa_cons (pe_cmpR op_gt (pe_callB (lenK (K := K) (by rfl)) rfl T.b_len (by decide +kernel) (pa_cons (pv 0) pa_nil)) pe_int (nomark _)) pa_nil))) (pa_cons pe_int pa_nil))))))))), ?_⟩)
  refine run_F (n := 2) rfl h fun ds r hR => ?_
  obtain ⟨a0, v, h, rfl, rfl⟩ := hR
  unfold m__law_dice at h
  refine sd_env (env2 := ([.im (D.lst (List.map D.int a0)), .an, .an] : List Bd)) rfl ?_
  refine sd_seq (sd_asg (d := (D.int (0 : Int))) rfl ev_int) ?_
  refine sd_env (env2 := ([.im (D.lst (List.map D.int a0)), .im (D.int (0 : Int)), .an] : List Bd)) (by kernel_rfl) ?_
  obtain ⟨y6, hy6, h⟩ := Option.bind_eq_some_iff.mp h
  refine sd_wp' [2] (by kernel_rfl) (env2 := ([.im (D.lst (List.map D.int a0)), .im (D.int (0 : Int)), .an] : List Bd)) (by kernel_rfl) ?_
  refine sd_seq (sd_for (l := .l2) (o := .nx ([.im (D.lst (List.map D.int a0)), .im (D.int y6), .an] : List Bd)) rfl (ei_list rfl (ev_im rfl)) (loop_foldN (en := D.int) (ev := fun (s2 : (Int)) => ([.im (D.lst (List.map D.int a0)), .im (D.int s2), .an] : List Bd)) (fun x1 s2 z3 h => ?_) _ (0 : Int) y6 hy6)) ?_
  · refine sdt (tg_name rfl) ?_
    obtain ⟨x4, hx4, h⟩ := Option.bind_eq_some_iff.mp h
    obtain ⟨x5, hx5, h⟩ := Option.bind_eq_some_iff.mp h
    have h := Option.some.inj h; subst h
    exact sd_endW [2] (sd_asg (d := (D.int (((x4 + x5) + (11 : Int)) % (2147483647 : Int)))) rfl (ev_opP (l := .l2) (ev_opP (l := .l2) (ev_opP (l := .l2) (ev_opP (l := .l2) (ev_im rfl) ev_int (rv_mul hx4)) (ev_opP (l := .l2) (ev_opP (l := .l2) (ev_cb (l := .l2) (ea_consP (ev_im rfl) ea_nil) rc_int_i) ev_int (rv_I (C := fun _ j => 0 < j) (g := fun i j => V.int (i % j)) (e := D.int (x1 % (2147483647 : Int))) (by decide) fun _ => rfl)) ev_int (rv_mul hx5)) rv_add) ev_int rv_add) ev_int (rv_I (C := fun _ j => 0 < j) (g := fun i j => V.int (i % j)) (e := D.int (((x4 + x5) + (11 : Int)) % (2147483647 : Int))) (by decide) fun _ => rfl))) (by kernel_rfl) (by kernel_rfl)
  obtain ⟨x7, hx7, h⟩ := Option.bind_eq_some_iff.mp h
  have h := Option.some.inj h; subst h
  exact (sd_retF (d := (D.lst [(D.lst (List.map D.int a0)), (D.int (0 : Int)), (D.int x7), (D.int (0 : Int))])) (ef_lst (ea_consP (ev_im rfl) (ea_consP ev_int (ea_consP (ev_opP (l := .l2) (ev_im rfl) (ev_cb (l := .l2) (ea_consP (ev_opP (l := .l2) (ev_cb (l := .l2) (ea_consP (ev_im rfl) ea_nil) (rc_len_lm (f := D.int))) ev_int rv_gt) ea_nil) rc_int_b) (rv_mul hx7)) (ea_consP ev_int ea_nil)))) (show 4 ≤ 1000 from by decide)))
/-- _law_next -/
def m__law_next (a0 : ((List Int) × Int × Int × Int)) (a1 : Int) : Option (Int × ((List Int) × Int × Int × Int)) := if (decide ((0 : Int) < a0.2.2.2)) = true then ((modO a0.2.2.2 a1).bind fun x1 => (divO a0.2.2.2 a1).bind fun x2 => some (x1, (a0.1, a0.2.1, a0.2.2.1, x2))) else (if (decide ((a0.2.1 + (1 : Int)) ≤ (List.length a0.1 : Int))) = true then ((atI a0.1 ((a0.2.1 + (1 : Int)) - (1 : Int))).bind fun x3 => (if (decide (((10 : Int) ^ (Int.toNat 18)) ≤ x3)) = true then (divO x3 a1).bind fun x4 => some x4 else some (0 : Int)).bind fun y5 => (modO x3 a1).bind fun x6 => some (x6, (a0.1, (a0.2.1 + (1 : Int)), a0.2.2.1, y5))) else ((mulO a0.2.2.1 (48271 : Int)).bind fun x7 => (divO (x7 % (2147483647 : Int)) (7 : Int)).bind fun x8 => (modO x8 a1).bind fun x9 => some (x9, (a0.1, (a0.2.1 + (1 : Int)), (x7 % (2147483647 : Int)), a0.2.2.2))))
def R__law_next : D → List D → D → D → Prop := fun d ds r d' => ∃ (a0 : ((List Int) × Int × Int × Int)) (a1 : Int) (v : (Int × ((List Int) × Int × Int × Int))), m__law_next a0 a1 = some v ∧ d = (D.lst [(D.lst (List.map D.int a0.1)), (D.int a0.2.1), (D.int a0.2.2.1), (D.int a0.2.2.2)]) ∧ ds = [(D.int a1)] ∧ r = (D.int v.1) ∧ d' = (D.lst [(D.lst (List.map D.int v.2.1)), (D.int v.2.2.1), (D.int v.2.2.2.1), (D.int v.2.2.2.2)])
def nm__law_next : List Str := ["_law_dice_here", "_law_many", "_law_found", "_law_cell"]
theorem sc__law_next : FnScope ["_law_dice_here", "_law_many", "_law_found", "_law_cell"] ["_law_dice_here", "_law_many"] (defScope (top 39)) := ⟨rfl, rfl, rfl, by decide +kernel, rfl, by decide +kernel, by decide +kernel⟩
theorem ok__law_next (T : Tx K mg) : FnOk P w K mg base CX0 1 T.a__law_next T.d__law_next ["_law_dice_here", "_law_many"] (SpM K [true] R__law_next) := by
  refine T.F__law_next.ok sc__law_next (SpM.len rfl) (fun cdv A outer s H vs Q E hr h => ⟨_, PSs.nox (pss_cons (ps_if (pt_cmpR op_gt (pe_ix (ixLK (K := K) (by rfl)) (pv 0) pe_int (fun _ _ => rfl)) pe_int (nomark _)) (pss_cons (ps_set (i := 2) sc__law_next.nd rfl (Or.inl rfl) (pe_op op_mod (pe_callTy call_int1 rfl T.b_int (by decide +kernel) (pa_cons (pe_ix (ixLK (K := K) (by rfl)) (pv 0) pe_int (fun _ _ => rfl)) pa_nil)) (pv 1))) (pss_cons (ps_asg (pe_op op_fdivW (pe_ix (ixLK (K := K) (by rfl)) (pv 0) pe_int (fun _ _ => rfl)) (pv 1)) (pg_sub (pv 0) pe_int set_list)) (pss_one (ps_ret (pv 2))))) pss_nil) (pss_cons (ps_asg (pe_op op_add (pe_ix (ixLK (K := K) (by rfl)) (pv 0) pe_int (fun _ _ => rfl)) pe_int) (pg_sub (pv 0) pe_int set_list)) (pss_cons (ps_if (pt_cmpR op_le (pe_ix (ixLK (K := K) (by rfl)) (pv 0) pe_int (fun _ _ => rfl)) (pe_callB (lenK (K := K) (by rfl)) rfl T.b_len (by decide +kernel) (pa_cons (pe_ix (ixLK (K := K) (by rfl)) (pv 0) pe_int (fun _ _ => rfl)) pa_nil)) (nomark _)) (pss_cons (ps_set (i := 3) sc__law_next.nd rfl (Or.inl rfl) (pe_ix (ixLK (K := K) (by rfl)) (pe_ix (ixLK (K := K) (by rfl)) (pv 0) pe_int (fun _ _ => rfl)) (pe_op op_sub (pe_ix (ixLK (K := K) (by rfl)) (pv 0) pe_int (fun _ _ => rfl)) pe_int) (fun _ _ => rfl))) (pss_cons (ps_asg (pe_ifExp (pt_cmpR op_ge (pv 3) (pe_op op_pow pe_int pe_int) (nomark _)) (pe_op op_fdivW (pv 3) (pv 1)) pe_int) (pg_sub (pv 0) pe_int set_list)) (pss_one (ps_ret (pe_op op_mod (pe_callTy call_int1 rfl T.b_int (by decide +kernel) (pa_cons (pv 3) pa_nil)) (pv 1)))))) pss_nil) (pss_cons (ps_asg (pe_op op_mod (pe_callTy call_int1 rfl T.b_int (by decide +kernel) (pa_cons (pe_op op_mulW (pe_ix (ixLK (K := K) (by rfl)) (pv 0) pe_int (fun _ _ => rfl)) pe_int) pa_nil)) pe_int) (pg_sub (pv 0) pe_int set_list)) (pss_one (ps_ret (pe_op op_mod (pe_op op_fdivW (pe_ix (ixLK (K := K) (by rfl)) (pv 0) pe_int (fun _ _ => rfl)) pe_int) (pv 1)))))))), ?_⟩)
  refine run_M (n := 2) rfl h fun d ds r d' hR => ?_
  obtain ⟨a0, a1, v, h, rfl, rfl, rfl, rfl⟩ := hR
  unfold m__law_next at h
  refine sd_env (env2 := ([.mu (D.lst [(D.lst (List.map D.int a0.1)), (D.int a0.2.1), (D.int a0.2.2.1), (D.int a0.2.2.2)]), .im (D.int a1), .an, .an] : List Bd)) rfl ?_
  refine sd_ifs (eb_test (l := .l2) (ev_opP (l := .l2) (ev_ixMun 3 rfl rfl) ev_int rv_gt)) (fun hb => ?_) (fun hb => ?_)
  · replace h := ifT hb h
    refine sd_assoc ?_
    obtain ⟨x1, hx1, h⟩ := Option.bind_eq_some_iff.mp h
    refine sd_seq (sd_asg (d := (D.int x1)) rfl (ev_opP (l := .l2) (ev_cb (l := .l2) (ea_consP (ev_ixMun 3 rfl rfl) ea_nil) rc_int_i) (ev_im rfl) (rv_mod hx1))) ?_
    refine sd_env (env2 := ([.mu (D.lst [(D.lst (List.map D.int a0.1)), (D.int a0.2.1), (D.int a0.2.2.1), (D.int a0.2.2.2)]), .im (D.int a1), .im (D.int x1), .an] : List Bd)) (by kernel_rfl) ?_
    refine sd_assoc ?_
    obtain ⟨x2, hx2, h⟩ := Option.bind_eq_some_iff.mp h
    refine sd_seq (sd_setMu (l := .l2) (d := (D.int x2)) rfl rfl (ev_opP (l := .l2) (ev_ixMun 3 rfl rfl) (ev_im rfl) (rv_div hx2)) ev_int rfl) ?_
    refine sd_env (env2 := ([.mu (D.lst [(D.lst (List.map D.int a0.1)), (D.int a0.2.1), (D.int a0.2.2.1), (D.int x2)]), .im (D.int a1), .im (D.int x1), .an] : List Bd)) (by kernel_rfl) ?_
    have h := Option.some.inj h; subst h
    exact sd_out (sd_retM (d := (D.int x1)) (ev_im rfl) rfl) rfl
  · replace h := ifF hb h
    refine sd_seqNext ?_
    refine sd_seq (sd_setMu (l := .l2) (d := (D.int (a0.2.1 + (1 : Int)))) rfl rfl (ev_opP (l := .l2) (ev_ixMun 1 rfl rfl) ev_int rv_add) ev_int rfl) ?_
    refine sd_env (env2 := ([.mu (D.lst [(D.lst (List.map D.int a0.1)), (D.int (a0.2.1 + (1 : Int))), (D.int a0.2.2.1), (D.int a0.2.2.2)]), .im (D.int a1), .an, .an] : List Bd)) (by kernel_rfl) ?_
    refine sd_ifs (eb_test (l := .l2) (ev_opP (l := .l2) (ev_ixMun 1 rfl rfl) (ev_cb (l := .l2) (ea_consP (ev_ixMun 0 rfl rfl) ea_nil) (rc_len_lm (f := D.int))) rv_le)) (fun hb => ?_) (fun hb => ?_)
    · replace h := ifT hb h
      refine sd_assoc ?_
      obtain ⟨x3, hx3, h⟩ := Option.bind_eq_some_iff.mp h
      refine sd_seq (sd_asg (d := (D.int x3)) rfl (ev_opP (l := .l2) (ev_ixMun 0 rfl rfl) (ev_opP (l := .l2) (ev_ixMun 1 rfl rfl) ev_int rv_sub) (rv_ixLm (f := D.int) (xs := a0.1) (v := x3) hx3))) ?_
      refine sd_env (env2 := ([.mu (D.lst [(D.lst (List.map D.int a0.1)), (D.int (a0.2.1 + (1 : Int))), (D.int a0.2.2.1), (D.int a0.2.2.2)]), .im (D.int a1), .an, .im (D.int x3)] : List Bd)) (by kernel_rfl) ?_
      refine sd_assoc ?_
      obtain ⟨y5, hy5, h⟩ := Option.bind_eq_some_iff.mp h
      refine sd_seq (sd_setMu (l := .l2) (d := (D.int y5)) rfl rfl (ev_if (eb_test (l := .l2) (ev_opP (l := .l2) (ev_im rfl) (ev_opP (l := .l2) ev_int ev_int (rv_I (C := CPow) (g := fun i j => V.int (i ^ j.toNat)) (e := D.int ((10 : Int) ^ (Int.toNat 18))) ⟨by decide, by decide, by decide⟩ fun _ => rfl)) rv_ge)) (fun hb => by have wy5 := ifT hb hy5; obtain ⟨x4, hx4, wy5⟩ := Option.bind_eq_some_iff.mp wy5; have wy5 := Option.some.inj wy5; subst wy5; exact (ev_opP (l := .l2) (ev_im rfl) (ev_im rfl) (rv_div hx4))) (fun hb => by have wy5 := ifF hb hy5; have wy5 := Option.some.inj wy5; subst wy5; exact ev_int)) ev_int rfl) ?_
      refine sd_env (env2 := ([.mu (D.lst [(D.lst (List.map D.int a0.1)), (D.int (a0.2.1 + (1 : Int))), (D.int a0.2.2.1), (D.int y5)]), .im (D.int a1), .an, .im (D.int x3)] : List Bd)) (by kernel_rfl) ?_
      obtain ⟨x6, hx6, h⟩ := Option.bind_eq_some_iff.mp h
      have h := Option.some.inj h; subst h
      exact sd_out (sd_retM (d := (D.int x6)) (ev_opP (l := .l2) (ev_cb (l := .l2) (ea_consP (ev_im rfl) ea_nil) rc_int_i) (ev_im rfl) (rv_mod hx6)) rfl) rfl
    · replace h := ifF hb h
      refine sd_seqNext ?_
      obtain ⟨x7, hx7, h⟩ := Option.bind_eq_some_iff.mp h
      refine sd_seq (sd_setMu (l := .l2) (d := (D.int (x7 % (2147483647 : Int)))) rfl rfl (ev_opP (l := .l2) (ev_cb (l := .l2) (ea_consP (ev_opP (l := .l2) (ev_ixMun 2 rfl rfl) ev_int (rv_mul hx7)) ea_nil) rc_int_i) ev_int (rv_I (C := fun _ j => 0 < j) (g := fun i j => V.int (i % j)) (e := D.int (x7 % (2147483647 : Int))) (by decide) fun _ => rfl)) ev_int rfl) ?_
      refine sd_env (env2 := ([.mu (D.lst [(D.lst (List.map D.int a0.1)), (D.int (a0.2.1 + (1 : Int))), (D.int (x7 % (2147483647 : Int))), (D.int a0.2.2.2)]), .im (D.int a1), .an, .an] : List Bd)) (by kernel_rfl) ?_
      obtain ⟨x8, hx8, h⟩ := Option.bind_eq_some_iff.mp h
      obtain ⟨x9, hx9, h⟩ := Option.bind_eq_some_iff.mp h
      have h := Option.some.inj h; subst h
      exact (sd_retM (d := (D.int x9)) (ev_opP (l := .l2) (ev_opP (l := .l2) (ev_ixMun 2 rfl rfl) ev_int (rv_div hx8)) (ev_im rfl) (rv_mod hx9)) rfl)
/-- _law_pick_d -/
def m__law_pick_d (a0 : ((List Int) × Int × Int × Int)) (a1 : (List D)) : Option (D × ((List Int) × Int × Int × Int)) := (m__law_next a0 (List.length a1 : Int)).bind fun r1 => (atI a1 r1.1).bind fun x2 => some (x2, r1.2)
def R__law_pick_d : D → List D → D → D → Prop := fun d ds r d' => ∃ (a0 : ((List Int) × Int × Int × Int)) (a1 : (List D)) (v : (D × ((List Int) × Int × Int × Int))), m__law_pick_d a0 a1 = some v ∧ d = (D.lst [(D.lst (List.map D.int a0.1)), (D.int a0.2.1), (D.int a0.2.2.1), (D.int a0.2.2.2)]) ∧ ds = [(D.lst (List.map (fun (z : D) => z) a1))] ∧ r = v.1 ∧ d' = (D.lst [(D.lst (List.map D.int v.2.1)), (D.int v.2.2.1), (D.int v.2.2.2.1), (D.int v.2.2.2.2)])
def nm__law_pick_d : List Str := ["_law_d", "_law_some"]
theorem sc__law_pick_d : FnScope ["_law_d", "_law_some"] ["_law_d", "_law_some"] (defScope (top 40)) := ⟨rfl, rfl, rfl, by decide +kernel, rfl, by decide +kernel, by decide +kernel⟩
theorem ok__law_pick_d (T : Tx K mg) : FnOk P w K mg base CX0 2 T.a__law_pick T.d__law_pick ["_law_d", "_law_some"] (SpM K [true] R__law_pick_d) := by
  refine T.F__law_pick.ok sc__law_pick_d (SpM.len rfl) (fun cdv A outer s H vs Q E hr h => ⟨_, PSs.nox (pss_one (ps_ret (pe_ix (ixLK (K := K) (by rfl)) (pv 1) (pe_call (ok__law_next T) (hr.mono (by decide)) rfl T.g__law_next T.F__law_next.kp (T.F__law_next.bindsN fun _ _ _ _ _ _ us hl => match us, hl with | [_, _], _ => rfl) .nil pass0 (pa_cons (pv 0) (pa_cons (pe_callB (lenK (K := K) (by rfl)) rfl T.b_len (by decide +kernel) (pa_cons (pv 1) pa_nil)) pa_nil))) (fun _ _ => rfl)))), ?_⟩)
  refine run_M (n := 0) rfl h fun d ds r d' hR => ?_
  obtain ⟨a0, a1, v, h, rfl, rfl, rfl, rfl⟩ := hR
  unfold m__law_pick_d at h
  refine sd_env (env2 := ([.mu (D.lst [(D.lst (List.map D.int a0.1)), (D.int a0.2.1), (D.int a0.2.2.1), (D.int a0.2.2.2)]), .im (D.lst (List.map (fun (z : D) => z) a1))] : List Bd)) rfl ?_
  obtain ⟨r1, hr1, h⟩ := Option.bind_eq_some_iff.mp h
  obtain ⟨x2, hx2, h⟩ := Option.bind_eq_some_iff.mp h
  have h := Option.some.inj h; subst h
  exact (sd_retM (d := x2) (ev_up (ev_opF (l := .l2) rfl (ev_im rfl) (ev_callMm (i := 0) (ks := [true]) (ds := [(D.int (List.length a1 : Int))]) (R := R__law_next) rfl rfl ⟨_, rfl⟩ (ea_consP (ev_cb (l := .l2) (ea_consP (ev_im rfl) ea_nil) (rc_len_lm (f := (fun (z : D) => z)))) ea_nil) rfl ⟨a0, (List.length a1 : Int), r1, hr1, rfl, rfl, rfl, rfl⟩) (rv_ixLm (f := (fun (z : D) => z)) (xs := a1) (v := x2) hx2))) rfl)
/-- _law_call -/
def m__law_call (a0 : ((List Int) × Int × Int × Int)) (a1 : Int) (a2 : Int) : Option ((Int × Int × (List Int) × Int × Int) × ((List Int) × Int × Int × Int)) := (m__law_next a0 (a1 - (1 : Int))).bind fun r1 => (m__law_next r1.2 ((a1 - (1 : Int)) - r1.1)).bind fun r2 => (m__law_next r2.2 (4 : Int)).bind fun r3 => (rngO 0 ((1 : Int) + r3.1)).bind fun x4 => (compS (fun (s6 : ((List Int) × Int × Int × Int)) (x5 : Int) => (m__law_next s6 (a2 + (1 : Int))).bind fun r7 => some (some r7.1, r7.2)) x4 r3.2).bind fun ys8 => (ssetO ys8.1).bind fun x9 => (m__law_next ys8.2 (a2 + (1 : Int))).bind fun r10 => (m__law_next r10.2 ((a2 + (1 : Int)) - r10.1)).bind fun r11 => some ((r1.1, ((r1.1 + (1 : Int)) + r2.1), x9, r10.1, (r10.1 + r11.1)), r11.2)
def R__law_call : D → List D → D → D → Prop := fun d ds r d' => ∃ (a0 : ((List Int) × Int × Int × Int)) (a1 : Int) (a2 : Int) (v : ((Int × Int × (List Int) × Int × Int) × ((List Int) × Int × Int × Int))), m__law_call a0 a1 a2 = some v ∧ d = (D.lst [(D.lst (List.map D.int a0.1)), (D.int a0.2.1), (D.int a0.2.2.1), (D.int a0.2.2.2)]) ∧ ds = [(D.int a1), (D.int a2)] ∧ r = (D.tup [(D.int v.1.1), (D.int v.1.2.1), (D.tup (List.map D.int v.1.2.2.1)), (D.int v.1.2.2.2.1), (D.int v.1.2.2.2.2)]) ∧ d' = (D.lst [(D.lst (List.map D.int v.2.1)), (D.int v.2.2.1), (D.int v.2.2.2.1), (D.int v.2.2.2.2)])
def nm__law_call : List Str := ["_law_d", "_law_count", "_law_most", "_law_caller", "_law_target", "_law_offsets", "_law_least", "_law_k"]
theorem sc__law_call : FnScope ["_law_d", "_law_count", "_law_most", "_law_caller", "_law_target", "_law_offsets", "_law_least", "_law_k"] ["_law_d", "_law_count", "_law_most"] (defScope (top 42)) := ⟨rfl, rfl, rfl, by decide +kernel, rfl, by decide +kernel, by decide +kernel⟩
theorem ok__law_call (T : Tx K mg) : FnOk P w K mg base CX0 2 T.a__law_call T.d__law_call ["_law_d", "_law_count", "_law_most"] (SpM K [true, true] R__law_call) := by
  refine T.F__law_call.ok sc__law_call (SpM.len rfl) (fun cdv A outer s H vs Q E hr h => ⟨_, PSs.nox (pss_cons (ps_set (i := 3) sc__law_call.nd rfl (Or.inl rfl) (pe_call (ok__law_next T) (hr.mono (by decide)) rfl T.g__law_next T.F__law_next.kp (T.F__law_next.bindsN fun _ _ _ _ _ _ us hl => match us, hl with | [_, _], _ => rfl) .nil pass0 (pa_cons (pv 0) (pa_cons (pe_op op_sub (pv 1) pe_int) pa_nil)))) (pss_cons (ps_set (i := 4) sc__law_call.nd rfl (Or.inl rfl) (pe_op op_add (pe_op op_add (pv 3) pe_int) (pe_call (ok__law_next T) (hr.mono (by decide)) rfl T.g__law_next T.F__law_next.kp (T.F__law_next.bindsN fun _ _ _ _ _ _ us hl => match us, hl with | [_, _], _ => rfl) .nil pass0 (pa_cons (pv 0) (pa_cons (pe_op op_sub (pe_op op_sub (pv 1) pe_int) (pv 3)) pa_nil))))) (pss_cons (ps_set (i := 5) sc__law_call.nd rfl (Or.inl rfl) (pe_callB (cr_sortedSet rfl) rfl T.b_sorted (by decide +kernel) (pa_cons (pe_callTy (cr_setLI rfl) rfl T.b_set (by decide +kernel) (pa_cons (pe_lc (own := [("_law_k", 7)]) rfl sc__law_call.nd (pi_range1 rfl T.b_range (pa_cons (pe_op op_add pe_int (pe_call (ok__law_next T) (hr.mono (by decide)) rfl T.g__law_next T.F__law_next.kp (T.F__law_next.bindsN fun _ _ _ _ _ _ us hl => match us, hl with | [_, _], _ => rfl) .nil pass0 (pa_cons (pv 0) (pa_cons pe_int pa_nil)))) pa_nil)) (blkOk_by (own := [("_law_k", 7)]) (N := nm__law_call) (sc := defScope (top 42)) (by decide +kernel)) (fun _ _ _ _ _ => (pg_name (i := 7) sc__law_call.nd rfl (Or.inl rfl))) (fun _ _ _ _ _ => pts_nil) (fun _ _ _ _ _ => (pe_call (ok__law_next T) (hr.mono (by decide)) rfl T.g__law_next T.F__law_next.kp (T.F__law_next.bindsN fun _ _ _ _ _ _ us hl => match us, hl with | [_, _], _ => rfl) .nil pass0 (pa_cons (pv 0) (pa_cons (pe_op op_add (pv 2) pe_int) pa_nil))))) pa_nil)) pa_nil))) (pss_cons (ps_set (i := 6) sc__law_call.nd rfl (Or.inl rfl) (pe_call (ok__law_next T) (hr.mono (by decide)) rfl T.g__law_next T.F__law_next.kp (T.F__law_next.bindsN fun _ _ _ _ _ _ us hl => match us, hl with | [_, _], _ => rfl) .nil pass0 (pa_cons (pv 0) (pa_cons (pe_op op_add (pv 2) pe_int) pa_nil)))) (pss_one (ps_ret (pe_tup (pa_cons (pv 3) (pa_cons (pv 4) (pa_cons (pe_callTy (tupK (K := K) (by rfl)) rfl T.b_tuple (by decide +kernel) (pa_cons (pv 5) pa_nil)) (pa_cons (pv 6) (pa_cons (pe_op op_add (pv 6) (pe_call (ok__law_next T) (hr.mono (by decide)) rfl T.g__law_next T.F__law_next.kp (T.F__law_next.bindsN fun _ _ _ _ _ _ us hl => match us, hl with | [_, _], _ => rfl) .nil pass0 (pa_cons (pv 0) (pa_cons (pe_op op_sub (pe_op op_add (pv 2) pe_int) (pv 6)) pa_nil)))) pa_nil)))))))))))), ?_⟩)
  refine run_M (n := 5) rfl h fun d ds r d' hR => ?_
  obtain ⟨a0, a1, a2, v, h, rfl, rfl, rfl, rfl⟩ := hR
  unfold m__law_call at h
  refine sd_env (env2 := ([.mu (D.lst [(D.lst (List.map D.int a0.1)), (D.int a0.2.1), (D.int a0.2.2.1), (D.int a0.2.2.2)]), .im (D.int a1), .im (D.int a2), .an, .an, .an, .an, .an] : List Bd)) rfl ?_
  obtain ⟨r1, hr1, h⟩ := Option.bind_eq_some_iff.mp h
  refine sd_seq (sd_asg (d := (D.int r1.1)) rfl (ev_callMm (i := 0) (ks := [true]) (ds := [(D.int (a1 - (1 : Int)))]) (R := R__law_next) rfl rfl ⟨_, rfl⟩ (ea_consP (ev_opP (l := .l2) (ev_im rfl) ev_int rv_sub) ea_nil) rfl ⟨a0, (a1 - (1 : Int)), r1, hr1, rfl, rfl, rfl, rfl⟩)) ?_
  refine sd_env (env2 := ([.mu (D.lst [(D.lst (List.map D.int r1.2.1)), (D.int r1.2.2.1), (D.int r1.2.2.2.1), (D.int r1.2.2.2.2)]), .im (D.int a1), .im (D.int a2), .im (D.int r1.1), .an, .an, .an, .an] : List Bd)) (by kernel_rfl) ?_
  obtain ⟨r2, hr2, h⟩ := Option.bind_eq_some_iff.mp h
  refine sd_seq (sd_asg (d := (D.int ((r1.1 + (1 : Int)) + r2.1))) rfl (ev_opF (l := .l2) rfl (ev_opP (l := .l2) (ev_im rfl) ev_int rv_add) (ev_callMm (i := 0) (ks := [true]) (ds := [(D.int ((a1 - (1 : Int)) - r1.1))]) (R := R__law_next) rfl rfl ⟨_, rfl⟩ (ea_consP (ev_opP (l := .l2) (ev_opP (l := .l2) (ev_im rfl) ev_int rv_sub) (ev_im rfl) rv_sub) ea_nil) rfl ⟨r1.2, ((a1 - (1 : Int)) - r1.1), r2, hr2, rfl, rfl, rfl, rfl⟩) rv_add)) ?_
  refine sd_env (env2 := ([.mu (D.lst [(D.lst (List.map D.int r2.2.1)), (D.int r2.2.2.1), (D.int r2.2.2.2.1), (D.int r2.2.2.2.2)]), .im (D.int a1), .im (D.int a2), .im (D.int r1.1), .im (D.int ((r1.1 + (1 : Int)) + r2.1)), .an, .an, .an] : List Bd)) (by kernel_rfl) ?_
  obtain ⟨r3, hr3, h⟩ := Option.bind_eq_some_iff.mp h
  obtain ⟨x4, hx4, h⟩ := Option.bind_eq_some_iff.mp h
  obtain ⟨ys8, hys8, h⟩ := Option.bind_eq_some_iff.mp h
  obtain ⟨x9, hx9, h⟩ := Option.bind_eq_some_iff.mp h
  refine sd_seq (sd_asg (d := (D.lst (List.map D.int x9))) rfl (ef_ev (ef_ssetK (p := false) hx9 (ea_consF rfl (ef_ev (ef_lcS2 (p := false) (l := .l2) (s := r3.2) (ev := fun (s6 : ((List Int) × Int × Int × Int)) => ([.mu (D.lst [(D.lst (List.map D.int s6.1)), (D.int s6.2.1), (D.int s6.2.2.1), (D.int s6.2.2.2)]), .im (D.int a1), .im (D.int a2), .im (D.int r1.1), .im (D.int ((r1.1 + (1 : Int)) + r2.1)), .an, .an, .an] : List Bd)) (en := D.int) (eb := D.int) hys8 rfl (ei_rng1T (l' := .l2) hx4 (ea_consF rfl (ev_opF (l := .l2) rfl ev_int (ev_callMm (i := 0) (ks := [true]) (ds := [(D.int (4 : Int))]) (R := R__law_next) rfl rfl ⟨_, rfl⟩ (ea_consP ev_int ea_nil) rfl ⟨r2.2, (4 : Int), r3, hr3, rfl, rfl, rfl, rfl⟩) rv_add) ea_nil)) (tw_name (i := 7) (vs := [7]) (by decide)) (anC (v := 7) rfl anN) (fun x5 s6 oo ss wys8 => by obtain ⟨r7, hr7, wys8⟩ := Option.bind_eq_some_iff.mp wys8; obtain ⟨e1, e2⟩ := Prod.mk.inj (Option.some.inj wys8); subst e1; subst e2; exact turn_yes (env2 := ([.mu (D.lst [(D.lst (List.map D.int r7.2.1)), (D.int r7.2.2.1), (D.int r7.2.2.2.1), (D.int r7.2.2.2.2)]), .im (D.int a1), .im (D.int a2), .im (D.int r1.1), .im (D.int ((r1.1 + (1 : Int)) + r2.1)), .an, .an, .im (D.int x5)] : List Bd)) (tg_name rfl) (eb_toF eb_yes) (ev_callMm (i := 0) (ks := [true]) (ds := [(D.int (a2 + (1 : Int)))]) (R := R__law_next) rfl rfl ⟨_, rfl⟩ (ea_consP (ev_opP (l := .l2) (ev_im rfl) ev_int rv_add) ea_nil) rfl ⟨s6, (a2 + (1 : Int)), r7, hr7, rfl, rfl, rfl, rfl⟩) rfl rfl rfl (anC (v := 7) rfl anN)))) ea_nil) (by rfl) (by rfl)))) ?_
  refine sd_env (env2 := ([.mu (D.lst [(D.lst (List.map D.int ys8.2.1)), (D.int ys8.2.2.1), (D.int ys8.2.2.2.1), (D.int ys8.2.2.2.2)]), .im (D.int a1), .im (D.int a2), .im (D.int r1.1), .im (D.int ((r1.1 + (1 : Int)) + r2.1)), .im (D.lst (List.map D.int x9)), .an, .an] : List Bd)) (by kernel_rfl) ?_
  obtain ⟨r10, hr10, h⟩ := Option.bind_eq_some_iff.mp h
  refine sd_seq (sd_asg (d := (D.int r10.1)) rfl (ev_callMm (i := 0) (ks := [true]) (ds := [(D.int (a2 + (1 : Int)))]) (R := R__law_next) rfl rfl ⟨_, rfl⟩ (ea_consP (ev_opP (l := .l2) (ev_im rfl) ev_int rv_add) ea_nil) rfl ⟨ys8.2, (a2 + (1 : Int)), r10, hr10, rfl, rfl, rfl, rfl⟩)) ?_
  refine sd_env (env2 := ([.mu (D.lst [(D.lst (List.map D.int r10.2.1)), (D.int r10.2.2.1), (D.int r10.2.2.2.1), (D.int r10.2.2.2.2)]), .im (D.int a1), .im (D.int a2), .im (D.int r1.1), .im (D.int ((r1.1 + (1 : Int)) + r2.1)), .im (D.lst (List.map D.int x9)), .im (D.int r10.1), .an] : List Bd)) (by kernel_rfl) ?_
  obtain ⟨r11, hr11, h⟩ := Option.bind_eq_some_iff.mp h
  have h := Option.some.inj h; subst h
  exact (sd_retM (d := (D.tup [(D.int r1.1), (D.int ((r1.1 + (1 : Int)) + r2.1)), (D.tup (List.map D.int x9)), (D.int r10.1), (D.int (r10.1 + r11.1))])) (ev_up (ev_tup (ea_consF rfl (ev_im rfl) (ea_consF rfl (ev_im rfl) (ea_consF rfl (ev_tuple_of (ea_consP (ev_im rfl) ea_nil)) (ea_consF rfl (ev_im rfl) (ea_consF rfl (ev_opF (l := .l2) rfl (ev_im rfl) (ev_callMm (i := 0) (ks := [true]) (ds := [(D.int ((a2 + (1 : Int)) - r10.1))]) (R := R__law_next) rfl rfl ⟨_, rfl⟩ (ea_consP (ev_opP (l := .l2) (ev_opP (l := .l2) (ev_im rfl) ev_int rv_add) (ev_im rfl) rv_sub) ea_nil) rfl ⟨r10.2, ((a2 + (1 : Int)) - r10.1), r11, hr11, rfl, rfl, rfl, rfl⟩) rv_add) ea_nil))))) (show 5 ≤ 1000 from by decide))) rfl)
/-- _law_system -/
def m__law_system (a0 : ((List Int) × Int × Int × Int)) (a1 : Int) (a2 : Int) (a3 : Int) : Option ((Int × (List (Int × Int × (List Int) × Int × Int))) × ((List Int) × Int × Int × Int)) := (m__law_next a0 a1).bind fun r1 => (if (decide ((1 : Int) < ((1 : Int) + r1.1))) = true then (m__law_next r1.2 (a2 + (1 : Int))).bind fun r2 => some (r2.1, r2.2) else some ((0 : Int), r1.2)).bind fun y3 => (rngO 0 y3.1).bind fun x4 => (List.foldlM (fun (s6 : ((List (Int × Int × (List Int) × Int × Int)) × ((List Int) × Int × Int × Int))) (x5 : Int) => (m__law_call s6.2 ((1 : Int) + r1.1) a3).bind fun r8 => (okL (List.length s6.1)).bind fun x9 => some ((s6.1 ++ [r8.1]), r8.2)) (([] : List (Int × Int × (List Int) × Int × Int)), y3.2) x4).bind fun y10 => some ((((1 : Int) + r1.1), y10.1), y10.2)
def R__law_system : D → List D → D → D → Prop := fun d ds r d' => ∃ (a0 : ((List Int) × Int × Int × Int)) (a1 : Int) (a2 : Int) (a3 : Int) (v : ((Int × (List (Int × Int × (List Int) × Int × Int))) × ((List Int) × Int × Int × Int))), m__law_system a0 a1 a2 a3 = some v ∧ d = (D.lst [(D.lst (List.map D.int a0.1)), (D.int a0.2.1), (D.int a0.2.2.1), (D.int a0.2.2.2)]) ∧ ds = [(D.int a1), (D.int a2), (D.int a3)] ∧ r = (D.tup [(D.int v.1.1), (D.tup (List.map (fun (z136 : (Int × Int × (List Int) × Int × Int)) => (D.tup [(D.int z136.1), (D.int z136.2.1), (D.tup (List.map D.int z136.2.2.1)), (D.int z136.2.2.2.1), (D.int z136.2.2.2.2)])) v.1.2))]) ∧ d' = (D.lst [(D.lst (List.map D.int v.2.1)), (D.int v.2.2.1), (D.int v.2.2.2.1), (D.int v.2.2.2.2)])
def nm__law_system : List Str := ["_law_d", "_law_services", "_law_calls", "_law_most", "_law_k", "_law_count", "_law_found"]
theorem sc__law_system : FnScope ["_law_d", "_law_services", "_law_calls", "_law_most", "_law_k", "_law_count", "_law_found"] ["_law_d", "_law_services", "_law_calls", "_law_most"] (defScope (top 43)) := ⟨rfl, rfl, rfl, by decide +kernel, rfl, by decide +kernel, by decide +kernel⟩
theorem ok__law_system (T : Tx K mg) : FnOk P w K mg base CX0 3 T.a__law_system T.d__law_system ["_law_d", "_law_services", "_law_calls", "_law_most"] (SpM K [true, true, true] R__law_system) := by
  refine T.F__law_system.ok sc__law_system (SpM.len rfl) (fun cdv A outer s H vs Q E hr h => ⟨_, PSs.nox (pss_cons (ps_par (i := 5) (j := 6) rfl sc__law_system.nd rfl rfl (by decide) rfl rfl (pa_cons (pe_op op_add pe_int (pe_call (ok__law_next T) (hr.mono (by decide)) rfl T.g__law_next T.F__law_next.kp (T.F__law_next.bindsN fun _ _ _ _ _ _ us hl => match us, hl with | [_, _], _ => rfl) .nil pass0 (pa_cons (pv 0) (pa_cons (pv 1) pa_nil)))) (pa_cons (pe_lst pa_nil) pa_nil)) (by rfl)) (pss_cons (ps_for PassesOwn.never rfl (pi_range1 rfl T.b_range (pa_cons (pe_ifExp (pt_cmpR op_gt (pv 5) pe_int (nomark _)) (pe_call (ok__law_next T) (hr.mono (by decide)) rfl T.g__law_next T.F__law_next.kp (T.F__law_next.bindsN fun _ _ _ _ _ _ us hl => match us, hl with | [_, _], _ => rfl) .nil pass0 (pa_cons (pv 0) (pa_cons (pe_op op_add (pv 2) pe_int) pa_nil))) pe_int) pa_nil)) (pg_name (i := 4) sc__law_system.nd rfl (Or.inl rfl)) (pss_one (ps_expr (pe_bm PySem.F.plainAttrs_list PySem.F.slot_list_append PySem.F.type_list_append mt_append (pv 6) (pa_cons (pe_call (ok__law_call T) (hr.mono (by decide)) rfl T.g__law_call T.F__law_call.kp (T.F__law_call.bindsN fun _ _ _ _ _ _ us hl => match us, hl with | [_, _, _], _ => rfl) .nil pass0 (pa_cons (pv 0) (pa_cons (pv 5) (pa_cons (pv 3) pa_nil)))) pa_nil))))) (pss_one (ps_ret (pe_tup (pa_cons (pv 5) (pa_cons (pe_callTy (tupK (K := K) (by rfl)) rfl T.b_tuple (by decide +kernel) (pa_cons (pv 6) pa_nil)) pa_nil))))))), ?_⟩)
  refine run_M (n := 3) rfl h fun d ds r d' hR => ?_
  obtain ⟨a0, a1, a2, a3, v, h, rfl, rfl, rfl, rfl⟩ := hR
  unfold m__law_system at h
  refine sd_env (env2 := ([.mu (D.lst [(D.lst (List.map D.int a0.1)), (D.int a0.2.1), (D.int a0.2.2.1), (D.int a0.2.2.2)]), .im (D.int a1), .im (D.int a2), .im (D.int a3), .an, .an, .an] : List Bd)) rfl ?_
  obtain ⟨r1, hr1, h⟩ := Option.bind_eq_some_iff.mp h
  refine sd_seq (sd_par_io (d := (D.int ((1 : Int) + r1.1))) (d' := (D.lst (List.map (fun (z128 : (Int × Int × (List Int) × Int × Int)) => (D.tup [(D.int z128.1), (D.int z128.2.1), (D.tup (List.map D.int z128.2.2.1)), (D.int z128.2.2.2.1), (D.int z128.2.2.2.2)])) ([] : List (Int × Int × (List Int) × Int × Int))))) rfl rfl (ev_opF (l := .l2) rfl ev_int (ev_callMm (i := 0) (ks := [true]) (ds := [(D.int a1)]) (R := R__law_next) rfl rfl ⟨_, rfl⟩ (ea_consP (ev_im rfl) ea_nil) rfl ⟨a0, a1, r1, hr1, rfl, rfl, rfl, rfl⟩) rv_add) (ef_is (D.lst (List.map (fun (z129 : (Int × Int × (List Int) × Int × Int)) => (D.tup [(D.int z129.1), (D.int z129.2.1), (D.tup (List.map D.int z129.2.2.1)), (D.int z129.2.2.2.1), (D.int z129.2.2.2.2)])) ([] : List (Int × Int × (List Int) × Int × Int)))) (ef_lst ea_nil (show 0 ≤ 1000 from by decide)) rfl)) ?_
  refine sd_env (env2 := ([.mu (D.lst [(D.lst (List.map D.int r1.2.1)), (D.int r1.2.2.1), (D.int r1.2.2.2.1), (D.int r1.2.2.2.2)]), .im (D.int a1), .im (D.int a2), .im (D.int a3), .an, .im (D.int ((1 : Int) + r1.1)), .ow (D.lst (List.map (fun (z130 : (Int × Int × (List Int) × Int × Int)) => (D.tup [(D.int z130.1), (D.int z130.2.1), (D.tup (List.map D.int z130.2.2.1)), (D.int z130.2.2.2.1), (D.int z130.2.2.2.2)])) ([] : List (Int × Int × (List Int) × Int × Int))))] : List Bd)) (by kernel_rfl) ?_
  obtain ⟨y3, hy3, h⟩ := Option.bind_eq_some_iff.mp h
  obtain ⟨x4, hx4, h⟩ := Option.bind_eq_some_iff.mp h
  obtain ⟨y10, hy10, h⟩ := Option.bind_eq_some_iff.mp h
  refine sd_wp' [4] (by kernel_rfl) (env2 := ([.mu (D.lst [(D.lst (List.map D.int r1.2.1)), (D.int r1.2.2.1), (D.int r1.2.2.2.1), (D.int r1.2.2.2.2)]), .im (D.int a1), .im (D.int a2), .im (D.int a3), .an, .im (D.int ((1 : Int) + r1.1)), .ow (D.lst (List.map (fun (z133 : (Int × Int × (List Int) × Int × Int)) => (D.tup [(D.int z133.1), (D.int z133.2.1), (D.tup (List.map D.int z133.2.2.1)), (D.int z133.2.2.2.1), (D.int z133.2.2.2.2)])) ([] : List (Int × Int × (List Int) × Int × Int))))] : List Bd)) (by kernel_rfl) ?_
  refine sd_seq (sd_for (l := .l2) (o := .nx ([.mu (D.lst [(D.lst (List.map D.int y10.2.1)), (D.int y10.2.2.1), (D.int y10.2.2.2.1), (D.int y10.2.2.2.2)]), .im (D.int a1), .im (D.int a2), .im (D.int a3), .an, .im (D.int ((1 : Int) + r1.1)), .ow (D.lst (List.map (fun (z134 : (Int × Int × (List Int) × Int × Int)) => (D.tup [(D.int z134.1), (D.int z134.2.1), (D.tup (List.map D.int z134.2.2.1)), (D.int z134.2.2.2.1), (D.int z134.2.2.2.2)])) y10.1))] : List Bd)) rfl (ei_rng1T (l' := .l2) hx4 (ea_consF rfl (ev_if (eb_toF (eb_test (l := .l2) (ev_opP (l := .l2) (ev_im rfl) ev_int rv_gt))) (fun hb => by have wy3 := ifT hb hy3; obtain ⟨r2, hr2, wy3⟩ := Option.bind_eq_some_iff.mp wy3; have wy3 := Option.some.inj wy3; subst wy3; exact (ev_callMm (i := 0) (ks := [true]) (ds := [(D.int (a2 + (1 : Int)))]) (R := R__law_next) rfl rfl ⟨_, rfl⟩ (ea_consP (ev_opP (l := .l2) (ev_im rfl) ev_int rv_add) ea_nil) rfl ⟨r1.2, (a2 + (1 : Int)), r2, hr2, rfl, rfl, rfl, rfl⟩)) (fun hb => by have wy3 := ifF hb hy3; have wy3 := Option.some.inj wy3; subst wy3; exact (ev_toF ev_int))) ea_nil)) (loop_foldN (en := D.int) (ev := fun (s6 : ((List (Int × Int × (List Int) × Int × Int)) × ((List Int) × Int × Int × Int))) => ([.mu (D.lst [(D.lst (List.map D.int s6.2.1)), (D.int s6.2.2.1), (D.int s6.2.2.2.1), (D.int s6.2.2.2.2)]), .im (D.int a1), .im (D.int a2), .im (D.int a3), .an, .im (D.int ((1 : Int) + r1.1)), .ow (D.lst (List.map (fun (z132 : (Int × Int × (List Int) × Int × Int)) => (D.tup [(D.int z132.1), (D.int z132.2.1), (D.tup (List.map D.int z132.2.2.1)), (D.int z132.2.2.2.1), (D.int z132.2.2.2.2)])) s6.1))] : List Bd)) (fun x5 s6 z7 h => ?_) _ (([] : List (Int × Int × (List Int) × Int × Int)), y3.2) y10 hy10)) ?_
  · refine sdt (tg_name rfl) ?_
    obtain ⟨r8, hr8, h⟩ := Option.bind_eq_some_iff.mp h
    obtain ⟨x9, hx9, h⟩ := Option.bind_eq_some_iff.mp h
    have h := Option.some.inj h; subst h
    exact sd_endW [4] (sd_appendT (f := (fun (z131 : (Int × Int × (List Int) × Int × Int)) => (D.tup [(D.int z131.1), (D.int z131.2.1), (D.tup (List.map D.int z131.2.2.1)), (D.int z131.2.2.2.1), (D.int z131.2.2.2.2)]))) (xs := s6.1) (v := r8.1) hx9 rfl rfl (ev_callMm (i := 0) (ks := [true, true]) (ds := [(D.int ((1 : Int) + r1.1)), (D.int a3)]) (R := R__law_call) rfl rfl ⟨_, rfl⟩ (ea_consP (ev_im rfl) (ea_consP (ev_im rfl) ea_nil)) rfl ⟨s6.2, ((1 : Int) + r1.1), a3, r8, hr8, rfl, rfl, rfl, rfl⟩)) (by kernel_rfl) (by kernel_rfl)
  have h := Option.some.inj h; subst h
  exact (sd_retM (d := (D.tup [(D.int ((1 : Int) + r1.1)), (D.tup (List.map (fun (z135 : (Int × Int × (List Int) × Int × Int)) => (D.tup [(D.int z135.1), (D.int z135.2.1), (D.tup (List.map D.int z135.2.2.1)), (D.int z135.2.2.2.1), (D.int z135.2.2.2.2)])) y10.1))])) (ev_tup (ea_consP (ev_im rfl) (ea_consP (ev_tuple_ow rfl) ea_nil)) (show 2 ≤ 1000 from by decide)) rfl)
def okE (e : Er) : Bool := (decide (e.nm = "InvalidGap") && decide (e.fs.map (·.1) = []) && e.fs.all fun z => scl z.2)
abbrev lamQ : Str := (envOfC "law" (defScope (top 44)) 0 0 .none).qual ++ "<lambda>"
def nm_told : List Str := ["_law_work", "e", "_law_some", "_law_terms", "_law_k", "_law_head"]
theorem sc__law_told : FnScope ["_law_work", "e", "_law_some", "_law_terms", "_law_k", "_law_head"] ["_law_work"] (defScope (top 41)) := ⟨rfl, rfl, rfl, by decide +kernel, rfl, by decide +kernel, by decide +kernel⟩
theorem gv_told {X : Cx} (T : Tx X.K X.mg) (cdv : Value) : LamX.GivesTo X ["_law_work", "e", "_law_some", "_law_terms", "_law_k", "_law_head"] "_law_told" (defScope (top 41)) T.a__law_told cdv (defBody (top 41)) "_law_work" lamQ (TTld X.K (fun e r => okE e = true ∧ r = erD e)) := by
  obtain ⟨prog, w, K, mg, base, A, N, s_0, H_0, env, outer, stack, ex, fn, calm, pn0, xe⟩ := X
  replace T : Tx K mg := T
  refine told_gives rfl T.g_OnceError rfl sc__law_told.nd rfl rfl (fun _ => rfl) (fun e r ho => ?_) (fun s H e r ho a d => ?_)
  · obtain ⟨ho, _⟩ := ho
    unfold okE at ho
    simp only [Bool.or_eq_true, Bool.and_eq_true, decide_eq_true_eq] at ho
    rcases ho with ⟨⟨h1, h2⟩, h3⟩
    · rw [h1]; exact T.exm_InvalidGap
  · obtain ⟨ho, rfl⟩ := ho
    unfold okE at ho
    simp only [Bool.or_eq_true, Bool.and_eq_true, decide_eq_true_eq] at ho
    obtain ⟨nm, fs⟩ := e
    rcases ho with ⟨⟨h1, h2⟩, h3⟩
    · subst h1
      obtain rfl : fs = [] := List.map_eq_nil_iff.mp h2
      refine ⟨_, fun oe pn hz hf => (pss_cons (ps_set (i := 2) sc__law_told.nd rfl (Or.inl rfl) (pe_lst (pa_cons (pe_callB (id := "isinstance") (r := rIsX K (He.ga K "InvalidGap") a d) (by exact isXK rfl List.mem_cons_self (excCB_ok T.xc_InvalidGap) hz hf) rfl T.b_isinstance (by decide +kernel) (pa_cons (pv 1) (pa_cons (pe_glob (v := .ref (He.ga K "InvalidWindows")) rfl T.g_InvalidWindows rfl) pa_nil))) (pa_cons (pe_callB (id := "isinstance") (r := rIsX K (He.ga K "InvalidGap") a d) (by exact isXK rfl List.mem_cons_self (excCB_ok T.xc_InvalidGap) hz hf) rfl T.b_isinstance (by decide +kernel) (pa_cons (pv 1) (pa_cons (pe_glob (v := .ref (He.ga K "InvalidLog")) rfl T.g_InvalidLog rfl) pa_nil))) (pa_cons (pe_callB (id := "isinstance") (r := rIsX K (He.ga K "InvalidGap") a d) (by exact isXK rfl List.mem_cons_self (excCB_ok T.xc_InvalidGap) hz hf) rfl T.b_isinstance (by decide +kernel) (pa_cons (pv 1) (pa_cons (pe_glob (v := .ref (He.ga K "InvalidSchedule")) rfl T.g_InvalidSchedule rfl) pa_nil))) pa_nil))))) (pss_cons (ps_set (i := 2) sc__law_told.nd rfl (Or.inl rfl) (pe_op (catLK (K := K) (by rfl)) (pv 2) (pe_lst (pa_cons (pe_callB (id := "isinstance") (r := rIsX K (He.ga K "InvalidGap") a d) (by exact isXK rfl List.mem_cons_self (excCB_ok T.xc_InvalidGap) hz hf) rfl T.b_isinstance (by decide +kernel) (pa_cons (pv 1) (pa_cons (pe_glob (v := .ref (He.ga K "InvalidTimes")) rfl T.g_InvalidTimes rfl) pa_nil))) (pa_cons (pe_callB (id := "isinstance") (r := rIsX K (He.ga K "InvalidGap") a d) (by exact isXK rfl List.mem_cons_self (excCB_ok T.xc_InvalidGap) hz hf) rfl T.b_isinstance (by decide +kernel) (pa_cons (pv 1) (pa_cons (pe_glob (v := .ref (He.ga K "InvalidSystem")) rfl T.g_InvalidSystem rfl) pa_nil))) (pa_cons (pe_callB (id := "isinstance") (r := rIsX K (He.ga K "InvalidGap") a d) (by exact isXK rfl List.mem_cons_self (excCB_ok T.xc_InvalidGap) hz hf) rfl T.b_isinstance (by decide +kernel) (pa_cons (pv 1) (pa_cons (pe_glob (v := .ref (He.ga K "InvalidTable")) rfl T.g_InvalidTable rfl) pa_nil))) pa_nil)))))) (pss_cons (ps_set (i := 2) sc__law_told.nd rfl (Or.inl rfl) (pe_op (catLK (K := K) (by rfl)) (pv 2) (pe_lst (pa_cons (pe_callB (id := "isinstance") (r := rIsX K (He.ga K "InvalidGap") a d) (by exact isXK rfl List.mem_cons_self (excCB_ok T.xc_InvalidGap) hz hf) rfl T.b_isinstance (by decide +kernel) (pa_cons (pv 1) (pa_cons (pe_glob (v := .ref (He.ga K "ImpossibleLog")) rfl T.g_ImpossibleLog rfl) pa_nil))) (pa_cons (pe_callB (id := "isinstance") (r := rIsX K (He.ga K "InvalidGap") a d) (by exact isXK rfl List.mem_cons_self (excCB_ok T.xc_InvalidGap) hz hf) rfl T.b_isinstance (by decide +kernel) (pa_cons (pv 1) (pa_cons (pe_glob (v := .ref (He.ga K "UnknownService")) rfl T.g_UnknownService rfl) pa_nil))) (pa_cons (pe_callB (id := "isinstance") (r := rIsX K (He.ga K "InvalidGap") a d) (by exact isXK rfl List.mem_cons_self (excCB_ok T.xc_InvalidGap) hz hf) rfl T.b_isinstance (by decide +kernel) (pa_cons (pv 1) (pa_cons (pe_glob (v := .ref (He.ga K "InvalidGap")) rfl T.g_InvalidGap rfl) pa_nil))) pa_nil)))))) (pss_cons (ps_expr (pe_bmK (K := K) (by rfl) PySem.F.plainAttrs_list PySem.F.slot_list_append PySem.F.type_list_append mt_append (pv 2) (pa_cons (pe_callB (id := "isinstance") (r := rIsX K (He.ga K "InvalidGap") a d) (by exact isXK rfl List.mem_cons_self (excCB_ok T.xc_InvalidGap) hz hf) rfl T.b_isinstance (by decide +kernel) (pa_cons (pv 1) (pa_cons (pe_glob (v := .ref (He.ga K "TooManyAttempts")) rfl T.g_TooManyAttempts rfl) pa_nil))) pa_nil))) (pss_cons (ps_set (i := 3) sc__law_told.nd rfl (Or.inl rfl) (pe_lst (pa_cons pe_str (pa_cons pe_str (pa_cons pe_str (pa_cons pe_str (pa_cons pe_str pa_nil))))))) (pss_cons (ps_set (i := 3) sc__law_told.nd rfl (Or.inl rfl) (pe_op (catLK (K := K) (by rfl)) (pv 3) (pe_lst (pa_cons pe_str (pa_cons pe_str (pa_cons pe_str (pa_cons pe_str (pa_cons pe_str pa_nil)))))))) (pss_cons (ps_set (i := 4) sc__law_told.nd rfl (Or.inl rfl) (pe_ifExp (PW.pt (pw_and (pt_cmpR op_eq (pe_bmK (K := K) (r := rCntV K) (by rfl) PySem.F.plainAttrs_list PySem.F.slot_list_count PySem.F.type_list_count (by exact countLK rfl) (pv 2) (pa_cons pe_bl pa_nil)) pe_int (nomark _)) (pw_and1 (pt_val (pe_callB (id := "isinstance") (r := rIsX K (He.ga K "InvalidGap") a d) (by exact isXK rfl List.mem_cons_self (excCB_ok T.xc_InvalidGap) hz hf) rfl T.b_isinstance (by decide +kernel) (pa_cons (pv 1) (pa_cons (pe_bltn (v := .ty "ValueError") rfl T.b_ValueError (by decide +kernel) rfl) pa_nil))))))) (pe_bmK (K := K) (r := rIndex K) (by rfl) PySem.F.plainAttrs_list PySem.F.slot_list_index PySem.F.type_list_index (by exact indexLK rfl) (pv 2) (pa_cons pe_bl pa_nil)) pe_int)) (pss_cons (ps_set (i := 5) sc__law_told.nd rfl (Or.inl rfl) (pe_tup (pa_cons pe_str (pa_cons (pe_ifExp (pt_cmpR op_lt (pv 4) pe_int (nomark _)) (pe_ix (ixLK (K := K) (by rfl)) (pv 3) (pv 4) (fun _ _ => rfl)) pe_str) pa_nil)))) (pss_cons (ps_if (pt_cmpR op_lt (pv 4) pe_int (nomark _)) (pss_one (ps_ret (pe_op (catUK (K := K) (by rfl)) (pv 5) (pe_tup (pa_cons pe_dead pa_nil))))) pss_nil) (pss_cons (ps_if (pt_cmpR op_eq (pv 4) pe_int (nomark _)) (pss_one (ps_ret (pe_op (catUK (K := K) (by rfl)) (pv 5) (pe_tup (pa_cons pe_dead (pa_cons pe_dead pa_nil)))))) pss_nil) (pss_cons (ps_if (pt_cmpR op_eq (pv 4) pe_int (nomark _)) (pss_one (ps_ret (pe_op (catUK (K := K) (by rfl)) (pv 5) (pe_tup (pa_cons pe_dead (pa_cons pe_dead pa_nil)))))) pss_nil) (pss_one (ps_ret (pe_op (catUK (K := K) (by rfl)) (pv 5) (pe_ifExp (pt_cmpR op_eq (pv 4) pe_int (nomark _)) (pe_tup (pa_cons pe_dead pa_nil)) (pe_tup pa_nil)))))))))))))))), fun H1 Q Dn σ1 hrt hl h1 na ok k => ?_⟩
      have hd : d = none := ok.2
      refine suite_ok (K := K) (a := a) (r := rIsX K (He.ga K "InvalidGap") a _) 8 (by decide) (fun j c hj H Q e q => ?_) (fun H Q e q => ⟨_, _, true, rfl, (fun u h => h), T.kv_InvalidGap, (fun dd z => by rw [hd] at z; cases z), q⟩) hl h1 (fun σ H p5 e hl h1 h4 h5 n5 a5 => tail_none (k0 := 8) (by decide) e h4 h5 n5 a5 fun v H2 e2 rv => by rw [hrt]; exact k v H2 e2 rv)
      match j, hj with
      | 0, hj => cases hj; exact ⟨_, _, _, rfl, (fun u h => h), T.k_InvalidGap_0, (fun dd z => by rw [hd] at z; cases z), q⟩
      | 1, hj => cases hj; exact ⟨_, _, _, rfl, (fun u h => h), T.k_InvalidGap_1, (fun dd z => by rw [hd] at z; cases z), q⟩
      | 2, hj => cases hj; exact ⟨_, _, _, rfl, (fun u h => h), T.k_InvalidGap_2, (fun dd z => by rw [hd] at z; cases z), q⟩
      | 3, hj => cases hj; exact ⟨_, _, _, rfl, (fun u h => h), T.k_InvalidGap_3, (fun dd z => by rw [hd] at z; cases z), q⟩
      | 4, hj => cases hj; exact ⟨_, _, _, rfl, (fun u h => h), T.k_InvalidGap_4, (fun dd z => by rw [hd] at z; cases z), q⟩
      | 5, hj => cases hj; exact ⟨_, _, _, rfl, (fun u h => h), T.k_InvalidGap_5, (fun dd z => by rw [hd] at z; cases z), q⟩
      | 6, hj => cases hj; exact ⟨_, _, _, rfl, (fun u h => h), T.k_InvalidGap_6, (fun dd z => by rw [hd] at z; cases z), q⟩
      | 7, hj => cases hj; exact ⟨_, _, _, rfl, (fun u h => h), T.k_InvalidGap_7, (fun dd z => by rw [hd] at z; cases z), q⟩
      | 8, hj => cases hj; exact ⟨_, _, _, rfl, (fun u h => h), T.k_InvalidGap_8, (fun dd z => by rw [hd] at z; cases z), q⟩
      | 9, hj => cases hj; exact ⟨_, _, _, rfl, (fun u h => h), T.k_InvalidGap_9, (fun dd z => by rw [hd] at z; cases z), q⟩
      | n + 10, hj => simp at hj
/-- law -/
noncomputable def m_law (a0 : (List Int)) : Option Bool := (m__law_dice a0).bind fun r1 => (rngO 0 (3 : Int)).bind fun x2 => (foldR (fun (s4 : (((List Int) × Int × Int × Int))) (x3 : Int) => (m__law_next s4 (2 : Int)).bind fun r6 => (atI ([(3 : Int), (20 : Int)] : List Int) r6.1).bind fun x7 => (m__law_system r6.2 (6 : Int) (9 : Int) x7).bind fun r8 => (rngO 0 r8.1.1).bind fun x9 => (compS (fun (s11 : ((List Int) × Int × Int × Int)) (x10 : Int) => (m__law_next s11 (2 : Int)).bind fun r12 => (atI ([(5 : Int), (60 : Int)] : List Int) r12.1).bind fun x13 => (m__law_next r12.2 x13).bind fun r14 => some (some r14.1, r14.2)) x9 r8.2).bind fun ys15 => (m__law_next ys15.2 (3 : Int)).bind fun r16 => (atI ([(4 : Int), (40 : Int), (9999 : Int)] : List Int) r16.1).bind fun x17 => (m__law_next r16.2 x17).bind fun r18 => (m_act_times r8.1).bind fun r19 => (m_memory_needs r8.1 ys15.1 ((1 : Int) + r18.1)).bind fun r20 => (rngO 0 r8.1.1).bind fun x21 => (foldR (fun (s23 : Unit) (x22 : Int) => if (Option.isSome (getA r19 x22)) = true then ((getA r19 x22).bind fun x25 => (atI ys15.1 x22).bind fun x26 => (mulO (60 : Int) ((1 : Int) + r18.1)).bind fun x27 => (rngO 0 (700 : Int)).bind fun x28 => (List.foldlM (fun (s30 : (Int)) (x29 : Int) => (mulO x29 ((1 : Int) + r18.1)).bind fun x32 => (if (decide ((x32 + x25.1) ≤ ((x25.2 + x26) + x27))) = true then (atI ys15.1 x22).bind fun x33 => some (decide (((x25.2 + x26) + x27) ≤ ((x32 + x25.2) + x33))) else some false).bind fun c34 => some (s30 + (if c34 = true then (1 : Int) else 0))) (0 : Int) x28).bind fun y35 => (if (decide (y35 < (600 : Int))) = true then (atI r20 x22).bind fun x36 => some (!decide (x36 = y35)) else some false).bind fun c37 => if c37 = true then (some (.inr false)) else (some (.inl ()))) else ((if (decide ((0 : Int) < (600 : Int))) = true then (atI r20 x22).bind fun x38 => some (!decide (x38 = (0 : Int))) else some false).bind fun c39 => if c39 = true then (some (.inr false)) else (some (.inl ())))) x21 ()).bind fun y40 => (match y40 with | .inl y41 => (m__law_pick_d r18.2 ([(D.int (0 : Int)), (D.int (-(1 : Int))), (D.int (10000 : Int)), D.non, (D.bl true)] : List D)).bind fun r42 => (m_memory_needs_x r8.1 ys15.1 r42.1).bind fun r43 => (toldO okE (fun (z158 : (List Int)) => (D.lst (List.map D.int z158))) r43).bind fun r44 => (neDO r44 (D.tup [(D.str ("error" : PySem.Str)), (D.str ("InvalidGap" : PySem.Str))])).bind fun x45 => if x45 = true then (some (.inr false)) else (some (.inl r42.2)) | .inr y41 => some (.inr y41))) x2 r1).bind fun y46 => (match y46 with | .inl y47 => some true | .inr y47 => some y47)
def R_law : List D → D → Prop := fun ds r => ∃ (a0 : (List Int)) (v : Bool), m_law a0 = some v ∧ ds = [(D.lst (List.map D.int a0))] ∧ r = (D.bl v)
def nm_law : List Str := ["_law_script", "_law_d", "_law_turn", "_law_system_here", "_law_windows", "_law_found", "_law_service", "_law_odd", "_law_gap", "_law_spans", "_law_due", "_law_moment", "_law_k", "_law_low", "_law_high", "_law_begins"]
theorem sc_law : FnScope ["_law_script", "_law_d", "_law_turn", "_law_system_here", "_law_windows", "_law_found", "_law_service", "_law_odd", "_law_gap", "_law_spans", "_law_due", "_law_moment", "_law_k", "_law_low", "_law_high", "_law_begins"] ["_law_script"] (defScope (top 44)) := ⟨rfl, rfl, rfl, by decide +kernel, rfl, by decide +kernel, by decide +kernel⟩
theorem ok_law (T : Tx K mg) (TB : LamX.TabB base mg (He.codeOf K ("law", none)) (He.tabOf K (He.codeOf K ("law", none)))) : FnOk P w K mg base CX0 13 (He.fAd K ("law", none)) T.d_law ["_law_script"] (SpL (He.tabOf K (He.codeOf K ("law", none))) lamQ K R_law) := by
  obtain ⟨oc_, od_, dV_, kV_, doc_, pm_, an_, cdv_, ct_, osl_, efd, lkT, hcdT, _, _⟩ := T.F__law_told.ex
  have bT := T.F__law_told.bindsN (ps := ["_law_work"]) fun _ _ _ _ _ _ us hl => match us, hl with | [_], _ => rfl
  rw [efd] at lkT bT
  have F_ := T.F_law
  rw [T.ea_law] at F_
  refine okC F_ sc_law SpL.len (fun A outer s H vs Q E hr h => ⟨_, PSs.nox (pss_cons (ps_set (i := 1) sc_law.nd rfl (Or.inr rfl) (pe_call (ok__law_dice T) (hr.mono (by decide)) rfl T.g__law_dice T.F__law_dice.kp (T.F__law_dice.bindsN fun _ _ _ _ _ _ us hl => match us, hl with | [_], _ => rfl) .nil pass0 (pa_cons (pv 0) pa_nil))) (pss_cons (ps_for PassesOwn.never rfl (pi_range1 rfl T.b_range (pa_cons pe_int pa_nil)) (pg_name (i := 2) sc_law.nd rfl (Or.inl rfl)) (pss_cons (ps_set (i := 3) sc_law.nd rfl (Or.inr rfl) (pe_call (ok__law_system T) (hr.mono (by decide)) rfl T.g__law_system T.F__law_system.kp (T.F__law_system.bindsN fun _ _ _ _ _ _ us hl => match us, hl with | [_, _, _, _], _ => rfl) .nil pass0 (pa_cons (pv 1) (pa_cons pe_int (pa_cons pe_int (pa_cons (pe_ix (ixLK (K := K) (by rfl)) (pe_lst (pa_cons pe_int (pa_cons pe_int pa_nil))) (pe_call (ok__law_next T) (hr.mono (by decide)) rfl T.g__law_next T.F__law_next.kp (T.F__law_next.bindsN fun _ _ _ _ _ _ us hl => match us, hl with | [_, _], _ => rfl) .nil pass0 (pa_cons (pv 1) (pa_cons pe_int pa_nil))) (fun _ _ => rfl)) pa_nil)))))) (pss_cons (ps_set (i := 4) sc_law.nd rfl (Or.inr rfl) (pe_callTy (tupK (K := K) (by rfl)) rfl T.b_tuple (by decide +kernel) (pa_cons (pe_lc (own := [("_law_service", 6)]) rfl sc_law.nd (pi_range1 rfl T.b_range (pa_cons (pe_ix (ixTK (K := K) (by rfl)) (pv 3) pe_int (fun _ _ => rfl)) pa_nil)) (blkOk_by (own := [("_law_service", 6)]) (N := nm_law) (sc := defScope (top 44)) (by decide +kernel)) (fun _ _ _ _ _ => (pg_name (i := 6) sc_law.nd rfl (Or.inl rfl))) (fun _ _ _ _ _ => pts_nil) (fun _ _ _ _ _ => (pe_call (ok__law_next T) (hr.mono (by decide)) rfl T.g__law_next T.F__law_next.kp (T.F__law_next.bindsN fun _ _ _ _ _ _ us hl => match us, hl with | [_, _], _ => rfl) .nil pass0 (pa_cons (pv 1) (pa_cons (pe_ix (ixLK (K := K) (by rfl)) (pe_lst (pa_cons pe_int (pa_cons pe_int pa_nil))) (pe_call (ok__law_next T) (hr.mono (by decide)) rfl T.g__law_next T.F__law_next.kp (T.F__law_next.bindsN fun _ _ _ _ _ _ us hl => match us, hl with | [_, _], _ => rfl) .nil pass0 (pa_cons (pv 1) (pa_cons pe_int pa_nil))) (fun _ _ => rfl)) pa_nil))))) pa_nil))) (pss_cons (ps_par (i := 8) (j := 9) rfl sc_law.nd rfl rfl (by decide) rfl rfl (pa_cons (pe_op op_add pe_int (pe_call (ok__law_next T) (hr.mono (by decide)) rfl T.g__law_next T.F__law_next.kp (T.F__law_next.bindsN fun _ _ _ _ _ _ us hl => match us, hl with | [_, _], _ => rfl) .nil pass0 (pa_cons (pv 1) (pa_cons (pe_ix (ixLK (K := K) (by rfl)) (pe_lst (pa_cons pe_int (pa_cons pe_int (pa_cons pe_int pa_nil)))) (pe_call (ok__law_next T) (hr.mono (by decide)) rfl T.g__law_next T.F__law_next.kp (T.F__law_next.bindsN fun _ _ _ _ _ _ us hl => match us, hl with | [_, _], _ => rfl) .nil pass0 (pa_cons (pv 1) (pa_cons pe_int pa_nil))) (fun _ _ => rfl)) pa_nil)))) (pa_cons (pe_call (ok_act_times T) (hr.mono (by decide)) rfl T.g_act_times T.F_act_times.kp (T.F_act_times.bindsN fun _ _ _ _ _ _ us hl => match us, hl with | [_], _ => rfl) .nil pass0 (pa_cons (pv 3) pa_nil)) pa_nil)) (by rfl)) (pss_cons (ps_set (i := 5) sc_law.nd rfl (Or.inl rfl) (pe_call (ok_memory_needs T) (hr.mono (by decide)) rfl T.g_memory_needs T.F_memory_needs.kp (T.F_memory_needs.bindsN fun _ _ _ _ _ _ us hl => match us, hl with | [_, _, _], _ => rfl) .nil pass0 (pa_cons (pv 3) (pa_cons (pv 4) (pa_cons (pv 8) pa_nil))))) (pss_cons (ps_for PassesOwn.never rfl (pi_range1 rfl T.b_range (pa_cons (pe_ix (ixTK (K := K) (by rfl)) (pv 3) pe_int (fun _ _ => rfl)) pa_nil)) (pg_name (i := 6) sc_law.nd rfl (Or.inl rfl)) (pss_cons (ps_set (i := 10) sc_law.nd rfl (Or.inl rfl) pe_int) (pss_cons (ps_if (pt_cmp (pc_din (hu_of hr) (pv 6) (pv 9))) (pss_cons (ps_asg (pe_dget (hu_of hr) (pv 9) (pv 6) (fun _ _ => rfl)) (pgTupK (K := K) (n := 2) (by rfl) rfl (pgs_cons (pg_name (i := 13) sc_law.nd rfl (Or.inl rfl)) (pgs_cons (pg_name (i := 14) sc_law.nd rfl (Or.inl rfl)) pgs_nil)) (by rfl) (by rfl))) (pss_cons (ps_set (i := 11) sc_law.nd rfl (Or.inl rfl) (pe_op op_add (pe_op op_add (pv 14) (pe_ix (ixTK (K := K) (by rfl)) (pv 4) (pv 6) (fun _ _ => rfl))) (pe_op op_mulW pe_int (pv 8)))) (pss_one (ps_for PassesOwn.never rfl (pi_range1 rfl T.b_range (pa_cons pe_int pa_nil)) (pg_name (i := 12) sc_law.nd rfl (Or.inl rfl)) (pss_cons (ps_set (i := 15) sc_law.nd rfl (Or.inl rfl) (pe_op op_mulW (pv 12) (pv 8))) (pss_one (ps_set (i := 10) sc_law.nd rfl (Or.inl rfl) (pe_op op_add (pv 10) (pe_callTy call_int1 rfl T.b_int (by decide +kernel) (pa_cons (pe_and (pe_cmpR op_le (pe_op op_add (pv 15) (pv 13)) (pv 11) (nomark _)) (pe_one (pe_cmpR op_ge (pe_op op_add (pe_op op_add (pv 15) (pv 14)) (pe_ix (ixTK (K := K) (by rfl)) (pv 4) (pv 6) (fun _ _ => rfl))) (pv 11) (nomark _)))) pa_nil)))))))))) pss_nil) (pss_one (ps_if (PW.pt (pw_and (pt_cmpR op_lt (pv 10) pe_int (nomark _)) (pw_and1 (pt_cmpR op_ne (pe_ix (ixLK (K := K) (by rfl)) (pv 5) (pv 6) (fun _ _ => rfl)) (pv 10) (nomark _))))) (pss_one (ps_ret pe_bl)) pss_nil))))) (pss_cons (ps_set (i := 7) sc_law.nd rfl (Or.inr rfl) (pe_call (ok__law_pick_d T) (hr.mono (by decide)) rfl T.g__law_pick T.F__law_pick.kp (T.F__law_pick.bindsN fun _ _ _ _ _ _ us hl => match us, hl with | [_, _], _ => rfl) .nil pass0 (pa_cons (pv 1) (pa_cons (pe_lst (pa_cons pe_int (pa_cons (pe_un un_neg pe_int) (pa_cons pe_int (pa_cons pe_non (pa_cons pe_bl pa_nil)))))) pa_nil)))) (pss_one (ps_if (pt_cmpR (neDK (K := K) (by rfl) (hu64 hr)) (pe_lam0 (k := 10) (t := fun E => tCallS (SpPX K [true, true, true] R_memory_needs_x) (fun _ => E) _) (TT := TTld K (fun e r => okE e = true ∧ r = erD e)) rfl T.g__law_told T.F__law_told.kp lkT hcdT bT sc__law_told rfl (.inl rfl) (by exact gv_told _ _) TB rfl (hr.mono (by decide)) (LamX.lamS_by (by kernel_rfl)) rfl (fun _ _ _ _ _ => rfl) (fun A outer s H E f c' hr => (pe_callS (ok_memory_needs_x T) (hr.mono (by decide)) rfl T.g_memory_needs T.F_memory_needs.kp (T.F_memory_needs.bindsN fun _ _ _ _ _ _ us hl => match us, hl with | [_, _, _], _ => rfl) (fun σ => passAt (takes_of rfl rfl rfl rfl) σ) (pa_cons (pv 3) (pa_cons (pv 4) (pa_cons (pv 7) pa_nil)))))) (pe_tup (pa_cons pe_str (pa_cons pe_str pa_nil))) (nomark _)) (pss_one (ps_ret pe_bl)) pss_nil))))))))) (pss_one (ps_ret pe_bl)))), ?_⟩)
  refine run_L (n := 15) rfl h fun ds r hR => ?_
  obtain ⟨a0, v, h, rfl, rfl⟩ := hR
  unfold m_law at h
  refine sj_env (env2 := ([.im (D.lst (List.map D.int a0)), .an, .an, .an, .an, .an, .an, .an, .an, .an, .an, .an, .an, .an, .an, .an] : List Bd)) rfl ?_
  obtain ⟨r1, hr1, h⟩ := Option.bind_eq_some_iff.mp h
  refine sj_seq (sj_of (sd_asgF (d := (D.lst [(D.lst (List.map D.int r1.1)), (D.int r1.2.1), (D.int r1.2.2.1), (D.int r1.2.2.2)])) rfl (ef_callA (ks := [true]) (ds := [(D.lst (List.map D.int a0))]) (R := R__law_dice) rfl (ea_consP (ev_im rfl) ea_nil) ⟨a0, r1, hr1, rfl, rfl⟩))) ?_
  refine sj_env (env2 := ([.im (D.lst (List.map D.int a0)), .ow (D.lst [(D.lst (List.map D.int r1.1)), (D.int r1.2.1), (D.int r1.2.2.1), (D.int r1.2.2.2)]), .an, .an, .an, .an, .an, .an, .an, .an, .an, .an, .an, .an, .an, .an] : List Bd)) (by kernel_rfl) ?_
  obtain ⟨x2, hx2, h⟩ := Option.bind_eq_some_iff.mp h
  obtain ⟨y46, hy46, h⟩ := Option.bind_eq_some_iff.mp h
  refine sj_wp' [2, 3, 4, 8, 9, 5, 6, 10, 13, 14, 11, 12, 15, 7] (by kernel_rfl) (env2 := ([.im (D.lst (List.map D.int a0)), .ow (D.lst [(D.lst (List.map D.int r1.1)), (D.int r1.2.1), (D.int r1.2.2.1), (D.int r1.2.2.2)]), .an, .an, .an, .an, .an, .an, .an, .an, .an, .an, .an, .an, .an, .an] : List Bd)) (by kernel_rfl) ?_
  refine sj_seqZ (sj_for (eir_1T (l' := .l2) hx2 (ea_consP ev_int ea_nil)) (loop_foldZ (en := D.int) (ev := fun (s4 : (((List Int) × Int × Int × Int))) => ([.im (D.lst (List.map D.int a0)), .ow (D.lst [(D.lst (List.map D.int s4.1)), (D.int s4.2.1), (D.int s4.2.2.1), (D.int s4.2.2.2)]), .an, .an, .an, .an, .an, .an, .an, .an, .an, .an, .an, .an, .an, .an] : List Bd)) (fin := (fun (r : Bool) => Out.rx (D.bl r))) (fun _ => rfl) (fun x3 s4 z5 h => ?_) _ r1 _ hy46)) (fun _ => rfl) (fun y47 e => ?_) (fun y47 e => ?_)
  · refine sjt (tg_name rfl) ?_
    obtain ⟨r6, hr6, h⟩ := Option.bind_eq_some_iff.mp h
    obtain ⟨x7, hx7, h⟩ := Option.bind_eq_some_iff.mp h
    obtain ⟨r8, hr8, h⟩ := Option.bind_eq_some_iff.mp h
    refine sj_seq (sj_of (sd_asg (d := (D.tup [(D.int r8.1.1), (D.tup (List.map (fun (z137 : (Int × Int × (List Int) × Int × Int)) => (D.tup [(D.int z137.1), (D.int z137.2.1), (D.tup (List.map D.int z137.2.2.1)), (D.int z137.2.2.2.1), (D.int z137.2.2.2.2)])) r8.1.2))])) rfl (ev_callMo (i := 1) (ks := [true, true, true]) (ds := [(D.int (6 : Int)), (D.int (9 : Int)), (D.int x7)]) (R := R__law_system) rfl rfl ⟨_, rfl⟩ (ea_consF rfl ev_int (ea_consF rfl ev_int (ea_consF rfl (ev_opF (l := .l2) rfl (ef_ev (ef_is (D.lst (List.map D.int ([(3 : Int), (20 : Int)] : List Int))) (ef_lst (ea_consP ev_int (ea_consP ev_int ea_nil)) (show 2 ≤ 1000 from by decide)) rfl)) (ev_callMo (i := 1) (ks := [true]) (ds := [(D.int (2 : Int))]) (R := R__law_next) rfl rfl ⟨_, rfl⟩ (ea_consP ev_int ea_nil) rfl ⟨s4, (2 : Int), r6, hr6, rfl, rfl, rfl, rfl⟩) (rv_ixLm (f := D.int) (xs := ([(3 : Int), (20 : Int)] : List Int)) (v := x7) hx7)) ea_nil))) rfl ⟨r6.2, (6 : Int), (9 : Int), x7, r8, hr8, rfl, rfl, rfl, rfl⟩))) ?_
    refine sj_env (env2 := ([.im (D.lst (List.map D.int a0)), .ow (D.lst [(D.lst (List.map D.int r8.2.1)), (D.int r8.2.2.1), (D.int r8.2.2.2.1), (D.int r8.2.2.2.2)]), .im (D.int x3), .im (D.tup [(D.int r8.1.1), (D.tup (List.map (fun (z138 : (Int × Int × (List Int) × Int × Int)) => (D.tup [(D.int z138.1), (D.int z138.2.1), (D.tup (List.map D.int z138.2.2.1)), (D.int z138.2.2.2.1), (D.int z138.2.2.2.2)])) r8.1.2))]), .an, .an, .an, .an, .an, .an, .an, .an, .an, .an, .an, .an] : List Bd)) (by kernel_rfl) ?_
    obtain ⟨x9, hx9, h⟩ := Option.bind_eq_some_iff.mp h
    obtain ⟨ys15, hys15, h⟩ := Option.bind_eq_some_iff.mp h
    refine sj_seq (sj_of (sd_asg (d := (D.tup (List.map D.int ys15.1))) rfl (ev_tuple_of (ea_consF rfl (ef_ev (ef_lcS2 (p := false) (l := .l2) (s := r8.2) (ev := fun (s11 : ((List Int) × Int × Int × Int)) => ([.im (D.lst (List.map D.int a0)), .ow (D.lst [(D.lst (List.map D.int s11.1)), (D.int s11.2.1), (D.int s11.2.2.1), (D.int s11.2.2.2)]), .im (D.int x3), .im (D.tup [(D.int r8.1.1), (D.tup (List.map (fun (z139 : (Int × Int × (List Int) × Int × Int)) => (D.tup [(D.int z139.1), (D.int z139.2.1), (D.tup (List.map D.int z139.2.2.1)), (D.int z139.2.2.2.1), (D.int z139.2.2.2.2)])) r8.1.2))]), .an, .an, .an, .an, .an, .an, .an, .an, .an, .an, .an, .an] : List Bd)) (en := D.int) (eb := D.int) hys15 rfl (ei_toF (ei_rng1T (l' := .l2) hx9 (ea_consP (ev_opP (l := .l2) (ev_im rfl) ev_int (rv_ixTn 0 rfl)) ea_nil))) (tw_name (i := 6) (vs := [6]) (by decide)) (anC (v := 6) rfl anN) (fun x10 s11 oo ss wys15 => by obtain ⟨r12, hr12, wys15⟩ := Option.bind_eq_some_iff.mp wys15; obtain ⟨x13, hx13, wys15⟩ := Option.bind_eq_some_iff.mp wys15; obtain ⟨r14, hr14, wys15⟩ := Option.bind_eq_some_iff.mp wys15; obtain ⟨e1, e2⟩ := Prod.mk.inj (Option.some.inj wys15); subst e1; subst e2; exact turn_yes (env2 := ([.im (D.lst (List.map D.int a0)), .ow (D.lst [(D.lst (List.map D.int r14.2.1)), (D.int r14.2.2.1), (D.int r14.2.2.2.1), (D.int r14.2.2.2.2)]), .im (D.int x3), .im (D.tup [(D.int r8.1.1), (D.tup (List.map (fun (z140 : (Int × Int × (List Int) × Int × Int)) => (D.tup [(D.int z140.1), (D.int z140.2.1), (D.tup (List.map D.int z140.2.2.1)), (D.int z140.2.2.2.1), (D.int z140.2.2.2.2)])) r8.1.2))]), .an, .an, .im (D.int x10), .an, .an, .an, .an, .an, .an, .an, .an, .an] : List Bd)) (tg_name rfl) (eb_toF eb_yes) (ev_callMo (i := 1) (ks := [true]) (ds := [(D.int x13)]) (R := R__law_next) rfl rfl ⟨_, rfl⟩ (ea_consF rfl (ev_opF (l := .l2) rfl (ef_ev (ef_is (D.lst (List.map D.int ([(5 : Int), (60 : Int)] : List Int))) (ef_lst (ea_consP ev_int (ea_consP ev_int ea_nil)) (show 2 ≤ 1000 from by decide)) rfl)) (ev_callMo (i := 1) (ks := [true]) (ds := [(D.int (2 : Int))]) (R := R__law_next) rfl rfl ⟨_, rfl⟩ (ea_consP ev_int ea_nil) rfl ⟨s11, (2 : Int), r12, hr12, rfl, rfl, rfl, rfl⟩) (rv_ixLm (f := D.int) (xs := ([(5 : Int), (60 : Int)] : List Int)) (v := x13) hx13)) ea_nil) rfl ⟨r12.2, x13, r14, hr14, rfl, rfl, rfl, rfl⟩) rfl rfl rfl (anC (v := 6) rfl anN)))) ea_nil)))) ?_
    refine sj_env (env2 := ([.im (D.lst (List.map D.int a0)), .ow (D.lst [(D.lst (List.map D.int ys15.2.1)), (D.int ys15.2.2.1), (D.int ys15.2.2.2.1), (D.int ys15.2.2.2.2)]), .im (D.int x3), .im (D.tup [(D.int r8.1.1), (D.tup (List.map (fun (z141 : (Int × Int × (List Int) × Int × Int)) => (D.tup [(D.int z141.1), (D.int z141.2.1), (D.tup (List.map D.int z141.2.2.1)), (D.int z141.2.2.2.1), (D.int z141.2.2.2.2)])) r8.1.2))]), .im (D.tup (List.map D.int ys15.1)), .an, .an, .an, .an, .an, .an, .an, .an, .an, .an, .an] : List Bd)) (by kernel_rfl) ?_
    obtain ⟨r16, hr16, h⟩ := Option.bind_eq_some_iff.mp h
    obtain ⟨x17, hx17, h⟩ := Option.bind_eq_some_iff.mp h
    obtain ⟨r18, hr18, h⟩ := Option.bind_eq_some_iff.mp h
    obtain ⟨r19, hr19, h⟩ := Option.bind_eq_some_iff.mp h
    refine sj_seq (sj_of (sd_par_ii (d := (D.int ((1 : Int) + r18.1))) (d' := (dkL (List.map (fun (z : Int × (Int × Int)) => ((Sum.inl z.1 : Key), (D.tup [(D.int z.2.1), (D.int z.2.2)]))) r19))) rfl rfl (ev_opF (l := .l2) rfl ev_int (ev_callMo (i := 1) (ks := [true]) (ds := [(D.int x17)]) (R := R__law_next) rfl rfl ⟨_, rfl⟩ (ea_consF rfl (ev_opF (l := .l2) rfl (ef_ev (ef_is (D.lst (List.map D.int ([(4 : Int), (40 : Int), (9999 : Int)] : List Int))) (ef_lst (ea_consP ev_int (ea_consP ev_int (ea_consP ev_int ea_nil))) (show 3 ≤ 1000 from by decide)) rfl)) (ev_callMo (i := 1) (ks := [true]) (ds := [(D.int (3 : Int))]) (R := R__law_next) rfl rfl ⟨_, rfl⟩ (ea_consP ev_int ea_nil) rfl ⟨ys15.2, (3 : Int), r16, hr16, rfl, rfl, rfl, rfl⟩) (rv_ixLm (f := D.int) (xs := ([(4 : Int), (40 : Int), (9999 : Int)] : List Int)) (v := x17) hx17)) ea_nil) rfl ⟨r16.2, x17, r18, hr18, rfl, rfl, rfl, rfl⟩) rv_add) (ev_callK (l := .l2) (ds := [(D.tup [(D.int r8.1.1), (D.tup (List.map (fun (z142 : (Int × Int × (List Int) × Int × Int)) => (D.tup [(D.int z142.1), (D.int z142.2.1), (D.tup (List.map D.int z142.2.2.1)), (D.int z142.2.2.2.1), (D.int z142.2.2.2.2)])) r8.1.2))])]) (R := R_act_times) (ek_A (ev_im rfl) ek_nil) ⟨r8.1, r19, hr19, rfl, rfl⟩))) ?_
    refine sj_env (env2 := ([.im (D.lst (List.map D.int a0)), .ow (D.lst [(D.lst (List.map D.int r18.2.1)), (D.int r18.2.2.1), (D.int r18.2.2.2.1), (D.int r18.2.2.2.2)]), .im (D.int x3), .im (D.tup [(D.int r8.1.1), (D.tup (List.map (fun (z143 : (Int × Int × (List Int) × Int × Int)) => (D.tup [(D.int z143.1), (D.int z143.2.1), (D.tup (List.map D.int z143.2.2.1)), (D.int z143.2.2.2.1), (D.int z143.2.2.2.2)])) r8.1.2))]), .im (D.tup (List.map D.int ys15.1)), .an, .an, .an, .im (D.int ((1 : Int) + r18.1)), .im (dkL (List.map (fun (z : Int × (Int × Int)) => ((Sum.inl z.1 : Key), (D.tup [(D.int z.2.1), (D.int z.2.2)]))) r19)), .an, .an, .an, .an, .an, .an] : List Bd)) (by kernel_rfl) ?_
    obtain ⟨r20, hr20, h⟩ := Option.bind_eq_some_iff.mp h
    refine sj_seq (sj_of (sd_asg (d := (D.lst (List.map D.int r20))) rfl (ev_callK (l := .l2) (ds := [(D.tup [(D.int r8.1.1), (D.tup (List.map (fun (z144 : (Int × Int × (List Int) × Int × Int)) => (D.tup [(D.int z144.1), (D.int z144.2.1), (D.tup (List.map D.int z144.2.2.1)), (D.int z144.2.2.2.1), (D.int z144.2.2.2.2)])) r8.1.2))]), (D.tup (List.map D.int ys15.1)), (D.int ((1 : Int) + r18.1))]) (R := R_memory_needs) (ek_A (ev_im rfl) (ek_A (ev_im rfl) (ek_A (ev_im rfl) ek_nil))) ⟨r8.1, ys15.1, ((1 : Int) + r18.1), r20, hr20, rfl, rfl⟩))) ?_
    refine sj_env (env2 := ([.im (D.lst (List.map D.int a0)), .ow (D.lst [(D.lst (List.map D.int r18.2.1)), (D.int r18.2.2.1), (D.int r18.2.2.2.1), (D.int r18.2.2.2.2)]), .im (D.int x3), .im (D.tup [(D.int r8.1.1), (D.tup (List.map (fun (z145 : (Int × Int × (List Int) × Int × Int)) => (D.tup [(D.int z145.1), (D.int z145.2.1), (D.tup (List.map D.int z145.2.2.1)), (D.int z145.2.2.2.1), (D.int z145.2.2.2.2)])) r8.1.2))]), .im (D.tup (List.map D.int ys15.1)), .im (D.lst (List.map D.int r20)), .an, .an, .im (D.int ((1 : Int) + r18.1)), .im (dkL (List.map (fun (z : Int × (Int × Int)) => ((Sum.inl z.1 : Key), (D.tup [(D.int z.2.1), (D.int z.2.2)]))) r19)), .an, .an, .an, .an, .an, .an] : List Bd)) (by kernel_rfl) ?_
    obtain ⟨x21, hx21, h⟩ := Option.bind_eq_some_iff.mp h
    obtain ⟨y40, hy40, h⟩ := Option.bind_eq_some_iff.mp h
    refine sj_wp' [6, 10, 13, 14, 11, 12, 15] (by kernel_rfl) (env2 := ([.im (D.lst (List.map D.int a0)), .ow (D.lst [(D.lst (List.map D.int r18.2.1)), (D.int r18.2.2.1), (D.int r18.2.2.2.1), (D.int r18.2.2.2.2)]), .im (D.int x3), .im (D.tup [(D.int r8.1.1), (D.tup (List.map (fun (z156 : (Int × Int × (List Int) × Int × Int)) => (D.tup [(D.int z156.1), (D.int z156.2.1), (D.tup (List.map D.int z156.2.2.1)), (D.int z156.2.2.2.1), (D.int z156.2.2.2.2)])) r8.1.2))]), .im (D.tup (List.map D.int ys15.1)), .im (D.lst (List.map D.int r20)), .an, .an, .im (D.int ((1 : Int) + r18.1)), .im (dkL (List.map (fun (z : Int × (Int × Int)) => ((Sum.inl z.1 : Key), (D.tup [(D.int z.2.1), (D.int z.2.2)]))) r19)), .an, .an, .an, .an, .an, .an] : List Bd)) (by kernel_rfl) ?_
    refine sj_seqZ (sj_of (sd_for (l := .l2) rfl (ei_rng1T (l' := .l2) hx21 (ea_consP (ev_opP (l := .l2) (ev_im rfl) ev_int (rv_ixTn 0 rfl)) ea_nil)) (loop_foldZ (en := D.int) (ev := fun (s23 : Unit) => ([.im (D.lst (List.map D.int a0)), .ow (D.lst [(D.lst (List.map D.int r18.2.1)), (D.int r18.2.2.1), (D.int r18.2.2.2.1), (D.int r18.2.2.2.2)]), .im (D.int x3), .im (D.tup [(D.int r8.1.1), (D.tup (List.map (fun (z155 : (Int × Int × (List Int) × Int × Int)) => (D.tup [(D.int z155.1), (D.int z155.2.1), (D.tup (List.map D.int z155.2.2.1)), (D.int z155.2.2.2.1), (D.int z155.2.2.2.2)])) r8.1.2))]), .im (D.tup (List.map D.int ys15.1)), .im (D.lst (List.map D.int r20)), .an, .an, .im (D.int ((1 : Int) + r18.1)), .im (dkL (List.map (fun (z : Int × (Int × Int)) => ((Sum.inl z.1 : Key), (D.tup [(D.int z.2.1), (D.int z.2.2)]))) r19)), .an, .an, .an, .an, .an, .an] : List Bd)) (fin := (fun (r : Bool) => Out.rx (D.bl r))) (fun _ => rfl) (fun x22 s23 z24 h => ?_) _ () _ hy40))) (fun _ => rfl) (fun y41 e => ?_) (fun y41 e => ?_)
    · refine sdt (tg_name rfl) ?_
      refine sd_seq (sd_asg (d := (D.int (0 : Int))) rfl ev_int) ?_
      refine sd_env (env2 := ([.im (D.lst (List.map D.int a0)), .ow (D.lst [(D.lst (List.map D.int r18.2.1)), (D.int r18.2.2.1), (D.int r18.2.2.2.1), (D.int r18.2.2.2.2)]), .im (D.int x3), .im (D.tup [(D.int r8.1.1), (D.tup (List.map (fun (z146 : (Int × Int × (List Int) × Int × Int)) => (D.tup [(D.int z146.1), (D.int z146.2.1), (D.tup (List.map D.int z146.2.2.1)), (D.int z146.2.2.2.1), (D.int z146.2.2.2.2)])) r8.1.2))]), .im (D.tup (List.map D.int ys15.1)), .im (D.lst (List.map D.int r20)), .im (D.int x22), .an, .im (D.int ((1 : Int) + r18.1)), .im (dkL (List.map (fun (z : Int × (Int × Int)) => ((Sum.inl z.1 : Key), (D.tup [(D.int z.2.1), (D.int z.2.2)]))) r19)), .im (D.int (0 : Int)), .an, .an, .an, .an, .an] : List Bd)) (by kernel_rfl) ?_
      refine sd_ifs (eb_B (l := .l2) (ev_dinKt (p := true) (l' := .l2) (f := (fun (z147 : (Int × Int)) => (D.tup [(D.int z147.1), (D.int z147.2)]))) (ev_im rfl) (ev_im rfl))) (fun hb => ?_) (fun hb => ?_)
      · replace h := ifT hb h
        refine sd_assoc ?_
        obtain ⟨x25, hx25, h⟩ := Option.bind_eq_some_iff.mp h
        refine sd_seq (sd_asgG (l := .l2) (d := (D.tup [(D.int x25.1), (D.int x25.2)])) (ev_dgetKt (f := (fun (z148 : (Int × Int)) => (D.tup [(D.int z148.1), (D.int z148.2)]))) (v := x25) hx25 (ev_im rfl) (ev_im rfl)) (tg_tup rfl (tgs_cons (tg_name rfl) (tgs_cons (tg_name rfl) tgs_nil)))) ?_
        refine sd_env (env2 := ([.im (D.lst (List.map D.int a0)), .ow (D.lst [(D.lst (List.map D.int r18.2.1)), (D.int r18.2.2.1), (D.int r18.2.2.2.1), (D.int r18.2.2.2.2)]), .im (D.int x3), .im (D.tup [(D.int r8.1.1), (D.tup (List.map (fun (z149 : (Int × Int × (List Int) × Int × Int)) => (D.tup [(D.int z149.1), (D.int z149.2.1), (D.tup (List.map D.int z149.2.2.1)), (D.int z149.2.2.2.1), (D.int z149.2.2.2.2)])) r8.1.2))]), .im (D.tup (List.map D.int ys15.1)), .im (D.lst (List.map D.int r20)), .im (D.int x22), .an, .im (D.int ((1 : Int) + r18.1)), .im (dkL (List.map (fun (z : Int × (Int × Int)) => ((Sum.inl z.1 : Key), (D.tup [(D.int z.2.1), (D.int z.2.2)]))) r19)), .im (D.int (0 : Int)), .an, .an, .im (D.int x25.1), .im (D.int x25.2), .an] : List Bd)) (by kernel_rfl) ?_
        refine sd_assoc ?_
        obtain ⟨x26, hx26, h⟩ := Option.bind_eq_some_iff.mp h
        obtain ⟨x27, hx27, h⟩ := Option.bind_eq_some_iff.mp h
        refine sd_seq (sd_asg (d := (D.int ((x25.2 + x26) + x27))) rfl (ev_opP (l := .l2) (ev_opP (l := .l2) (ev_im rfl) (ev_opP (l := .l2) (ev_im rfl) (ev_im rfl) (rv_ixTm (f := D.int) (xs := ys15.1) (v := x26) hx26)) rv_add) (ev_opP (l := .l2) ev_int (ev_im rfl) (rv_mul hx27)) rv_add)) ?_
        refine sd_env (env2 := ([.im (D.lst (List.map D.int a0)), .ow (D.lst [(D.lst (List.map D.int r18.2.1)), (D.int r18.2.2.1), (D.int r18.2.2.2.1), (D.int r18.2.2.2.2)]), .im (D.int x3), .im (D.tup [(D.int r8.1.1), (D.tup (List.map (fun (z150 : (Int × Int × (List Int) × Int × Int)) => (D.tup [(D.int z150.1), (D.int z150.2.1), (D.tup (List.map D.int z150.2.2.1)), (D.int z150.2.2.2.1), (D.int z150.2.2.2.2)])) r8.1.2))]), .im (D.tup (List.map D.int ys15.1)), .im (D.lst (List.map D.int r20)), .im (D.int x22), .an, .im (D.int ((1 : Int) + r18.1)), .im (dkL (List.map (fun (z : Int × (Int × Int)) => ((Sum.inl z.1 : Key), (D.tup [(D.int z.2.1), (D.int z.2.2)]))) r19)), .im (D.int (0 : Int)), .im (D.int ((x25.2 + x26) + x27)), .an, .im (D.int x25.1), .im (D.int x25.2), .an] : List Bd)) (by kernel_rfl) ?_
        obtain ⟨x28, hx28, h⟩ := Option.bind_eq_some_iff.mp h
        obtain ⟨y35, hy35, h⟩ := Option.bind_eq_some_iff.mp h
        refine sd_wp' [12, 15] (by kernel_rfl) (env2 := ([.im (D.lst (List.map D.int a0)), .ow (D.lst [(D.lst (List.map D.int r18.2.1)), (D.int r18.2.2.1), (D.int r18.2.2.2.1), (D.int r18.2.2.2.2)]), .im (D.int x3), .im (D.tup [(D.int r8.1.1), (D.tup (List.map (fun (z153 : (Int × Int × (List Int) × Int × Int)) => (D.tup [(D.int z153.1), (D.int z153.2.1), (D.tup (List.map D.int z153.2.2.1)), (D.int z153.2.2.2.1), (D.int z153.2.2.2.2)])) r8.1.2))]), .im (D.tup (List.map D.int ys15.1)), .im (D.lst (List.map D.int r20)), .im (D.int x22), .an, .im (D.int ((1 : Int) + r18.1)), .im (dkL (List.map (fun (z : Int × (Int × Int)) => ((Sum.inl z.1 : Key), (D.tup [(D.int z.2.1), (D.int z.2.2)]))) r19)), .im (D.int (0 : Int)), .im (D.int ((x25.2 + x26) + x27)), .an, .im (D.int x25.1), .im (D.int x25.2), .an] : List Bd)) (by kernel_rfl) ?_
        refine sd_seq (sd_for (l := .l2) (o := .nx ([.im (D.lst (List.map D.int a0)), .ow (D.lst [(D.lst (List.map D.int r18.2.1)), (D.int r18.2.2.1), (D.int r18.2.2.2.1), (D.int r18.2.2.2.2)]), .im (D.int x3), .im (D.tup [(D.int r8.1.1), (D.tup (List.map (fun (z154 : (Int × Int × (List Int) × Int × Int)) => (D.tup [(D.int z154.1), (D.int z154.2.1), (D.tup (List.map D.int z154.2.2.1)), (D.int z154.2.2.2.1), (D.int z154.2.2.2.2)])) r8.1.2))]), .im (D.tup (List.map D.int ys15.1)), .im (D.lst (List.map D.int r20)), .im (D.int x22), .an, .im (D.int ((1 : Int) + r18.1)), .im (dkL (List.map (fun (z : Int × (Int × Int)) => ((Sum.inl z.1 : Key), (D.tup [(D.int z.2.1), (D.int z.2.2)]))) r19)), .im (D.int y35), .im (D.int ((x25.2 + x26) + x27)), .an, .im (D.int x25.1), .im (D.int x25.2), .an] : List Bd)) rfl (ei_rng1T (l' := .l2) hx28 (ea_consP ev_int ea_nil)) (loop_foldN (en := D.int) (ev := fun (s30 : (Int)) => ([.im (D.lst (List.map D.int a0)), .ow (D.lst [(D.lst (List.map D.int r18.2.1)), (D.int r18.2.2.1), (D.int r18.2.2.2.1), (D.int r18.2.2.2.2)]), .im (D.int x3), .im (D.tup [(D.int r8.1.1), (D.tup (List.map (fun (z152 : (Int × Int × (List Int) × Int × Int)) => (D.tup [(D.int z152.1), (D.int z152.2.1), (D.tup (List.map D.int z152.2.2.1)), (D.int z152.2.2.2.1), (D.int z152.2.2.2.2)])) r8.1.2))]), .im (D.tup (List.map D.int ys15.1)), .im (D.lst (List.map D.int r20)), .im (D.int x22), .an, .im (D.int ((1 : Int) + r18.1)), .im (dkL (List.map (fun (z : Int × (Int × Int)) => ((Sum.inl z.1 : Key), (D.tup [(D.int z.2.1), (D.int z.2.2)]))) r19)), .im (D.int s30), .im (D.int ((x25.2 + x26) + x27)), .an, .im (D.int x25.1), .im (D.int x25.2), .an] : List Bd)) (fun x29 s30 z31 h => ?_) _ (0 : Int) y35 hy35)) ?_
        · refine sdt (tg_name rfl) ?_
          obtain ⟨x32, hx32, h⟩ := Option.bind_eq_some_iff.mp h
          refine sd_seq (sd_asg (d := (D.int x32)) rfl (ev_opP (l := .l2) (ev_im rfl) (ev_im rfl) (rv_mul hx32))) ?_
          refine sd_env (env2 := ([.im (D.lst (List.map D.int a0)), .ow (D.lst [(D.lst (List.map D.int r18.2.1)), (D.int r18.2.2.1), (D.int r18.2.2.2.1), (D.int r18.2.2.2.2)]), .im (D.int x3), .im (D.tup [(D.int r8.1.1), (D.tup (List.map (fun (z151 : (Int × Int × (List Int) × Int × Int)) => (D.tup [(D.int z151.1), (D.int z151.2.1), (D.tup (List.map D.int z151.2.2.1)), (D.int z151.2.2.2.1), (D.int z151.2.2.2.2)])) r8.1.2))]), .im (D.tup (List.map D.int ys15.1)), .im (D.lst (List.map D.int r20)), .im (D.int x22), .an, .im (D.int ((1 : Int) + r18.1)), .im (dkL (List.map (fun (z : Int × (Int × Int)) => ((Sum.inl z.1 : Key), (D.tup [(D.int z.2.1), (D.int z.2.2)]))) r19)), .im (D.int s30), .im (D.int ((x25.2 + x26) + x27)), .im (D.int x29), .im (D.int x25.1), .im (D.int x25.2), .im (D.int x32)] : List Bd)) (by kernel_rfl) ?_
          obtain ⟨c34, hc34, h⟩ := Option.bind_eq_some_iff.mp h
          have h := Option.some.inj h; subst h
          exact sd_endW [12, 15] (sd_asg (d := (D.int (s30 + (if c34 = true then (1 : Int) else 0)))) rfl (ev_opP (l := .l2) (ev_im rfl) (ev_cb (l := .l2) (ea_consP (ev_andW (c := c34) (l := .l2) (ev_opP (l := .l2) (ev_opP (l := .l2) (ev_im rfl) (ev_im rfl) rv_add) (ev_im rfl) rv_le) (fun hb => by have wc34 := ifT hb hc34; obtain ⟨x33, hx33, wc34⟩ := Option.bind_eq_some_iff.mp wc34; have wc34 := Option.some.inj wc34; subst wc34; exact (ev_opP (l := .l2) (ev_opP (l := .l2) (ev_opP (l := .l2) (ev_im rfl) (ev_im rfl) rv_add) (ev_opP (l := .l2) (ev_im rfl) (ev_im rfl) (rv_ixTm (f := D.int) (xs := ys15.1) (v := x33) hx33)) rv_add) (ev_im rfl) rv_ge)) (fun hb => by have wc34 := ifF hb hc34; exact (Option.some.inj wc34).symm)) ea_nil) rc_int_b) rv_add)) (by kernel_rfl) (by kernel_rfl)
        obtain ⟨c37, hc37, h⟩ := Option.bind_eq_some_iff.mp h
        refine sd_if (eb_andW (c := c37) (eb_test (l := .l2) (ev_opP (l := .l2) (ev_im rfl) ev_int rv_lt)) (fun hb => by have wc37 := ifT hb hc37; obtain ⟨x36, hx36, wc37⟩ := Option.bind_eq_some_iff.mp wc37; have wc37 := Option.some.inj wc37; subst wc37; exact (eb_test (l := .l2) (ev_opP (l := .l2) (ev_opP (l := .l2) (ev_im rfl) (ev_im rfl) (rv_ixLm (f := D.int) (xs := r20) (v := x36) hx36)) (ev_im rfl) rv_neI))) (fun hb => by have wc37 := ifF hb hc37; exact (Option.some.inj wc37).symm)) (fun hb => ?_) (fun hb => ?_)
        · replace h := ifT hb h
          have h := Option.some.inj h; subst h
          exact (sd_ret (d := (D.bl false)) ev_bl)
        · replace h := ifF hb h
          have h := Option.some.inj h; subst h
          exact sd_nextW [6, 10, 13, 14, 11, 12, 15] (by kernel_rfl) (by kernel_rfl)
      · replace h := ifF hb h
        refine sd_seqNext ?_
        obtain ⟨c39, hc39, h⟩ := Option.bind_eq_some_iff.mp h
        refine sd_if (eb_andW (c := c39) (eb_test (l := .l2) (ev_opP (l := .l2) (ev_im rfl) ev_int rv_lt)) (fun hb => by have wc39 := ifT hb hc39; obtain ⟨x38, hx38, wc39⟩ := Option.bind_eq_some_iff.mp wc39; have wc39 := Option.some.inj wc39; subst wc39; exact (eb_test (l := .l2) (ev_opP (l := .l2) (ev_opP (l := .l2) (ev_im rfl) (ev_im rfl) (rv_ixLm (f := D.int) (xs := r20) (v := x38) hx38)) (ev_im rfl) rv_neI))) (fun hb => by have wc39 := ifF hb hc39; exact (Option.some.inj wc39).symm)) (fun hb => ?_) (fun hb => ?_)
        · replace h := ifT hb h
          have h := Option.some.inj h; subst h
          exact (sd_ret (d := (D.bl false)) ev_bl)
        · replace h := ifF hb h
          have h := Option.some.inj h; subst h
          exact sd_nextW [6, 10, 13, 14, 11, 12, 15] (by kernel_rfl) (by kernel_rfl)
    · subst e; replace h : _ = _ := h
      obtain ⟨r42, hr42, h⟩ := Option.bind_eq_some_iff.mp h
      refine sj_seq (sj_of (sd_asg (d := r42.1) rfl (ev_callMo (i := 1) (ks := [true]) (ds := [(D.lst (List.map (fun (z : D) => z) ([(D.int (0 : Int)), (D.int (-(1 : Int))), (D.int (10000 : Int)), D.non, (D.bl true)] : List D)))]) (R := R__law_pick_d) rfl rfl ⟨_, rfl⟩ (ea_consP (ef_ev (ef_is (D.lst (List.map (fun (z : D) => z) ([(D.int (0 : Int)), (D.int (-(1 : Int))), (D.int (10000 : Int)), D.non, (D.bl true)] : List D))) (ef_lst (ea_consP (ev_is ev_int (show _ = (D.int (0 : Int)) from rfl)) (ea_consP (ev_is (ev_un (f := fun i => V.int (-i)) (e := D.int (-(1 : Int))) (l := .l2) ev_int (fun _ => rfl)) (show _ = (D.int (-(1 : Int))) from rfl)) (ea_consP (ev_is ev_int (show _ = (D.int (10000 : Int)) from rfl)) (ea_consP (ev_is ev_non (show _ = D.non from rfl)) (ea_consP (ev_is ev_bl (show _ = (D.bl true) from rfl)) ea_nil))))) (show 5 ≤ 1000 from by decide)) rfl)) ea_nil) rfl ⟨r18.2, ([(D.int (0 : Int)), (D.int (-(1 : Int))), (D.int (10000 : Int)), D.non, (D.bl true)] : List D), r42, hr42, rfl, rfl, rfl, rfl⟩))) ?_
      refine sj_env (env2 := ([.im (D.lst (List.map D.int a0)), .ow (D.lst [(D.lst (List.map D.int r42.2.1)), (D.int r42.2.2.1), (D.int r42.2.2.2.1), (D.int r42.2.2.2.2)]), .im (D.int x3), .im (D.tup [(D.int r8.1.1), (D.tup (List.map (fun (z157 : (Int × Int × (List Int) × Int × Int)) => (D.tup [(D.int z157.1), (D.int z157.2.1), (D.tup (List.map D.int z157.2.2.1)), (D.int z157.2.2.2.1), (D.int z157.2.2.2.2)])) r8.1.2))]), .im (D.tup (List.map D.int ys15.1)), .im (D.lst (List.map D.int r20)), .an, .im r42.1, .im (D.int ((1 : Int) + r18.1)), .im (dkL (List.map (fun (z : Int × (Int × Int)) => ((Sum.inl z.1 : Key), (D.tup [(D.int z.2.1), (D.int z.2.2)]))) r19)), .an, .an, .an, .an, .an, .an] : List Bd)) (by kernel_rfl) ?_
      obtain ⟨r43, hr43, h⟩ := Option.bind_eq_some_iff.mp h
      obtain ⟨r44, hr44, h⟩ := Option.bind_eq_some_iff.mp h
      obtain ⟨x45, hx45, h⟩ := Option.bind_eq_some_iff.mp h
      refine sj_if (ebj_test (l := .l2) (evj_op (l := .l2) (evj_told (ks := [true, true, true]) (ds := [(D.tup [(D.int r8.1.1), (D.tup (List.map (fun (z159 : (Int × Int × (List Int) × Int × Int)) => (D.tup [(D.int z159.1), (D.int z159.2.1), (D.tup (List.map D.int z159.2.2.1)), (D.int z159.2.2.2.1), (D.int z159.2.2.2.2)])) r8.1.2))]), (D.tup (List.map D.int ys15.1)), r42.1]) (R := R_memory_needs_x) (r := xD (fun (z158 : (List Int)) => (D.lst (List.map D.int z158))) r43) rfl (ea_consP (ev_im rfl) (ea_consP (ev_im rfl) (ea_consP (ev_im rfl) ea_nil))) ⟨r8.1, ys15.1, r42.1, r43, hr43, rfl, rfl⟩ (told_hd hr44)) (ev_is (ev_tup (ea_consP ev_str (ea_consP ev_str ea_nil)) (show 2 ≤ 1000 from by decide)) (show _ = (D.tup [(D.str ("error" : PySem.Str)), (D.str ("InvalidGap" : PySem.Str))]) from rfl)) (rv_neDO hx45))) (fun hb => ?_) (fun hb => ?_)
      · replace h := ifT hb h
        have h := Option.some.inj h; subst h
        exact sj_of ((sd_ret (d := (D.bl false)) ev_bl))
      · replace h := ifF hb h
        have h := Option.some.inj h; subst h
        exact sj_of (sd_nextW [2, 3, 4, 8, 9, 5, 6, 10, 13, 14, 11, 12, 15, 7] (by kernel_rfl) (by kernel_rfl))
    · subst e; have h := Option.some.inj h; subst h; rfl
  · subst e; replace h : _ = _ := h
    have h := Option.some.inj h; subst h
    exact sj_of ((sd_ret (d := (D.bl true)) ev_bl))
  · subst e; have h := Option.some.inj h; subst h; rfl
end
end K07
namespace K07
open PySem L2 Pw
abbrev Call := Int × Int × List Int × Int × Int
theorem modO_pos {i n : Int} (h : 0 < n) : modO i n = some (i % n) := by unfold modO; rw [if_pos h]
theorem divO_pos {i n : Int} (h : 0 < n) (h1 : n < 2 ^ 62) : divO i n = some (i / n) := by unfold divO; rw [if_pos ⟨h, h1⟩]
theorem mulO_small {i j : Int} (h : i.natAbs < 2 ^ 64) (h1 : j.natAbs < 2 ^ 64) : mulO i j = some (i * j) := by
  unfold mulO
  rw [if_pos ⟨Nat.lt_of_lt_of_le h (Nat.pow_le_pow_right (by decide) (by decide)), Nat.lt_of_lt_of_le h1 (Nat.pow_le_pow_right (by decide) (by decide))⟩]
theorem okL_small {n : Nat} (h : n < 100000) : okL n = some () := by unfold okL; rw [if_pos h]
def VO (os : List Int) : Prop := os ≠ [] ∧ os.length ≤ 4 ∧ os.Pairwise (· < ·) ∧ ∀ x ∈ os, 0 ≤ x ∧ x ≤ 99
structure VC (n : Int) (c : Call) : Prop where
  lo : 0 ≤ c.1
  lt : c.1 < c.2.1
  hi : c.2.1 < n
  os : VO c.2.2.1
  le : 0 ≤ c.2.2.2.1
  lm : c.2.2.2.1 ≤ c.2.2.2.2
  mo : c.2.2.2.2 ≤ 99
structure VS (s : Int × List Call) : Prop where
  n1 : 1 ≤ s.1
  n8 : s.1 ≤ 8
  cs : ∀ c ∈ s.2, VC s.1 c
  few : s.2.length ≤ 20
theorem rngO_small {lo hi : Int} (h1 : -1000 ≤ lo) (h2 : lo ≤ 1000) (h3 : -1000 ≤ hi) (h4 : hi ≤ 1000) : rngO lo hi = some (rng lo (hi - lo).toNat) := by
  unfold rngO
  rw [if_pos (by unfold inR; simp only [Bool.and_eq_true, decide_eq_true_eq]; omega)]
theorem compSL_ok {α β S : Type} (P : S → Prop) (B : β → Prop) {f : S → α → Option (Option β × S)} (h : ∀ s x, P s → ∃ b s', f s x = some (some b, s') ∧ P s' ∧ B b) :
    ∀ (xs : List α) s, P s → ∃ ys s', compSL f xs s = some (ys, s') ∧ P s' ∧ ys.length = xs.length ∧ ∀ y ∈ ys, B y
  | [], s, hs => ⟨[], s, rfl, hs, rfl, fun y hy => by cases hy⟩
  | x :: xs, s, hs => by
    obtain ⟨b, s1, e, h1, h2⟩ := h s x hs
    obtain ⟨ys, s2, e2, h3, h4, h5⟩ := compSL_ok P B h xs s1 h1
    refine ⟨b :: ys, s2, ?_, h3, by simp [h4], fun y hy => ?_⟩
    · show (f s x).bind _ = _
      rw [e]
      show (compSL f xs s1).bind _ = _
      rw [e2]
      rfl
    · cases hy with
      | head => exact h2
      | tail _ z => exact h5 y z
theorem ins_len (k : Int) : ∀ xs : List Int, (insI k xs).length ≤ xs.length + 1 ∧ insI k xs ≠ []
  | [] => by unfold insI; simp
  | x :: xs => by
    have := ins_len k xs
    unfold insI
    split
    · simp
    · split <;> simp <;> omega
theorem sset_len : ∀ xs : List Int, (ssetI xs).length ≤ xs.length ∧ (xs ≠ [] → ssetI xs ≠ [])
  | [] => ⟨Nat.le_refl _, fun h => absurd rfl h⟩
  | x :: xs => by
    have := (sset_len xs).1
    have := ins_len x (ssetI xs)
    unfold ssetI
    exact ⟨by simp; omega, fun _ => this.2⟩
theorem rng_len {lo : Int} {n : Nat} : (rng lo n).length = n := by unfold rng; simp
end K07
namespace K07
open PySem L2 Pw
theorem rng_at {α : Type} {n : Nat} {g : Int → α} {x : Int} (h0 : 0 ≤ x) (h1 : x < n) : atI ((rng 0 n).map g) x = some (g x) := by
  obtain ⟨k, rfl⟩ : ∃ k : Nat, x = (k : Int) := ⟨x.toNat, by omega⟩
  apply atI_nat
  unfold rng
  rw [List.getElem?_map, List.getElem?_map, List.getElem?_range (by omega)]
  show some (g (0 + (k : Int))) = _
  rw [Int.zero_add]
theorem fold_pres {α S : Type} {f : S → α → Option S} (P : S → Prop) : ∀ (xs : List α) (s s' : S), (∀ x ∈ xs, ∀ s s1, f s x = some s1 → P s → P s1) → xs.foldlM f s = some s' → P s → P s'
  | [], s, s', _, e, h => by cases e; exact h
  | x :: xs, s, s', st, e, h => by
    rw [List.foldlM_cons] at e
    obtain ⟨s1, e1, e2⟩ := Option.bind_eq_some_iff.mp e
    exact fold_pres P xs s1 s' (fun y hy => st y (by simp [hy])) e2 (st x (by simp) s s1 e1 h)
theorem fr_unit {α R : Type} {f : Unit → α → Option (Unit ⊕ R)} : ∀ xs : List α, (∀ x ∈ xs, f () x = some (.inl ())) → foldR f xs () = some (.inl ())
  | [], _ => rfl
  | x :: xs, h => by
    show (f () x).bind _ = _
    rw [h x (by simp)]
    exact fr_unit xs (fun y hy => h y (by simp [hy]))
theorem fr_inv {α S R : Type} {f : S → α → Option (S ⊕ R)} (I : S → Prop) : ∀ (xs : List α) (s : S), (∀ x ∈ xs, ∀ s, I s → ∃ s', f s x = some (.inl s') ∧ I s') → I s → ∃ s', foldR f xs s = some (.inl s') ∧ I s'
  | [], s, _, h => ⟨s, rfl, h⟩
  | x :: xs, s, st, h => by
    obtain ⟨s1, e1, i1⟩ := st x (by simp) s h
    obtain ⟨s2, e2, i2⟩ := fr_inv I xs s1 (fun y hy => st y (by simp [hy])) i1
    refine ⟨s2, ?_, i2⟩
    show (f s x).bind _ = _
    rw [e1]
    exact e2
theorem compL_none {α β : Type} {f : α → Option (Option β)} : ∀ xs : List α, (∀ x ∈ xs, f x = some none) → compL f xs = some []
  | [], _ => rfl
  | x :: xs, h => by
    show (f x).bind _ = _
    rw [h x (by simp)]
    show (compL f xs).bind _ = _
    rw [compL_none xs (fun y hy => h y (by simp [hy]))]
    rfl
theorem compO_none {α β : Type} {f : α → Option (Option β)} {xs : List α} (hl : xs.length ≤ 100000) (h : ∀ x ∈ xs, f x = some none) : compO f xs = some [] := by
  unfold compO
  rw [if_pos hl]
  exact compL_none xs h
theorem mem_rng {lo x : Int} {n : Nat} : x ∈ rng lo n ↔ lo ≤ x ∧ x < lo + (n : Int) := by
  unfold rng
  rw [List.mem_map]
  constructor
  · rintro ⟨i, hi, rfl⟩
    have := List.mem_range.mp hi
    omega
  · rintro ⟨h1, h2⟩
    obtain ⟨j, hj⟩ := Int.eq_ofNat_of_zero_le (show 0 ≤ x - lo by omega)
    exact ⟨j, List.mem_range.mpr (by omega), by omega⟩
theorem rng_get {lo : Int} {n i : Nat} (h : i < n) : (rng lo n)[i]? = some (lo + (i : Int)) := by
  unfold rng
  rw [List.getElem?_map, List.getElem?_range h]
  rfl
/-- atI within the list -/
theorem atI_in {α : Type} {xs : List α} {x : Int} (h0 : 0 ≤ x) (h1 : x < (xs.length : Int)) : ∃ v, atI xs x = some v ∧ v ∈ xs := by
  obtain ⟨k, rfl⟩ : ∃ k : Nat, x = (k : Int) := ⟨x.toNat, by omega⟩
  have hk : k < xs.length := by omega
  exact ⟨xs[k], atI_nat (List.getElem?_eq_getElem hk), List.getElem_mem hk⟩
theorem ixN_in {n : Nat} {x : Int} (h0 : 0 ≤ x) (h1 : x < (n : Int)) : ixN n x = some x.toNat := by
  obtain ⟨k, rfl⟩ : ∃ k : Nat, x = (k : Int) := ⟨x.toNat, by omega⟩
  have hk : k < n := by omega
  have := atI_nat (xs := List.range n) (j := k) (List.getElem?_range hk)
  unfold atI at this
  rw [List.length_range] at this
  obtain ⟨j, hj, e⟩ := Option.bind_eq_some_iff.mp this
  have : j = k := by
    have hl := (List.getElem?_eq_some_iff.mp e).1
    rw [List.length_range] at hl
    rw [List.getElem?_range hl] at e
    exact Option.some.inj e
  rw [hj, this]
  simp
theorem compO_filter {α β : Type} {f : α → Option (Option β)} {c : α → Bool} {g : α → β} {xs : List α} (hl : xs.length ≤ 100000) (h : ∀ x ∈ xs, f x = some (if c x = true then some (g x) else none)) : compO f xs = some ((xs.filter c).map g) := by
  unfold compO
  rw [if_pos hl]
  clear hl
  induction xs with
  | nil => rfl
  | cons x xs ih =>
    show (f x).bind _ = _
    rw [h x (by simp), Option.bind_some]
    show (compL f xs).bind _ = _
    rw [ih (fun y hy => h y (by simp [hy])), Option.bind_some, List.filter_cons]
    cases c x <;> rfl
theorem foldlM_app {α β : Type} {f : List β → α → Option (List β)} {c : α → Bool} {g : α → β} : ∀ (xs : List α) (acc : List β), (∀ x ∈ xs, ∀ acc, acc.length < 50000 → f acc x = some (if c x = true then acc ++ [g x] else acc)) → acc.length + xs.length < 50000 → xs.foldlM f acc = some (acc ++ (xs.filter c).map g)
  | [], acc, _, _ => by simp
  | x :: xs, acc, h, hl => by
    simp only [List.length_cons] at hl
    rw [List.foldlM_cons, h x (by simp) acc (by omega)]
    show xs.foldlM f (if c x = true then acc ++ [g x] else acc) = _
    rw [List.filter_cons]
    by_cases e : c x = true
    · rw [if_pos e, if_pos e, foldlM_app xs _ (fun y hy => h y (by simp [hy])) (by simp; omega)]
      simp
    · rw [if_neg e, if_neg e, foldlM_app xs _ (fun y hy => h y (by simp [hy])) (by omega)]
theorem maxI_spec2 {ns : List Int} (h : ns ≠ []) : ∃ m, maxI ns = some m ∧ m ∈ ns ∧ ∀ y ∈ ns, y ≤ m := by
  cases ns with
  | nil => exact absurd rfl h
  | cons x r =>
    have e : maxI (x :: r) = some (r.foldl (fun a b => if a < b then b else a) x) := rfl
    exact ⟨_, e, maxI_spec e⟩
theorem maxI_is {xs : List Int} {m : Int} (h1 : m ∈ xs) (h2 : ∀ y ∈ xs, y ≤ m) : maxI xs = some m := by
  obtain ⟨k, e, h3, h4⟩ := maxI_spec2 (ns := xs) fun z => by rw [z] at h1; cases h1
  have := h2 k h3
  have := h4 m h1
  rw [e, show k = m by omega]
end K07
namespace K07
open PySem L2 Pw
theorem within_ok {a l h : Int} : m_is_number_within a l h = some (decide (l ≤ a) && decide (a ≤ h)) := by
  unfold m_is_number_within m_is_number
  rw [Option.bind_some]
  rfl
theorem within_yes {a l h : Int} (h1 : l ≤ a) (h2 : a ≤ h) : m_is_number_within a l h = some true := by
  rw [within_ok, decide_eq_true h1, decide_eq_true h2]; rfl
theorem offs_fold : ∀ (xs : List Int) (lo : Int), xs.Pairwise (· < ·) → (∀ x ∈ xs, lo ≤ x ∧ x ≤ 99) → ∃ s, foldR (fun (s2 : (Int)) (x1 : Int) => (m_is_number_within x1 s2 (99 : Int)).bind fun r4 => if (!r4) = true then (some (.inr false)) else (some (.inl (x1 + (1 : Int))))) xs lo = some (.inl s : Int ⊕ Bool)
  | [], lo, _, _ => ⟨lo, rfl⟩
  | x :: xs, lo, hp, hb => by
    have h1 := hb x (List.mem_cons_self ..)
    have hp' := List.pairwise_cons.mp hp
    obtain ⟨s, e⟩ := offs_fold xs (x + 1) hp'.2 fun y hy => ⟨hp'.1 y hy, (hb y (List.mem_cons_of_mem _ hy)).2⟩
    refine ⟨s, ?_⟩
    unfold foldR
    rw [within_yes h1.1 h1.2]
    exact e
theorem offsets_yes {os : List Int} (h : VO os) : m_are_offsets os = some true := by
  obtain ⟨h1, h2, h3, h4⟩ := h
  unfold m_are_offsets
  have l1 : (1 : Int) ≤ (os.length : Int) := by
    cases os with
    | nil => exact absurd rfl h1
    | cons a b => simp; omega
  have l2 : (os.length : Int) ≤ 4 := by omega
  rw [decide_eq_true l1, decide_eq_true l2]
  obtain ⟨s, e⟩ := offs_fold os 0 h3 h4
  rw [if_neg (by decide), e]
  rfl
theorem call_yes {n : Int} {c : Call} (h : VC n c) : m_is_call c n = some true := by
  have := h.lo; have := h.lt; have := h.hi; have := h.le; have := h.lm; have := h.mo
  unfold m_is_call
  rw [if_neg (by decide), within_yes (by omega) (by omega), Option.bind_some, if_pos rfl, within_yes (by omega) (by omega), Option.bind_some, if_pos rfl, offsets_yes h.os, Option.bind_some, if_pos rfl, within_yes (by omega) (by omega), Option.bind_some, if_pos rfl, within_yes (by omega) (by omega)]
  rfl
theorem mem_enum {α : Type} {xs : List α} {p : Int × α} : p ∈ enumT xs ↔ ∃ j : Nat, xs[j]? = some p.2 ∧ p.1 = (j : Int) := by
  unfold enumT
  rw [List.mem_mapIdx]
  constructor
  · rintro ⟨i, hi, e⟩
    exact ⟨i, by rw [← e]; exact List.getElem?_eq_getElem hi, by rw [← e]⟩
  · rintro ⟨j, h1, h2⟩
    obtain ⟨hj, e⟩ := List.getElem?_eq_some_iff.mp h1
    exact ⟨j, hj, by rw [e, ← h2]⟩
theorem enum_len {α : Type} {xs : List α} : (enumT xs).length = xs.length := by unfold enumT; simp
theorem fold_unit {α : Type} {f : Unit → α → Option Unit} : ∀ (xs : List α), (∀ x ∈ xs, f () x = some ()) → xs.foldlM f () = some ()
  | [], _ => rfl
  | x :: xs, h => by
    rw [List.foldlM_cons, h x (List.mem_cons_self ..)]
    exact fold_unit xs fun y hy => h y (List.mem_cons_of_mem _ hy)
theorem check_ok {s : Int × List Call} (h : VS s) : m_check_system s = some () := by
  have := h.n1; have := h.n8; have := h.few
  unfold m_check_system
  rw [if_neg (by decide), within_yes h.n1 h.n8, Option.bind_some, if_neg (by decide), if_neg (by decide)]
  rw [fold_unit (enumT s.2) (fun p hp => by
    obtain ⟨j, h1, h2⟩ := mem_enum.mp hp
    obtain ⟨hj, _⟩ := List.getElem?_eq_some_iff.mp h1
    have hc : ¬ (20 : Int) ≤ p.1 := by omega
    rw [decide_eq_false hc, if_neg (by decide), call_yes (h.cs _ (List.mem_of_getElem? h1))]
    rfl)]
  rfl
/-! ### who is reached -/
theorem compL_if {α β : Type} (c : α → Bool) (g : α → β) : ∀ xs : List α, compL (fun x => if c x = true then some (some (g x)) else some none) xs = some (xs.filterMap fun x => if c x = true then some (g x) else none)
  | [] => rfl
  | x :: xs => by
    unfold compL
    rw [compL_if c g xs, List.filterMap_cons]
    cases c x <;> rfl
theorem compO_if {α β : Type} (c : α → Bool) (g : α → β) (xs : List α) (h : xs.length ≤ 100000) : compO (fun x => if c x = true then some (some (g x)) else some none) xs = some (xs.filterMap fun x => if c x = true then some (g x) else none) := by
  unfold compO
  rw [if_pos h]
  exact compL_if c g xs
def idx (cs : List Call) (rs : List Int) (t : Int) : List Int := (enumT cs).filterMap fun x1 => if ((decide (x1.2.1 ∈ rs)) && (decide (x1.2.2.1 = t))) = true then some x1.1 else none
theorem calls_ok {cs : List Call} {rs : List Int} {t : Int} (h : cs.length ≤ 20) : m_calls_to cs rs t = some (idx cs rs t) := by
  unfold m_calls_to
  rw [compO_if (fun x1 : Int × Call => ((decide (x1.2.1 ∈ rs)) && (decide (x1.2.2.1 = t)))) (fun x1 => x1.1) (enumT cs) (by rw [enum_len]; omega)]
  rfl
theorem mem_idx {cs : List Call} {rs : List Int} {t i : Int} : i ∈ idx cs rs t ↔ ∃ (j : Nat) (c : Call), i = (j : Int) ∧ cs[j]? = some c ∧ c.1 ∈ rs ∧ c.2.1 = t := by
  unfold idx
  rw [List.mem_filterMap]
  constructor
  · rintro ⟨p, hp, e⟩
    obtain ⟨j, h1, h2⟩ := mem_enum.mp hp
    by_cases c : ((decide (p.2.1 ∈ rs)) && (decide (p.2.2.1 = t))) = true
    · rw [if_pos c] at e
      have c' := Bool.and_eq_true_iff.mp c
      exact ⟨j, p.2, by rw [← Option.some.inj e, h2], h1, of_decide_eq_true c'.1, of_decide_eq_true c'.2⟩
    · rw [if_neg c] at e; cases e
  · rintro ⟨j, c, h1, h2, h3, h4⟩
    refine ⟨((j : Int), c), mem_enum.mpr ⟨j, h2, rfl⟩, ?_⟩
    rw [if_pos (by rw [decide_eq_true h3, decide_eq_true h4]; rfl), h1]
theorem idx_len {cs : List Call} {rs : List Int} {t : Int} (h : cs.length ≤ 20) : (idx cs rs t).length ≤ 20 := by
  unfold idx
  exact Nat.le_trans (List.length_filterMap_le _ _) (by rw [enum_len]; exact h)
def F (cs : List Call) (rs : List Int) (t : Int) : List Int := if (!List.isEmpty (idx cs rs t)) = true then rs ++ [t] else rs
theorem F_len {cs : List Call} {rs : List Int} {t : Int} : (F cs rs t).length ≤ rs.length + 1 := by
  unfold F; split <;> simp
theorem rng_succ {lo : Int} {n : Nat} : rng lo (n + 1) = lo :: rng (lo + 1) n := by
  unfold rng
  rw [List.range_succ_eq_map, List.map_cons, List.map_map]
  congr 1
  · simp
  · apply List.map_congr_left
    intro i _
    show lo + ((i + 1 : Nat) : Int) = lo + 1 + (i : Int)
    omega
theorem reach_fold {cs : List Call} (h : cs.length ≤ 20) : ∀ (xs rs : List Int), rs.length + xs.length ≤ 100 → xs.foldlM (fun (s4 : ((List Int))) (x3 : Int) => (m_calls_to cs s4 x3).bind fun r6 => if (!List.isEmpty r6) = true then ((okL (List.length s4)).bind fun x7 => some (s4 ++ [x3])) else (some s4)) rs = some (xs.foldl (F cs) rs)
  | [], rs, _ => rfl
  | x :: xs, rs, hl => by
    rw [List.foldlM_cons, calls_ok h, Option.bind_some, okL_small (by simp at hl; omega)]
    have ih := reach_fold h xs (F cs rs x) (by have := F_len (cs := cs) (rs := rs) (t := x); simp at hl ⊢; omega)
    rw [List.foldl_cons]
    by_cases c : (!List.isEmpty (idx cs rs x)) = true
    · have e2 : F cs rs x = rs ++ [x] := by unfold F; rw [if_pos c]
      rw [e2] at ih ⊢
      rw [if_pos c]
      exact ih
    · have e2 : F cs rs x = rs := by unfold F; rw [if_neg c]
      rw [e2] at ih ⊢
      rw [if_neg c]
      exact ih
def RS (s : Int × List Call) : List Int := (rng 1 (s.1 - 1).toNat).foldl (F s.2) [0]
theorem reach_ok {s : Int × List Call} (h : VS s) : m_reachable_services s = some (RS s) := by
  have := h.n1; have := h.n8
  unfold m_reachable_services
  rw [check_ok h, Option.bind_some, rngO_small (by decide) (by decide) (by omega) (by omega), Option.bind_some, reach_fold h.few _ _ (by rw [rng_len]; simp; omega)]
  rfl
theorem isE {α : Type} {xs : List α} : (!List.isEmpty xs) = true ↔ ∃ x, x ∈ xs := by
  cases xs with
  | nil => simp
  | cons a b => simp
structure RI (cs : List Call) (t : Int) (rs : List Int) : Prop where
  up : rs.Pairwise (· < ·)
  z : 0 ∈ rs
  bd : ∀ x ∈ rs, 0 ≤ x ∧ x < t
  fed : ∀ x ∈ rs, x ≠ 0 → ∃ (j : Nat) (c : Call), cs[j]? = some c ∧ c.1 ∈ rs ∧ c.2.1 = x
theorem RI.step {cs : List Call} {t : Int} {rs : List Int} (h : RI cs t rs) (ht : 0 ≤ t) : RI cs (t + 1) (F cs rs t) := by
  unfold F
  by_cases c : (!List.isEmpty (idx cs rs t)) = true
  · rw [if_pos c]
    refine ⟨?_, List.mem_append_left _ h.z, fun x hx => ?_, fun x hx h0 => ?_⟩
    · rw [List.pairwise_append]
      exact ⟨h.up, List.pairwise_singleton .., fun a ha b hb => by rw [List.mem_singleton.mp hb]; exact (h.bd a ha).2⟩
    · rcases List.mem_append.mp hx with z | z
      · have := h.bd x z; omega
      · rw [List.mem_singleton.mp z]; omega
    · rcases List.mem_append.mp hx with z | z
      · obtain ⟨j, c, h1, h2, h3⟩ := h.fed x z h0
        exact ⟨j, c, h1, List.mem_append_left _ h2, h3⟩
      · obtain ⟨i, hi⟩ := isE.mp c
        obtain ⟨j, c, _, h1, h2, h3⟩ := mem_idx.mp hi
        exact ⟨j, c, h1, List.mem_append_left _ h2, by rw [h3, List.mem_singleton.mp z]⟩
  · rw [if_neg c]
    exact ⟨h.up, h.z, fun x hx => by have := h.bd x hx; omega, h.fed⟩
theorem RI.fold {cs : List Call} : ∀ (n : Nat) (t : Int) (rs : List Int), RI cs t rs → 0 ≤ t → RI cs (t + n) ((rng t n).foldl (F cs) rs)
  | 0, t, rs, h, _ => by
    have : rng t 0 = [] := rfl
    rw [this]
    simpa using h
  | n + 1, t, rs, h, ht => by
    rw [rng_succ, List.foldl_cons]
    have := RI.fold n (t + 1) (F cs rs t) (h.step ht) (by omega)
    rw [show t + ((n + 1 : Nat) : Int) = t + 1 + (n : Int) by omega]
    exact this
theorem RS_ok {s : Int × List Call} (h : VS s) : RI s.2 s.1 (RS s) := by
  have := h.n1
  have := RI.fold (cs := s.2) (s.1 - 1).toNat 1 [0] ⟨List.pairwise_singleton .., List.mem_singleton.mpr rfl, fun x hx => by rw [List.mem_singleton.mp hx]; omega, fun x hx h0 => absurd (List.mem_singleton.mp hx) h0⟩ (by decide)
  rw [show (1 : Int) + ((s.1 - 1).toNat : Int) = s.1 by omega] at this
  exact this
theorem up_len : ∀ (xs : List Int) (n : Nat), xs.Pairwise (· < ·) → (∀ x ∈ xs, 0 ≤ x ∧ x < (n : Int)) → xs.length ≤ n := by
  intro xs n hp hb
  have key : ∀ (xs : List Int) (lo : Int), xs.Pairwise (· < ·) → (∀ x ∈ xs, lo ≤ x ∧ x < (n : Int)) → xs ≠ [] → lo + (xs.length : Int) ≤ n := by
    intro xs
    induction xs with
    | nil => exact fun _ _ _ h => absurd rfl h
    | cons x xs ih =>
      intro lo hp hb _
      have hx := hb x (List.mem_cons_self ..)
      have hp' := List.pairwise_cons.mp hp
      cases xs with
      | nil => simp; omega
      | cons y ys =>
        have := ih (x + 1) hp'.2 (fun y hy => ⟨hp'.1 y hy, (hb y (List.mem_cons_of_mem _ hy)).2⟩) (by simp)
        simp at this ⊢
        omega
  cases xs with
  | nil => simp
  | cons x xs =>
    have := key (x :: xs) 0 hp hb (by simp)
    omega
theorem RS_len {s : Int × List Call} (h : VS s) : (RS s).length ≤ 8 := by
  have := h.n8
  exact up_len _ 8 (RS_ok h).up fun x hx => by have := (RS_ok h).bd x hx; omega
end K07
namespace K07
open PySem L2 Pw
abbrev Tab := List (List Int × (Int × Option Int))
theorem putA_len2 {κ α : Type} [DecidableEq κ] {l : List (κ × α)} {k : κ} {v : α} : (putA l k v).length ≤ l.length + 1 := putA_len
theorem getA_app {κ α : Type} [DecidableEq κ] {l : List (κ × α)} {k k' : κ} {v : α} : getA (l ++ [(k, v)]) k' = match getA l k' with | some x => some x | none => if k = k' then some v else none := by
  unfold getA
  rw [List.find?_append]
  cases h : l.find? (fun kv => decide (kv.1 = k')) with
  | some x => rfl
  | none =>
    by_cases e : k = k'
    · simp [e]
    · simp [e]
theorem getA_none {κ α : Type} [DecidableEq κ] {l : List (κ × α)} {k : κ} (h : ¬ (l.any fun kv => decide (kv.1 = k)) = true) : getA l k = none := by
  unfold getA
  rw [show l.find? (fun kv => decide (kv.1 = k)) = none by
    rw [List.find?_eq_none]
    intro x hx
    intro z
    exact h (List.any_eq_true.mpr ⟨x, hx, z⟩)]
  rfl
theorem getA_rep {κ α : Type} [DecidableEq κ] {k : κ} {v : α} : ∀ l : List (κ × α), ((l.any fun kv => decide (kv.1 = k)) = true → getA (l.map fun z => if z.1 = k then (z.1, v) else z) k = some v) ∧ ∀ k', k' ≠ k → getA (l.map fun z => if z.1 = k then (z.1, v) else z) k' = getA l k'
  | [] => ⟨fun h => by simp at h, fun _ _ => rfl⟩
  | a :: l => by
    have ih := getA_rep (k := k) (v := v) l
    unfold getA at ih ⊢
    by_cases e : a.1 = k
    · refine ⟨fun _ => ?_, fun k' h => ?_⟩
      · rw [List.map_cons, if_pos e, List.find?_cons]
        rw [show decide ((a.1, v).1 = k) = true from decide_eq_true e]
        rfl
      · have e1 : ¬ a.1 = k' := fun z => h (by rw [← z, e])
        rw [List.map_cons, if_pos e, List.find?_cons, List.find?_cons, decide_eq_false e1]
        exact ih.2 k' h
    · refine ⟨fun h => ?_, fun k' h => ?_⟩
      · rw [List.map_cons, if_neg e, List.find?_cons, decide_eq_false e]
        exact ih.1 (by rw [List.any_cons, decide_eq_false e] at h; exact h)
      · rw [List.map_cons, if_neg e, List.find?_cons, List.find?_cons]
        cases decide (a.1 = k') with
        | true => rfl
        | false => exact ih.2 k' h
theorem get_put {κ α : Type} [DecidableEq κ] {l : List (κ × α)} {k : κ} {v : α} : getA (putA l k v) k = some v := by
  unfold putA
  by_cases h : (l.any fun kv => decide (kv.1 = k)) = true
  · rw [if_pos h]; exact (getA_rep l).1 h
  · rw [if_neg h, getA_app, getA_none h]; simp
theorem get_put_ne {κ α : Type} [DecidableEq κ] {l : List (κ × α)} {k k' : κ} {v : α} (e : k' ≠ k) : getA (putA l k v) k' = getA l k' := by
  unfold putA
  by_cases h : (l.any fun kv => decide (kv.1 = k)) = true
  · rw [if_pos h]; exact (getA_rep l).2 k' e
  · rw [if_neg h, getA_app]
    cases getA l k' with
    | some x => rfl
    | none => simp [Ne.symm e]
theorem compL_all {α β : Type} {f : α → Option (Option β)} {B : α → β → Prop} : ∀ xs : List α, (∀ x ∈ xs, ∃ b, f x = some (some b) ∧ B x b) → ∃ ys, compL f xs = some ys ∧ ys.length = xs.length ∧ (∀ y ∈ ys, ∃ x ∈ xs, B x y) ∧ ∀ x ∈ xs, ∃ y ∈ ys, B x y
  | [], _ => ⟨[], rfl, rfl, (fun y hy => by cases hy), fun y hy => by cases hy⟩
  | x :: xs, h => by
    obtain ⟨b, e, hb⟩ := h x (List.mem_cons_self ..)
    obtain ⟨ys, e2, l2, h2, h3⟩ := compL_all xs fun y hy => h y (List.mem_cons_of_mem _ hy)
    refine ⟨b :: ys, ?_, by simp [l2], fun y hy => ?_, fun z hz => ?_⟩
    · unfold compL
      rw [e, Option.bind_some, e2]
      rfl
    · cases hy with
      | head => exact ⟨x, List.mem_cons_self .., hb⟩
      | tail _ z =>
        obtain ⟨x', h3, h4⟩ := h2 y z
        exact ⟨x', List.mem_cons_of_mem _ h3, h4⟩
    · cases hz with
      | head => exact ⟨b, List.mem_cons_self .., hb⟩
      | tail _ z' =>
        obtain ⟨y', g3, g4⟩ := h3 z z'
        exact ⟨y', List.mem_cons_of_mem _ g3, g4⟩
theorem compO_all {α β : Type} {f : α → Option (Option β)} {B : α → β → Prop} (xs : List α) (hl : xs.length ≤ 100000) (h : ∀ x ∈ xs, ∃ b, f x = some (some b) ∧ B x b) : ∃ ys, compO f xs = some ys ∧ ys.length = xs.length ∧ (∀ y ∈ ys, ∃ x ∈ xs, B x y) ∧ ∀ x ∈ xs, ∃ y ∈ ys, B x y := by
  unfold compO
  rw [if_pos hl]
  exact compL_all xs h
theorem maxT_mem {α : Type} (key : α → List Int) : ∀ (r : List α) (x : α), maxT key x r ∈ x :: r
  | [], x => List.mem_cons_self ..
  | y :: r, x => by
    unfold maxT
    rw [List.foldl_cons]
    have := maxT_mem key r (if lexI (key x) (key y) = true then y else x)
    unfold maxT at this
    cases List.mem_cons.mp this with
    | inl z =>
      rw [z]
      split
      · simp
      · simp
    | inr z => exact List.mem_cons_of_mem _ (List.mem_cons_of_mem _ z)
theorem maxO_mem {α : Type} (key : α → List Int) {xs : List α} (h : 0 < xs.length) : ∃ m, maxO key xs = some m ∧ m ∈ xs := by
  cases xs with
  | nil => cases h
  | cons x r => exact ⟨_, rfl, maxT_mem key r x⟩
theorem lex_le {a b c d : Int} (h : lexI [a, b] [c, d] = true) : a ≤ c := by
  unfold lexI at h
  by_cases q : a = c
  · omega
  · rw [if_neg q] at h
    have := of_decide_eq_true h
    omega
theorem lex_ge {a b c d : Int} (h : ¬ lexI [a, b] [c, d] = true) : c ≤ a := by
  unfold lexI at h
  by_cases q : a = c
  · omega
  · rw [if_neg q] at h
    have : ¬ a < c := fun z => h (decide_eq_true z)
    omega
theorem maxT_ge {α : Type} {f g : α → Int} : ∀ (r : List α) (x : α), ∀ y ∈ x :: r, f y ≤ f (maxT (fun k => [f k, g k]) x r)
  | [], x, y, hy => by
    rw [List.mem_singleton.mp hy]; exact Int.le_refl _
  | z :: r, x, y, hy => by
    unfold maxT
    rw [List.foldl_cons]
    have ih := maxT_ge (f := f) (g := g) r (if lexI [f x, g x] [f z, g z] = true then z else x)
    unfold maxT at ih
    have h0 := ih _ (List.mem_cons_self ..)
    rcases List.mem_cons.mp hy with e | e
    · rw [e]
      refine Int.le_trans ?_ h0
      split
      · rename_i q; exact lex_le q
      · exact Int.le_refl _
    · rcases List.mem_cons.mp e with e | e
      · rw [e]
        refine Int.le_trans ?_ h0
        split
        · exact Int.le_refl _
        · rename_i q; exact lex_ge q
      · exact ih y (List.mem_cons_of_mem _ e)
theorem maxO_ge {α : Type} {f g : α → Int} {xs : List α} {m : α} (h : maxO (fun k => [f k, g k]) xs = some m) : ∀ y ∈ xs, f y ≤ f m := by
  cases xs with
  | nil => cases h
  | cons x r =>
    have h : some (maxT (fun k => [f k, g k]) x r) = some m := h
    cases h
    exact maxT_ge r x
def late (c : Call) : Int := (atI c.2.2.1 ((c.2.2.1.length : Int) - 1)).getD 0 + c.2.2.2.2
def early (c : Call) : Int := (atI c.2.2.1 0).getD 0 + c.2.2.2.1
theorem late_ok {n : Int} {c : Call} (h : VC n c) : ∃ o, atI c.2.2.1 ((c.2.2.1.length : Int) - 1) = some o ∧ 0 ≤ o ∧ o ≤ 99 ∧ late c = o + c.2.2.2.2 ∧ m_longest_way c = some (late c) := by
  obtain ⟨h1, h2, h3, h4⟩ := h.os
  have hl : 0 < c.2.2.1.length := List.length_pos_iff.mpr h1
  have hj : c.2.2.1[c.2.2.1.length - 1]? = some c.2.2.1[c.2.2.1.length - 1] := List.getElem?_eq_getElem (by omega)
  have e1 : atI c.2.2.1 ((c.2.2.1.length : Int) - 1) = some c.2.2.1[c.2.2.1.length - 1] := by
    rw [show (c.2.2.1.length : Int) - 1 = ((c.2.2.1.length - 1 : Nat) : Int) by omega]
    exact atI_nat hj
  have e2 : atI c.2.2.1 (-(1 : Int)) = some c.2.2.1[c.2.2.1.length - 1] := by
    have e3 : ixN c.2.2.1.length (-(1 : Int)) = some (c.2.2.1.length - 1) := by
      unfold ixN
      rw [if_neg (by omega), if_pos (by omega)]
      congr 1
      omega
    unfold atI
    rw [e3]
    exact hj
  have hb := h4 _ (List.mem_of_getElem? hj)
  refine ⟨_, e1, hb.1, hb.2, ?_, ?_⟩
  · unfold late; rw [e1]; rfl
  · unfold m_longest_way late
    rw [e2, e1]; rfl
theorem early_ok {n : Int} {c : Call} (h : VC n c) : ∃ o, atI c.2.2.1 0 = some o ∧ 0 ≤ o ∧ o ≤ 99 ∧ early c = o + c.2.2.2.1 ∧ m_shortest_way c = some (early c) := by
  obtain ⟨h1, h2, h3, h4⟩ := h.os
  have hl : 0 < c.2.2.1.length := List.length_pos_iff.mpr h1
  have hj : c.2.2.1[0]? = some c.2.2.1[0] := List.getElem?_eq_getElem hl
  have e1 : atI c.2.2.1 0 = some c.2.2.1[0] := atI_nat (j := 0) hj
  have hb := h4 _ (List.mem_of_getElem? hj)
  refine ⟨_, e1, hb.1, hb.2, ?_, ?_⟩
  · unfold early; rw [e1]; rfl
  · unfold m_shortest_way early
    rw [e1]; rfl
/-- an entry of the table, the message that it is made by, and that no other is better -/
structure Best (cs : List Call) (rs : List Int) (P : Int → Prop) (T : Tab) (a b : Int) : Prop where
  eq : a = b → getA T [a, b] = some (0, none)
  ne : a ≠ b → ∃ (v : Int) (j : Nat) (c : Call), getA T [a, b] = some (v, some (j : Int)) ∧ cs[j]? = some c ∧ P c.1 ∧ c.2.1 = max a b ∧
    (b < a → ∃ w k, getA T [c.1, b] = some (w, k) ∧ v = w + late c) ∧ (a < b → ∃ w k, getA T [a, c.1] = some (w, k) ∧ v = w - early c) ∧
    ∀ c' ∈ cs, c'.1 ∈ rs → c'.2.1 = max a b → (b < a → ∃ w k, getA T [c'.1, b] = some (w, k) ∧ w + late c' ≤ v) ∧ (a < b → ∃ w k, getA T [a, c'.1] = some (w, k) ∧ w - early c' ≤ v)
theorem Best.some {cs : List Call} {rs : List Int} {P : Int → Prop} {T : Tab} {a b : Int} (h : Best cs rs P T a b) : ∃ x, getA T [a, b] = some x := by
  by_cases e : a = b
  · exact ⟨_, h.eq e⟩
  · obtain ⟨v, j, c, h1, _⟩ := h.ne e
    exact ⟨_, h1⟩
theorem Best.keep {n : Int} {cs : List Call} {rs : List Int} {P P' : Int → Prop} {T T' : Tab} {a b : Int} (hv : ∀ c ∈ cs, VC n c) (h : Best cs rs P T a b) (hP : ∀ x, P x → P' x) (hr : ∀ x ∈ rs, x < max a b → P x) (h0 : getA T' [a, b] = getA T [a, b]) (h1 : b < a → ∀ x, P x → getA T' [x, b] = getA T [x, b]) (h2 : a < b → ∀ x, P x → getA T' [a, x] = getA T [a, x]) : Best cs rs P' T' a b := by
  refine ⟨fun e => by rw [h0]; exact h.eq e, fun e => ?_⟩
  obtain ⟨v, j, c, g1, g2, g3, g4, g5, g6, g7⟩ := h.ne e
  refine ⟨v, j, c, by rw [h0]; exact g1, g2, hP _ g3, g4, fun z => ?_, fun z => ?_, fun c' hc hc1 hc2 => ?_⟩
  · rw [h1 z _ g3]; exact g5 z
  · rw [h2 z _ g3]; exact g6 z
  · have hx : P c'.1 := hr _ hc1 (by have := (hv c' hc).lt; omega)
    obtain ⟨q1, q2⟩ := g7 c' hc hc1 hc2
    exact ⟨fun z => by rw [h1 z _ hx]; exact q1 z, fun z => by rw [h2 z _ hx]; exact q2 z⟩
theorem key_ne {a b c d : Int} (h : a ≠ c ∨ b ≠ d) : ([a, b] : List Int) ≠ [c, d] := fun e => by
  injection e with e1 e2
  injection e2 with e2 _
  rcases h with z | z
  · exact z e1
  · exact z e2
theorem idx_call {n : Int} {cs : List Call} {rs : List Int} {t i : Int} (h : i ∈ idx cs rs t) (hv : ∀ c ∈ cs, VC n c) : ∃ (j : Nat) (c : Call), i = (j : Int) ∧ cs[j]? = some c ∧ atI cs i = some c ∧ c.1 ∈ rs ∧ c.2.1 = t ∧ VC n c := by
  obtain ⟨j, c, h1, h2, h3, h4⟩ := mem_idx.mp h
  exact ⟨j, c, h1, h2, by rw [h1]; exact atI_nat h2, h3, h4, hv c (List.mem_of_getElem? h2)⟩
section
variable {n : Int} {cs : List Call} {rs : List Int} {s : Int} {T : Tab} {P : Int → Prop}
theorem late_ch (hv : ∀ c ∈ cs, VC n c) (hf : cs.length ≤ 20) {o : Int} (hP : ∀ x ∈ rs, x < s → P x) (hG : ∀ x, P x → ∃ y, getA T [x, o] = some y) : ∃ ys, m_late_choices cs (idx cs rs s) T o = some ys ∧ ys.length = (idx cs rs s).length ∧ (∀ y ∈ ys, ∃ (j : Nat) (c : Call) (w : Int) (k : Option Int), y.2 = (j : Int) ∧ cs[j]? = some c ∧ P c.1 ∧ c.2.1 = s ∧ getA T [c.1, o] = some (w, k) ∧ y.1 = w + late c) ∧ ∀ (j : Nat) (c : Call), cs[j]? = some c → c.1 ∈ rs → c.2.1 = s → ∃ y ∈ ys, ∃ w k, getA T [c.1, o] = some (w, k) ∧ y.1 = w + late c := by
  obtain ⟨ys, e, l, h, hb⟩ := compO_all (f := fun (x1 : Int) => (atI cs x1).bind fun x2 => (getA T [x2.1, o]).bind fun x3 => (atI cs x1).bind fun x4 => (m_longest_way x4).bind fun r5 => some (some ((x3.1 + r5), x1)))
    (B := fun x (y : Int × Int) => ∃ (j : Nat) (c : Call) (w : Int) (k : Option Int), x = (j : Int) ∧ y.2 = (j : Int) ∧ cs[j]? = some c ∧ P c.1 ∧ c.2.1 = s ∧ getA T [c.1, o] = some (w, k) ∧ y.1 = w + late c) (idx cs rs s) (by have := idx_len (cs := cs) (rs := rs) (t := s) hf; omega) (fun i hi => by
    obtain ⟨j, c, h1, h2, h3, h4, h5, h6⟩ := idx_call hi hv
    have hc := hP c.1 h4 (by have := h6.lt; omega)
    obtain ⟨x, hx⟩ := hG _ hc
    obtain ⟨_, _, _, _, _, hw⟩ := late_ok h6
    refine ⟨(x.1 + late c, i), ?_, j, c, x.1, x.2, h1, h1, h2, hc, h5, hx, rfl⟩
    rw [h3, Option.bind_some, hx, Option.bind_some, Option.bind_some, hw]
    rfl)
  refine ⟨ys, ?_, l, fun y hy => ?_, fun j c hj h1 h2 => ?_⟩
  · unfold m_late_choices; rw [e]; rfl
  · obtain ⟨_, _, j, c, w, k, _, z⟩ := h y hy; exact ⟨j, c, w, k, z⟩
  · obtain ⟨y, hy, j', c', w, k, z1, z2, z3, z4, z5, z6, z7⟩ := hb _ (mem_idx.mpr ⟨j, c, rfl, hj, h1, h2⟩)
    have : j = j' := by omega
    subst this
    rw [hj] at z3; cases z3
    exact ⟨y, hy, w, k, z6, z7⟩
theorem early_ch (hv : ∀ c ∈ cs, VC n c) (hf : cs.length ≤ 20) {o : Int} (hP : ∀ x ∈ rs, x < s → P x) (hG : ∀ x, P x → ∃ y, getA T [o, x] = some y) : ∃ ys, m_early_choices cs (idx cs rs s) T o = some ys ∧ ys.length = (idx cs rs s).length ∧ (∀ y ∈ ys, ∃ (j : Nat) (c : Call) (w : Int) (k : Option Int), y.2 = (j : Int) ∧ cs[j]? = some c ∧ P c.1 ∧ c.2.1 = s ∧ getA T [o, c.1] = some (w, k) ∧ y.1 = w - early c) ∧ ∀ (j : Nat) (c : Call), cs[j]? = some c → c.1 ∈ rs → c.2.1 = s → ∃ y ∈ ys, ∃ w k, getA T [o, c.1] = some (w, k) ∧ y.1 = w - early c := by
  obtain ⟨ys, e, l, h, hb⟩ := compO_all (f := fun (x1 : Int) => (atI cs x1).bind fun x2 => (getA T [o, x2.1]).bind fun x3 => (atI cs x1).bind fun x4 => (m_shortest_way x4).bind fun r5 => some (some ((x3.1 - r5), x1)))
    (B := fun x (y : Int × Int) => ∃ (j : Nat) (c : Call) (w : Int) (k : Option Int), x = (j : Int) ∧ y.2 = (j : Int) ∧ cs[j]? = some c ∧ P c.1 ∧ c.2.1 = s ∧ getA T [o, c.1] = some (w, k) ∧ y.1 = w - early c) (idx cs rs s) (by have := idx_len (cs := cs) (rs := rs) (t := s) hf; omega) (fun i hi => by
    obtain ⟨j, c, h1, h2, h3, h4, h5, h6⟩ := idx_call hi hv
    have hc := hP c.1 h4 (by have := h6.lt; omega)
    obtain ⟨x, hx⟩ := hG _ hc
    obtain ⟨_, _, _, _, _, hw⟩ := early_ok h6
    refine ⟨(x.1 - early c, i), ?_, j, c, x.1, x.2, h1, h1, h2, hc, h5, hx, rfl⟩
    rw [h3, Option.bind_some, hx, Option.bind_some, Option.bind_some, hw]
    rfl)
  refine ⟨ys, ?_, l, fun y hy => ?_, fun j c hj h1 h2 => ?_⟩
  · unfold m_early_choices; rw [e]; rfl
  · obtain ⟨_, _, j, c, w, k, _, z⟩ := h y hy; exact ⟨j, c, w, k, z⟩
  · obtain ⟨y, hy, j', c', w, k, z1, z2, z3, z4, z5, z6, z7⟩ := hb _ (mem_idx.mpr ⟨j, c, rfl, hj, h1, h2⟩)
    have : j = j' := by omega
    subst this
    rw [hj] at z3; cases z3
    exact ⟨y, hy, w, k, z6, z7⟩
/-- what holds while the entries of s are made: those with Dn are there -/
structure In1 (cs : List Call) (rs : List Int) (P : Int → Prop) (s : Int) (Dn : Int → Prop) (T : Tab) : Prop where
  old : ∀ a b, P a → P b → Best cs rs P T a b
  new : ∀ o, Dn o → Best cs rs P T s o ∧ Best cs rs P T o s
theorem inner_one (hv : ∀ c ∈ cs, VC n c) (hf : cs.length ≤ 20) (hPr : ∀ x, x ∈ rs → x < s → P x) (hPd : ∀ y, P y → ∀ x, x ∈ rs → x < y → P x) (hPs : ∀ x, P x → x < s) {Dn : Int → Prop} (hne : 0 < (idx cs rs s).length) (hD : ∀ x, Dn x → P x) {o : Int} (ho : P o) (h : In1 cs rs P s Dn T) (hl : T.length < 90000) :
    ∃ T', ((m_late_choices cs (idx cs rs s) T o).bind fun r9 => (maxO (fun (k10 : (Int × Int)) => [k10.1, k10.2]) r9).bind fun x11 => (okL (List.length T)).bind fun x12 => (m_early_choices cs (idx cs rs s) (putA T [s, o] (x11.1, (some x11.2))) o).bind fun r13 => (maxO (fun (k14 : (Int × Int)) => [k14.1, k14.2]) r13).bind fun x15 => (okL (List.length (putA T [s, o] (x11.1, (some x11.2))))).bind fun x16 => some (putA (putA T [s, o] (x11.1, (some x11.2))) [o, s] (x15.1, (some x15.2)))) = some T'
      ∧ T'.length ≤ T.length + 2 ∧ In1 cs rs P s (fun x => x = o ∨ Dn x) T' := by
  have hos := hPs o ho
  have hmx : ∀ a b, P a → P b → ∀ x ∈ rs, x < max a b → P x := fun a b ha hb x hx hlt => by
    by_cases q : x < a
    · exact hPd a ha x hx q
    · exact hPd b hb x hx (by omega)
  obtain ⟨ys, e1, l1, m1, c1⟩ := late_ch (T := T) (o := o) (rs := rs) (s := s) hv hf hPr fun x hx => (h.old x o hx ho).some
  obtain ⟨x, e2, hx⟩ := maxO_mem (fun (k10 : (Int × Int)) => [k10.1, k10.2]) (xs := ys) (by omega)
  have x2 := maxO_ge (f := fun (k : Int × Int) => k.1) (g := fun (k : Int × Int) => k.2) e2
  obtain ⟨j, c, w, k, g1, g2, g3, g4, g5, g6⟩ := m1 x hx
  have t1 : ∀ a b, P a → P b → getA (putA T [s, o] (x.1, some x.2)) [a, b] = getA T [a, b] := fun a b ha hb => get_put_ne (key_ne (.inl (by have := hPs a ha; omega)))
  obtain ⟨zs, e3, l3, m3, c3⟩ := early_ch (T := putA T [s, o] (x.1, some x.2)) (o := o) (rs := rs) (s := s) (P := P) hv hf hPr fun z hz => by rw [t1 o z ho hz]; exact (h.old o z ho hz).some
  obtain ⟨y, e4, hy⟩ := maxO_mem (fun (k14 : (Int × Int)) => [k14.1, k14.2]) (xs := zs) (by omega)
  have y2 := maxO_ge (f := fun (k : Int × Int) => k.1) (g := fun (k : Int × Int) => k.2) e4
  obtain ⟨j', c', w', k', f1, f2, f3, f4, f5, f6⟩ := m3 y hy
  have q1 := putA_len2 (l := T) (k := [s, o]) (v := (x.1, some x.2))
  have q2 := putA_len2 (l := putA T [s, o] (x.1, some x.2)) (k := [o, s]) (v := (y.1, some y.2))
  have t2 : ∀ a b, P a → P b → getA (putA (putA T [s, o] (x.1, some x.2)) [o, s] (y.1, some y.2)) [a, b] = getA T [a, b] := fun a b ha hb => by
    rw [get_put_ne (key_ne (.inr (by have := hPs b hb; omega)))]; exact t1 a b ha hb
  refine ⟨putA (putA T [s, o] (x.1, some x.2)) [o, s] (y.1, some y.2), ?_, by omega, ?_, ?_⟩
  · rw [e1, Option.bind_some, e2, Option.bind_some, okL_small (by omega), Option.bind_some, e3, Option.bind_some, e4, Option.bind_some, okL_small (by omega)]
    rfl
  · intro a b ha hb
    exact (h.old a b ha hb).keep hv (fun _ z => z) (hmx a b ha hb) (t2 a b ha hb) (fun _ z hz => t2 z b hz hb) (fun _ z hz => t2 a z ha hz)
  · intro q hq
    by_cases e : q = o
    · subst e
      have low : ∀ c' ∈ cs, c'.1 ∈ rs → c'.2.1 = s → P c'.1 := fun c' hc h1 h2 => hPr _ h1 (by have := (hv c' hc).lt; omega)
      refine ⟨⟨fun z => by omega, fun _ => ⟨x.1, j, c, ?_, g2, g3, by rw [g4]; omega, fun _ => ⟨w, k, by rw [t2 _ _ g3 ho]; exact g5, g6⟩, fun z => by omega, fun c0 hc h1 h2 => ⟨fun _ => ?_, fun z => by omega⟩⟩⟩, ⟨fun z => by omega, fun _ => ⟨y.1, j', c', ?_, f2, f3, by rw [f4]; omega, fun z => by omega, fun _ => ⟨w', k', by rw [t2 _ _ ho f3, ← t1 _ _ ho f3]; exact f5, f6⟩, fun c0 hc h1 h2 => ⟨fun z => by omega, fun _ => ?_⟩⟩⟩⟩
      · rw [get_put_ne (key_ne (.inl (by omega))), get_put, g1]
      · have h2' : c0.2.1 = s := by omega
        obtain ⟨j0, hj0⟩ := List.getElem?_of_mem hc
        obtain ⟨y0, hy0, w0, k0, z1, z2⟩ := c1 j0 c0 hj0 h1 h2'
        exact ⟨w0, k0, by rw [t2 _ _ (low c0 hc h1 h2') ho]; exact z1, by have := x2 y0 hy0; omega⟩
      · rw [get_put, f1]
      · have h2' : c0.2.1 = s := by omega
        obtain ⟨j0, hj0⟩ := List.getElem?_of_mem hc
        obtain ⟨y0, hy0, w0, k0, z1, z2⟩ := c3 j0 c0 hj0 h1 h2'
        have hl0 := low c0 hc h1 h2'
        exact ⟨w0, k0, by rw [t2 _ _ ho hl0, ← t1 _ _ ho hl0]; exact z1, by have := y2 y0 hy0; omega⟩
    · have hq' : Dn q := hq.resolve_left e
      obtain ⟨n1, n2⟩ := h.new q hq'
      have hqs := hPs q (hD q hq')
      have u1 : getA (putA (putA T [s, o] (x.1, some x.2)) [o, s] (y.1, some y.2)) [s, q] = getA T [s, q] := by
        rw [get_put_ne (key_ne (.inl (by omega))), get_put_ne (key_ne (.inr e))]
      have u2 : getA (putA (putA T [s, o] (x.1, some x.2)) [o, s] (y.1, some y.2)) [q, s] = getA T [q, s] := by
        rw [get_put_ne (key_ne (.inl e)), get_put_ne (key_ne (.inl (by omega)))]
      exact ⟨n1.keep hv (fun _ z => z) (fun x hx hlt => hPr x hx (by omega)) u1 (fun _ z hz => t2 z q hz (hD q hq')) (fun z => by omega), n2.keep hv (fun _ z => z) (fun x hx hlt => hPr x hx (by omega)) u2 (fun z => by omega) (fun _ z hz => t2 q z (hD q hq') hz)⟩
theorem inner_ok (hv : ∀ c ∈ cs, VC n c) (hf : cs.length ≤ 20) (hPr : ∀ x, x ∈ rs → x < s → P x) (hPd : ∀ y, P y → ∀ x, x ∈ rs → x < y → P x) (hPs : ∀ x, P x → x < s) (hne : ∀ o, P o → 0 < (idx cs rs s).length) :
    ∀ (xs : List Int) (T : Tab) (Dn : Int → Prop), (∀ x ∈ xs, x ∈ rs) → (∀ x, Dn x → P x) → In1 cs rs P s Dn T → T.length + 2 * xs.length < 80000 → ∃ T', xs.foldlM (fun (s7 : ((List (List Int × (Int × (Option Int)))))) (x6 : Int) => if (decide (x6 < s)) = true then ((m_late_choices cs (idx cs rs s) s7 x6).bind fun r9 => (maxO (fun (k10 : (Int × Int)) => [k10.1, k10.2]) r9).bind fun x11 => (okL (List.length s7)).bind fun x12 => (m_early_choices cs (idx cs rs s) (putA s7 [s, x6] (x11.1, (some x11.2))) x6).bind fun r13 => (maxO (fun (k14 : (Int × Int)) => [k14.1, k14.2]) r13).bind fun x15 => (okL (List.length (putA s7 [s, x6] (x11.1, (some x11.2))))).bind fun x16 => some (putA (putA s7 [s, x6] (x11.1, (some x11.2))) [x6, s] (x15.1, (some x15.2)))) else (some s7)) T = some T'
      ∧ T'.length ≤ T.length + 2 * xs.length ∧ In1 cs rs P s (fun x => Dn x ∨ (x ∈ xs ∧ x < s)) T'
  | [], T, Dn, _, _, h, _ => ⟨T, rfl, by simp, h.old, fun o ho => h.new o (ho.resolve_right fun z => by cases z.1)⟩
  | x :: xs, T, Dn, hx, hD, h, hl => by
    rw [List.foldlM_cons]
    by_cases c : x < s
    · rw [if_pos (decide_eq_true c)]
      have px := hPr x (hx x (List.mem_cons_self ..)) c
      obtain ⟨T1, e1, l1, h1⟩ := inner_one hv hf hPr hPd hPs (hne x px) hD px h (by simp at hl; omega)
      rw [e1]
      obtain ⟨T2, e2, l2, h2⟩ := inner_ok hv hf hPr hPd hPs hne xs T1 (fun q => q = x ∨ Dn q) (fun y hy => hx y (List.mem_cons_of_mem _ hy)) (fun y hy => by rcases hy with z | z; rw [z]; exact px; exact hD y z) h1 (by simp at hl; omega)
      refine ⟨T2, e2, by simp; omega, h2.old, fun o ho => h2.new o ?_⟩
      rcases ho with z | ⟨z, z2⟩
      · exact .inl (.inr z)
      · cases z with
        | head => exact .inl (.inl rfl)
        | tail _ z => exact .inr ⟨z, z2⟩
    · rw [if_neg (by simpa using c)]
      obtain ⟨T2, e2, l2, h2⟩ := inner_ok hv hf hPr hPd hPs hne xs T Dn (fun y hy => hx y (List.mem_cons_of_mem _ hy)) hD h (by simp at hl; omega)
      refine ⟨T2, e2, by simp; omega, h2.old, fun o ho => h2.new o ?_⟩
      rcases ho with z | ⟨z, z2⟩
      · exact .inl z
      · cases z with
        | head => exact absurd z2 c
        | tail _ z => exact .inr ⟨z, z2⟩
end
theorem table_ok {s : Int × List Call} (h : VS s) : ∃ T, m_greatest_differences s = some T ∧ T.length ≤ 200 ∧ ∀ a ∈ RS s, ∀ b ∈ RS s, Best s.2 (RS s) (fun x => x ∈ RS s) T a b := by
  have R := RS_ok h
  have hl := RS_len h
  have fold : ∀ (Q P : List Int) (T : Tab), P ++ Q = RS s → (∀ a ∈ P, ∀ b ∈ P, Best s.2 (RS s) (fun x => x ∈ P) T a b) → T.length ≤ 17 * P.length → ∃ T', Q.foldlM (fun (s3 : ((List (List Int × (Int × (Option Int)))))) (x2 : Int) => (m_calls_to s.2 (RS s) x2).bind fun r5 => (List.foldlM (fun (s7 : ((List (List Int × (Int × (Option Int)))))) (x6 : Int) => if (decide (x6 < x2)) = true then ((m_late_choices s.2 r5 s7 x6).bind fun r9 => (maxO (fun (k10 : (Int × Int)) => [k10.1, k10.2]) r9).bind fun x11 => (okL (List.length s7)).bind fun x12 => (m_early_choices s.2 r5 (putA s7 [x2, x6] (x11.1, (some x11.2))) x6).bind fun r13 => (maxO (fun (k14 : (Int × Int)) => [k14.1, k14.2]) r13).bind fun x15 => (okL (List.length (putA s7 [x2, x6] (x11.1, (some x11.2))))).bind fun x16 => some (putA (putA s7 [x2, x6] (x11.1, (some x11.2))) [x6, x2] (x15.1, (some x15.2)))) else (some s7)) s3 (RS s)).bind fun y17 => (okL (List.length y17)).bind fun x18 => some (putA y17 [x2, x2] ((0 : Int), (none : (Option Int))))) T = some T'
      ∧ T'.length ≤ 200 ∧ ∀ a ∈ RS s, ∀ b ∈ RS s, Best s.2 (RS s) (fun x => x ∈ RS s) T' a b := by
    intro Q
    induction Q with
    | nil =>
      intro P T e hG hT
      rw [List.append_nil] at e
      subst e
      exact ⟨T, rfl, by omega, hG⟩
    | cons t Q ih =>
      intro P T e hG hT
      have hpl : P.length + (Q.length + 1) = (RS s).length := by rw [← e]; simp
      have hup := R.up
      rw [← e, List.pairwise_append] at hup
      have hPt : ∀ x, x ∈ P → x < t := fun x hx => hup.2.2 x hx t (List.mem_cons_self ..)
      have htQ := (List.pairwise_cons.mp hup.2.1).1
      have ht : t ∈ RS s := by rw [← e]; simp
      have hPr : ∀ x, x ∈ RS s → x < t → x ∈ P := fun x hx hlt => by
        rw [← e] at hx
        rcases List.mem_append.mp hx with z | z
        · exact z
        · cases z with
          | head => omega
          | tail _ z => have := htQ x z; omega
      have hPd : ∀ y, y ∈ P → ∀ x, x ∈ RS s → x < y → x ∈ P := fun y hy x hx hlt => hPr x hx (by have := hPt y hy; omega)
      have hmx : ∀ a b, a ∈ P → b ∈ P → ∀ x ∈ RS s, x < max a b → x ∈ P := fun a b ha hb x hx hlt => hPr x hx (by have := hPt a ha; have := hPt b hb; omega)
      have hne : ∀ o, o ∈ P → 0 < (idx s.2 (RS s) t).length := fun o ho => by
        have h0 := R.bd o (by rw [← e]; exact List.mem_append_left _ ho)
        have := hPt o ho
        obtain ⟨j, c, g1, g2, g3⟩ := R.fed t ht (by omega)
        exact List.length_pos_of_mem (mem_idx.mpr ⟨j, c, rfl, g1, g2, g3⟩)
      rw [List.foldlM_cons, calls_ok h.few, Option.bind_some]
      obtain ⟨T1, e1, l1, h1⟩ := inner_ok (n := s.1) (P := fun x => x ∈ P) h.cs h.few hPr hPd hPt hne (RS s) T (fun _ => False) (fun x hx => hx) (fun x hx => hx.elim) ⟨fun a b ha hb => hG a ha b hb, fun o ho => ho.elim⟩ (by omega)
      rw [e1, Option.bind_some, okL_small (by omega)]
      have q := putA_len2 (l := T1) (k := [t, t]) (v := ((0 : Int), (none : Option Int)))
      have new : ∀ o, o ∈ P → Best s.2 (RS s) (fun x => x ∈ P) T1 t o ∧ Best s.2 (RS s) (fun x => x ∈ P) T1 o t := fun o ho => h1.new o (.inr ⟨by rw [← e]; exact List.mem_append_left _ ho, hPt o ho⟩)
      refine ih (P ++ [t]) (putA T1 [t, t] ((0 : Int), (none : Option Int))) (by rw [← e]; simp) (fun a ha b hb => ?_) (by simp; omega)
      have hP' : ∀ x, x ∈ P → x ∈ P ++ [t] := fun x hx => List.mem_append_left _ hx
      rcases List.mem_append.mp ha with ha | ha
      · have hat := hPt a ha
        have k1 : ∀ y, getA (putA T1 [t, t] ((0 : Int), (none : Option Int))) [a, y] = getA T1 [a, y] := fun y => get_put_ne (key_ne (.inl (by omega)))
        rcases List.mem_append.mp hb with hb | hb
        · exact (h1.old a b ha hb).keep h.cs hP' (hmx a b ha hb) (k1 b) (fun _ x hx => get_put_ne (key_ne (.inl (by have := hPt x hx; omega)))) (fun _ x _ => k1 x)
        · rw [List.mem_singleton.mp hb]
          exact ((new a ha).2).keep h.cs hP' (fun x hx hlt => hPr x hx (by omega)) (k1 t) (fun z => by omega) (fun _ x _ => k1 x)
      · rw [List.mem_singleton.mp ha]
        rcases List.mem_append.mp hb with hb | hb
        · have hbt := hPt b hb
          exact ((new b hb).1).keep h.cs hP' (fun x hx hlt => hPr x hx (by omega)) (get_put_ne (key_ne (.inr (by omega)))) (fun _ x hx => get_put_ne (key_ne (.inr (by omega)))) (fun z => by omega)
        · rw [List.mem_singleton.mp hb]
          exact ⟨fun _ => get_put, fun z => absurd rfl z⟩
  obtain ⟨T, e, hT, hG⟩ := fold (RS s) [] [] rfl (fun a ha => by cases ha) (by simp)
  refine ⟨T, ?_, hT, hG⟩
  unfold m_greatest_differences
  rw [reach_ok h, Option.bind_some, e]
  rfl
end K07
namespace K07
open PySem L2 Pw
/-! ### who is reached: closed under calls -/
theorem F_mem {cs : List Call} {rs : List Int} {t x : Int} : x ∈ F cs rs t ↔ x ∈ rs ∨ (x = t ∧ ∃ i, i ∈ idx cs rs t) := by
  unfold F
  by_cases c : (!List.isEmpty (idx cs rs t)) = true
  · rw [if_pos c, List.mem_append, List.mem_singleton]
    have := isE.mp c
    exact ⟨fun h => h.imp id fun h => ⟨h, this⟩, fun h => h.imp id fun h => h.1⟩
  · rw [if_neg c]
    exact ⟨.inl, fun h => h.elim id fun h => absurd (isE.mpr h.2) c⟩
def Cl (cs : List Call) (t : Int) (rs : List Int) : Prop := (∀ x ∈ rs, x < t) ∧ ∀ c ∈ cs, 0 ≤ c.1 → c.1 < c.2.1 → c.2.1 < t → c.1 ∈ rs → c.2.1 ∈ rs
theorem Cl.step {cs : List Call} {t : Int} {rs : List Int} (h : Cl cs t rs) : Cl cs (t + 1) (F cs rs t) := by
  refine ⟨fun x hx => ?_, fun c hc h0 h1 h2 h3 => ?_⟩
  · rcases F_mem.mp hx with z | z
    · have := h.1 x z; omega
    · omega
  · have h3' : c.1 ∈ rs := by
      rcases F_mem.mp h3 with z | z
      · exact z
      · omega
    by_cases e : c.2.1 = t
    · obtain ⟨j, hj⟩ := List.getElem?_of_mem hc
      exact F_mem.mpr (.inr ⟨e, _, mem_idx.mpr ⟨j, c, rfl, hj, h3', e⟩⟩)
    · exact F_mem.mpr (.inl (h.2 c hc h0 h1 (by omega) h3'))
theorem Cl.fold {cs : List Call} : ∀ (n : Nat) (t : Int) (rs : List Int), Cl cs t rs → Cl cs (t + n) ((rng t n).foldl (F cs) rs)
  | 0, t, rs, h => by
    have : rng t 0 = [] := rfl
    rw [this]
    simpa using h
  | n + 1, t, rs, h => by
    rw [rng_succ, List.foldl_cons]
    have := Cl.fold n (t + 1) (F cs rs t) h.step
    rw [show t + ((n + 1 : Nat) : Int) = t + 1 + (n : Int) by omega]
    exact this
theorem RS_cl {s : Int × List Call} (h : VS s) {c : Call} (hc : c ∈ s.2) (h1 : c.1 ∈ RS s) : c.2.1 ∈ RS s := by
  have := h.n1
  have v := h.cs c hc
  have := Cl.fold (cs := s.2) (s.1 - 1).toNat 1 [0] ⟨fun x hx => by rw [List.mem_singleton.mp hx]; omega, fun c' hc' h0 h1 h2 h3 => by omega⟩
  rw [show (1 : Int) + ((s.1 - 1).toNat : Int) = s.1 by omega] at this
  exact this.2 c hc v.lo v.lt v.hi h1
theorem RS_z {s : Int × List Call} (h : VS s) : (0 : Int) ∈ RS s := (RS_ok h).z
theorem RS_bd {s : Int × List Call} (h : VS s) {x : Int} (hx : x ∈ RS s) : 0 ≤ x ∧ x < s.1 ∧ x < 8 := by
  have := (RS_ok h).bd x hx
  have := h.n8
  omega
/-! ### the differences -/
def dv (T : Tab) (a b : Int) : Int := ((getA T [a, b]).map (·.1)).getD 0
structure Opt (s : Int × List Call) (d : Int → Int → Int) : Prop where
  z : ∀ a ∈ RS s, d a a = 0
  lx : ∀ a ∈ RS s, ∀ b ∈ RS s, b < a → ∃ c ∈ s.2, c.1 ∈ RS s ∧ c.2.1 = a ∧ d a b = d c.1 b + late c
  lb : ∀ a ∈ RS s, ∀ b ∈ RS s, b < a → ∀ c ∈ s.2, c.1 ∈ RS s → c.2.1 = a → d c.1 b + late c ≤ d a b
  ex : ∀ a ∈ RS s, ∀ b ∈ RS s, a < b → ∃ c ∈ s.2, c.1 ∈ RS s ∧ c.2.1 = b ∧ d a b = d a c.1 - early c
  eb : ∀ a ∈ RS s, ∀ b ∈ RS s, a < b → ∀ c ∈ s.2, c.1 ∈ RS s → c.2.1 = b → d a c.1 - early c ≤ d a b
structure TabOk (s : Int × List Call) (T : Tab) (d : Int → Int → Int) : Prop where
  run : m_greatest_differences s = some T
  few : T.length ≤ 200
  get : ∀ a ∈ RS s, ∀ b ∈ RS s, ∃ k, getA T [a, b] = some (d a b, k)
  opt : Opt s d
  best : ∀ a ∈ RS s, ∀ b ∈ RS s, Best s.2 (RS s) (fun x => x ∈ RS s) T a b
theorem table_opt {s : Int × List Call} (h : VS s) : ∃ T d, TabOk s T d := by
  obtain ⟨T, e, few, hB⟩ := table_ok h
  have get : ∀ a ∈ RS s, ∀ b ∈ RS s, ∃ k, getA T [a, b] = some (dv T a b, k) := fun a ha b hb => by
    obtain ⟨x, hx⟩ := (hB a ha b hb).some
    exact ⟨x.2, by unfold dv; rw [hx]; rfl⟩
  have val : ∀ {a b w : Int} {k : Option Int}, getA T [a, b] = some (w, k) → dv T a b = w := fun {a b w k} hx => by unfold dv; rw [hx]; rfl
  refine ⟨T, dv T, e, few, get, ⟨fun a ha => val ((hB a ha a ha).eq rfl), fun a ha b hb hlt => ?_, fun a ha b hb hlt c hc h1 h2 => ?_, fun a ha b hb hlt => ?_, fun a ha b hb hlt c hc h1 h2 => ?_⟩, hB⟩
  · obtain ⟨v, j, c, g1, g2, g3, g4, g5, g6, g7⟩ := (hB a ha b hb).ne (by omega)
    obtain ⟨w, k, q1, q2⟩ := g5 hlt
    exact ⟨c, List.mem_of_getElem? g2, g3, by clear g5 g6 g7; omega, by rw [val g1, val q1]; exact q2⟩
  · obtain ⟨v, j, c', g1, g2, g3, g4, g5, g6, g7⟩ := (hB a ha b hb).ne (by omega)
    obtain ⟨w, k, q1, q2⟩ := (g7 c hc h1 (by clear g5 g6 g7; omega)).1 hlt
    rw [val g1, val q1]; exact q2
  · obtain ⟨v, j, c, g1, g2, g3, g4, g5, g6, g7⟩ := (hB a ha b hb).ne (by omega)
    obtain ⟨w, k, q1, q2⟩ := g6 hlt
    exact ⟨c, List.mem_of_getElem? g2, g3, by clear g5 g6 g7; omega, by rw [val g1, val q1]; exact q2⟩
  · obtain ⟨v, j, c', g1, g2, g3, g4, g5, g6, g7⟩ := (hB a ha b hb).ne (by omega)
    obtain ⟨w, k, q1, q2⟩ := (g7 c hc h1 (by clear g5 g6 g7; omega)).2 hlt
    rw [val g1, val q1]; exact q2
/-! ### dicts laid pair by pair -/
theorem compL_map {α β : Type} {f : α → Option (Option β)} {g : α → β} : ∀ xs : List α, (∀ x ∈ xs, f x = some (some (g x))) → compL f xs = some (xs.map g)
  | [], _ => rfl
  | x :: xs, h => by
    unfold compL
    rw [h x (List.mem_cons_self ..), Option.bind_some, compL_map xs fun y hy => h y (List.mem_cons_of_mem _ hy)]
    rfl
theorem compO_map {α β : Type} {f : α → Option (Option β)} {g : α → β} {xs : List α} (hl : xs.length ≤ 100000) (h : ∀ x ∈ xs, f x = some (some (g x))) : compO f xs = some (xs.map g) := by
  unfold compO
  rw [if_pos hl]
  exact compL_map xs h
theorem dictO_map {α κ β : Type} [DecidableEq κ] {f : α → Option (κ × β)} {g : α → κ × β} {xs : List α} (hl : xs.length < 100000) (h : ∀ x ∈ xs, f x = some (g x)) : dictO f xs = some (putAll [] (xs.map g)) := by
  unfold dictO
  rw [compO_map (g := g) (by omega) fun x hx => by rw [h x hx]; rfl, Option.bind_some, okL_small hl]
  rfl
theorem putAll_new {κ β : Type} [DecidableEq κ] : ∀ (ps acc : List (κ × β)), ((acc ++ ps).map (·.1)).Nodup → putAll acc ps = acc ++ ps
  | [], acc, _ => by simp [putAll]
  | p :: ps, acc, h => by
    have e : putA acc p.1 p.2 = acc ++ [p] := by
      unfold putA
      rw [if_neg]
      intro z
      obtain ⟨q, hq, e⟩ := List.any_eq_true.mp z
      have e : q.1 = p.1 := of_decide_eq_true e
      rw [List.map_append, List.nodup_append] at h
      exact h.2.2 q.1 (List.mem_map_of_mem hq) p.1 (by simp) e
    show putAll (putA acc p.1 p.2) ps = _
    rw [e, putAll_new ps (acc ++ [p]) (by simpa using h)]
    simp
theorem putAll_get {κ β : Type} [DecidableEq κ] (v : κ → β) : ∀ (ks : List κ) (acc : List (κ × β)) (k : κ), (k ∈ ks ∨ getA acc k = some (v k)) → getA (putAll acc (ks.map fun k => (k, v k))) k = some (v k)
  | [], acc, k, h => h.resolve_left (by simp)
  | x :: ks, acc, k, h => by
    show getA (putAll (putA acc x (v x)) (ks.map fun k => (k, v k))) k = _
    refine putAll_get v ks _ k ?_
    by_cases e : k = x
    · subst e; exact .inr get_put
    · rcases h with h | h
      · exact .inl ((List.mem_cons.mp h).resolve_left e)
      · exact .inr (by rw [get_put_ne e]; exact h)
theorem up_nodup {xs : List Int} (h : xs.Pairwise (· < ·)) : xs.Nodup := h.imp fun {a b} q z => by omega
theorem getA_map1 {β : Type} {g : Int → β} : ∀ (xs : List Int) (x : Int), x ∈ xs → getA (xs.map fun x => (x, g x)) x = some (g x)
  | y :: xs, x, h => by
    unfold getA
    rw [List.map_cons, List.find?_cons]
    by_cases e : y = x
    · subst e; simp
    · rw [decide_eq_false e]
      exact getA_map1 xs x ((List.mem_cons.mp h).resolve_left (Ne.symm e))
def times (s : Int × List Call) (d : Int → Int → Int) : List (Int × (Int × Int)) := (RS s).map fun x => (x, (-(d 0 x), d x 0))
theorem times_ok {s : Int × List Call} (h : VS s) {T : Tab} {d : Int → Int → Int} (t : TabOk s T d) : m_act_times s = some (times s d) := by
  have l8 := RS_len h
  unfold m_act_times
  rw [t.run, Option.bind_some, reach_ok h, Option.bind_some]
  rw [dictO_map (g := fun x => (x, (-(d 0 x), d x 0))) (by omega) fun x hx => by
    obtain ⟨k, hk⟩ := t.get 0 (RS_z h) x hx
    obtain ⟨k', hk'⟩ := t.get x hx 0 (RS_z h)
    rw [hk, Option.bind_some, hk', Option.bind_some], Option.bind_some]
  rw [putAll_new _ [] (by simpa [List.map_map, Function.comp_def] using up_nodup (RS_ok h).up)]
  rfl
theorem times_get {s : Int × List Call} {d : Int → Int → Int} {x : Int} (hx : x ∈ RS s) : getA (times s d) x = some (-(d 0 x), d x 0) := getA_map1 (g := fun x => (-(d 0 x), d x 0)) (RS s) x hx
/-! ### windows -/
structure VW (s : Int × List Call) (W : List Int) : Prop where
  len : (W.length : Int) = s.1
  bd : ∀ w ∈ W, 0 ≤ w ∧ w ≤ 9999
theorem cw_ok {s : Int × List Call} (h : VS s) {W : List Int} (hW : VW s W) : m_check_windows s W = some () := by
  have := h.n8
  have := hW.len
  unfold m_check_windows
  rw [check_ok h, Option.bind_some, if_neg (by decide)]
  rw [fold_unit (enumT W) (fun p hp => by
    obtain ⟨j, h1, h2⟩ := mem_enum.mp hp
    obtain ⟨hj, _⟩ := List.getElem?_eq_some_iff.mp h1
    have hc : ¬ s.1 ≤ p.1 := by omega
    have b := hW.bd _ (List.mem_of_getElem? h1)
    rw [decide_eq_false hc, if_neg (by decide), within_yes b.1 b.2]
    rfl), Option.bind_some, if_neg (by simp; omega)]
theorem win_at {s : Int × List Call} (h : VS s) {W : List Int} (hW : VW s W) {x : Int} (h0 : 0 ≤ x) (h1 : x < s.1) : ∃ j : Nat, x = (j : Int) ∧ ∃ w, W[j]? = some w ∧ atI W x = some w ∧ 0 ≤ w ∧ w ≤ 9999 := by
  obtain ⟨j, hj⟩ := Int.eq_ofNat_of_zero_le h0
  have := hW.len
  have hl : j < W.length := by omega
  have e : W[j]? = some W[j] := List.getElem?_eq_getElem hl
  have b := hW.bd _ (List.getElem_mem hl)
  exact ⟨j, hj, W[j], e, by rw [hj]; exact atI_nat e, b.1, b.2⟩
def wat (W : List Int) (x : Int) : Int := (atI W x).getD 0
theorem wat_ok {s : Int × List Call} (h : VS s) {W : List Int} (hW : VW s W) {x : Int} (h0 : 0 ≤ x) (h1 : x < s.1) : atI W x = some (wat W x) ∧ 0 ≤ wat W x ∧ wat W x ≤ 9999 := by
  obtain ⟨j, _, w, _, e, b1, b2⟩ := win_at h hW h0 h1
  unfold wat
  rw [e]
  exact ⟨rfl, b1, b2⟩
def spans (s : Int × List Call) (d : Int → Int → Int) (W : List Int) : List (Int × Int) := (RS s).map fun x => (x, wat W x + d x 0 - -(d 0 x))
theorem spans_ok {s : Int × List Call} (h : VS s) {T : Tab} {d : Int → Int → Int} (t : TabOk s T d) {W : List Int} (hW : VW s W) : m_memory_spans s W = some (spans s d W) := by
  have l8 := RS_len h
  unfold m_memory_spans
  rw [times_ok h t, Option.bind_some]
  have e : List.map (fun (z : Int × (Int × Int)) => z.1) (times s d) = RS s := by unfold times; rw [List.map_map]; exact List.map_id'' (fun _ => rfl) _
  rw [e, dictO_map (g := fun x => (x, wat W x + d x 0 - -(d 0 x))) (by omega) fun x hx => by
    have b := RS_bd h hx
    rw [(wat_ok h hW b.1 b.2.1).1, Option.bind_some, times_get hx, Option.bind_some, Option.bind_some], Option.bind_some]
  rw [putAll_new _ [] (by simpa [List.map_map, Function.comp_def] using up_nodup (RS_ok h).up)]
  rfl
theorem maxI_of {xs : List Int} {m : Int} (h1 : m ∈ xs) (h2 : ∀ y ∈ xs, y ≤ m) : maxI xs = some m := by
  cases xs with
  | nil => cases h1
  | cons x r =>
    have := foldmax r x
    show some _ = some m
    congr 1
    exact Int.le_antisymm (h2 _ this.1) (this.2 _ h1)
/-! ### the pair of messages that decides -/
def gap (d : Int → Int → Int) (a b : Call) : Int := d a.1 b.1 + late a - early b
/-- the calls with these indexes -/
def At2 (cs : List Call) (ids : List Int) (i : Int) (c : Call) : Prop := i ∈ ids ∧ ∃ j : Nat, i = (j : Int) ∧ cs[j]? = some c
def Pr (i j : Int) (a : Call) : Prop := ¬ (i = j ∧ (a.2.2.1.length : Int) - 1 = 0)
structure DP (d : Int → Int → Int) (cs : List Call) (ids : List Int) (Dn : Int → Int → Prop) (r : Int × Option ((Int × Int) × (Int × Int))) : Prop where
  nn : 0 ≤ r.1
  no : r.2 = none → r.1 = 0
  ye : ∀ p, r.2 = some p → 0 < r.1 ∧ ∃ i j a b, At2 cs ids i a ∧ At2 cs ids j b ∧ Pr i j a ∧ p = ((i, (a.2.2.1.length : Int) - 1), (j, 0)) ∧ r.1 = gap d a b
  up : ∀ i j a b, Dn i j → At2 cs ids i a → At2 cs ids j b → Pr i j a → gap d a b ≤ r.1
section
variable {n : Int} {cs : List Call} {ids : List Int} {d : Int → Int → Int} {A : List (List Int × Int)}
theorem at2_inj {i : Int} {a b : Call} (h : At2 cs ids i a) (h' : At2 cs ids i b) : a = b := by
  obtain ⟨_, j, e, h1⟩ := h
  obtain ⟨_, j', e', h2⟩ := h'
  have : j = j' := by omega
  subst this
  rw [h1] at h2
  exact Option.some.inj h2
theorem dp_one (hv : ∀ c ∈ cs, VC n c) {i j : Int} {a b : Call} (hi : At2 cs ids i a) (hj : At2 cs ids j b) (hA : getA A [a.1, b.1] = some (d a.1 b.1)) {Dn : Int → Int → Prop} {r : Int × Option ((Int × Int) × (Int × Int))} (h : DP d cs ids Dn r) :
    ∃ r', ((atI cs i).bind fun x7 => (atI cs i).bind fun x8 => (atI cs j).bind fun x9 => (getA A [x8.1, x9.1]).bind fun x10 => (atI cs i).bind fun x11 => (m_longest_way x11).bind fun r12 => (atI cs j).bind fun x13 => (m_shortest_way x13).bind fun r14 => if ((decide (r.1 < ((x10 + r12) - r14))) && (!decide ([i, ((List.length x7.2.2.1 : Int) - (1 : Int))] = [j, (0 : Int)]))) = true then (some (((x10 + r12) - r14), (some ((i, ((List.length x7.2.2.1 : Int) - (1 : Int))), (j, (0 : Int)))))) else (some r)) = some r' ∧ DP d cs ids (fun x y => (x = i ∧ y = j) ∨ Dn x y) r' := by
  obtain ⟨_, ja, ea, ga⟩ := id hi
  obtain ⟨_, jb, eb, gb⟩ := id hj
  obtain ⟨_, _, _, _, _, lw⟩ := late_ok (hv a (List.mem_of_getElem? ga))
  obtain ⟨_, _, _, _, _, ew⟩ := early_ok (hv b (List.mem_of_getElem? gb))
  rw [ea, eb]
  simp only [atI_nat ga, atI_nat gb, Option.bind_some, hA, lw, ew]
  rw [← ea, ← eb]
  have hpr : (!decide ([i, (a.2.2.1.length : Int) - 1] = [j, (0 : Int)])) = true ↔ Pr i j a := by
    unfold Pr
    simp
    exact ⟨fun h e => h.elim (fun z => absurd e z) id, fun h => (Classical.em (i = j)).elim (fun e => .inr (h e)) .inl⟩
  by_cases c : ((decide (r.1 < d a.1 b.1 + late a - early b)) && (!decide ([i, ((List.length a.2.2.1 : Int) - (1 : Int))] = [j, (0 : Int)]))) = true
  · rw [if_pos c]
    have c' := Bool.and_eq_true_iff.mp c
    have c1 := of_decide_eq_true c'.1
    have nn := h.nn
    refine ⟨_, rfl, by show 0 ≤ d a.1 b.1 + late a - early b; omega, (fun z => by cases z), fun p hp => ?_, fun x y a' b' hxy hx hy hp => ?_⟩
    · cases hp
      exact ⟨by show 0 < d a.1 b.1 + late a - early b; omega, i, j, a, b, hi, hj, hpr.mp c'.2, rfl, rfl⟩
    · show gap d a' b' ≤ d a.1 b.1 + late a - early b
      rcases hxy with ⟨rfl, rfl⟩ | hxy
      · rw [at2_inj hx hi, at2_inj hy hj]; exact Int.le_refl _
      · have := h.up x y a' b' hxy hx hy hp; omega
  · rw [if_neg c]
    refine ⟨_, rfl, h.nn, h.no, h.ye, fun x y a' b' hxy hx hy hp => ?_⟩
    rcases hxy with ⟨rfl, rfl⟩ | hxy
    · have e1 := at2_inj hx hi
      have e2 := at2_inj hy hj
      subst e1 e2
      have q := hpr.mpr hp
      rw [q, Bool.and_true] at c
      have : ¬ (r.1 < d a'.1 b'.1 + late a' - early b') := fun z => c (decide_eq_true z)
      show d a'.1 b'.1 + late a' - early b' ≤ r.1
      omega
    · exact h.up x y a' b' hxy hx hy hp
theorem dp_in (hv : ∀ c ∈ cs, VC n c) (hA : ∀ i j a b, At2 cs ids i a → At2 cs ids j b → getA A [a.1, b.1] = some (d a.1 b.1)) {i : Int} {a : Call} (hi : At2 cs ids i a) :
    ∀ (xs : List Int) (Dn : Int → Int → Prop) (r : Int × Option ((Int × Int) × (Int × Int))), (∀ x ∈ xs, ∃ b, At2 cs ids x b) → DP d cs ids Dn r →
    ∃ r', List.foldlM (fun (s5 : ((Int × (Option ((Int × Int) × (Int × Int)))))) (x4 : Int) => (atI cs i).bind fun x7 => (atI cs i).bind fun x8 => (atI cs x4).bind fun x9 => (getA A [x8.1, x9.1]).bind fun x10 => (atI cs i).bind fun x11 => (m_longest_way x11).bind fun r12 => (atI cs x4).bind fun x13 => (m_shortest_way x13).bind fun r14 => if ((decide (s5.1 < ((x10 + r12) - r14))) && (!decide ([i, ((List.length x7.2.2.1 : Int) - (1 : Int))] = [x4, (0 : Int)]))) = true then (some (((x10 + r12) - r14), (some ((i, ((List.length x7.2.2.1 : Int) - (1 : Int))), (x4, (0 : Int)))))) else (some s5)) r xs = some r' ∧ DP d cs ids (fun x y => (x = i ∧ y ∈ xs) ∨ Dn x y) r'
  | [], Dn, r, _, h => ⟨r, rfl, h.nn, h.no, h.ye, fun x y a' b' hxy hx hy hp => h.up x y a' b' (hxy.resolve_left fun z => by cases z.2) hx hy hp⟩
  | x :: xs, Dn, r, hx, h => by
    obtain ⟨b, hb⟩ := hx x (List.mem_cons_self ..)
    obtain ⟨r1, e1, h1⟩ := dp_one hv hi hb (hA i x a b hi hb) h
    rw [List.foldlM_cons, e1]
    obtain ⟨r2, e2, h2⟩ := dp_in hv hA hi xs _ r1 (fun y hy => hx y (List.mem_cons_of_mem _ hy)) h1
    refine ⟨r2, e2, h2.nn, h2.no, h2.ye, fun x' y' a' b' hxy hx hy hp => h2.up x' y' a' b' ?_ hx hy hp⟩
    rcases hxy with ⟨z1, z2⟩ | z
    · rcases List.mem_cons.mp z2 with z2 | z2
      · exact .inr (.inl ⟨z1, z2⟩)
      · exact .inl ⟨z1, z2⟩
    · exact .inr (.inr z)
theorem dp_out (hv : ∀ c ∈ cs, VC n c) (hA : ∀ i j a b, At2 cs ids i a → At2 cs ids j b → getA A [a.1, b.1] = some (d a.1 b.1)) (hids : ∀ x ∈ ids, ∃ b, At2 cs ids x b) :
    ∀ (xs : List Int) (Dn : Int → Int → Prop) (r : Int × Option ((Int × Int) × (Int × Int))), (∀ x ∈ xs, x ∈ ids) → DP d cs ids Dn r →
    ∃ r', List.foldlM (fun (s2 : ((Int × (Option ((Int × Int) × (Int × Int)))))) (x1 : Int) => (List.foldlM (fun (s5 : ((Int × (Option ((Int × Int) × (Int × Int)))))) (x4 : Int) => (atI cs x1).bind fun x7 => (atI cs x1).bind fun x8 => (atI cs x4).bind fun x9 => (getA A [x8.1, x9.1]).bind fun x10 => (atI cs x1).bind fun x11 => (m_longest_way x11).bind fun r12 => (atI cs x4).bind fun x13 => (m_shortest_way x13).bind fun r14 => if ((decide (s5.1 < ((x10 + r12) - r14))) && (!decide ([x1, ((List.length x7.2.2.1 : Int) - (1 : Int))] = [x4, (0 : Int)]))) = true then (some (((x10 + r12) - r14), (some ((x1, ((List.length x7.2.2.1 : Int) - (1 : Int))), (x4, (0 : Int)))))) else (some s5)) s2 ids).bind fun y15 => some y15) r xs = some r' ∧ DP d cs ids (fun x y => (x ∈ xs ∧ y ∈ ids) ∨ Dn x y) r'
  | [], Dn, r, _, h => ⟨r, rfl, h.nn, h.no, h.ye, fun x y a' b' hxy hx hy hp => h.up x y a' b' (hxy.resolve_left fun z => by cases z.1) hx hy hp⟩
  | x :: xs, Dn, r, hx, h => by
    obtain ⟨a, ha⟩ := hids x (hx x (List.mem_cons_self ..))
    obtain ⟨r1, e1, h1⟩ := dp_in hv hA ha ids Dn r hids h
    rw [List.foldlM_cons, e1]
    obtain ⟨r2, e2, h2⟩ := dp_out hv hA hids xs _ r1 (fun y hy => hx y (List.mem_cons_of_mem _ hy)) h1
    refine ⟨r2, e2, h2.nn, h2.no, h2.ye, fun x' y' a' b' hxy hx hy hp => h2.up x' y' a' b' ?_ hx hy hp⟩
    rcases hxy with ⟨z1, z2⟩ | z
    · rcases List.mem_cons.mp z1 with z1 | z1
      · exact .inr (.inl ⟨z1, z2⟩)
      · exact .inl ⟨z1, z2⟩
    · exact .inr (.inr z)
end
theorem apart_ok {s : Int × List Call} (h : VS s) {T : Tab} {d : Int → Int → Int} (t : TabOk s T d) : ∃ A, dictO (fun (x3 : (List Int)) => (getA T x3).bind fun x4 => some (x3, x4.1)) (List.map (fun z => z.1) T) = some A ∧ ∀ a ∈ RS s, ∀ b ∈ RS s, getA A [a, b] = some (d a b) := by
  have few := t.few
  have there : ∀ x ∈ List.map (fun (z : List Int × (Int × Option Int)) => z.1) T, ∃ v, getA T x = some v := fun x hx => by
    obtain ⟨z, hz, rfl⟩ := List.mem_map.mp hx
    unfold getA
    cases q : T.find? (fun kv => decide (kv.1 = z.1)) with
    | some v => exact ⟨v.2, rfl⟩
    | none => exact absurd (decide_eq_true rfl) (List.find?_eq_none.mp q z hz)
  refine ⟨_, dictO_map (g := fun x => (x, ((getA T x).map (·.1)).getD 0)) (by rw [List.length_map]; omega) (fun x hx => by
    obtain ⟨v, hv⟩ := there x hx
    rw [hv]; rfl), fun a ha b hb => ?_⟩
  obtain ⟨k, hk⟩ := t.get a ha b hb
  have := putAll_get (fun x : List Int => ((getA T x).map (·.1)).getD 0) (List.map (fun (z : List Int × (Int × Option Int)) => z.1) T) [] [a, b] (.inl ?_)
  · rw [hk] at this
    exact this
  · unfold getA at hk
    obtain ⟨z, hz, _⟩ := Option.map_eq_some_iff.mp hk
    have e := List.find?_some hz
    rw [← of_decide_eq_true e]
    exact List.mem_map_of_mem (List.mem_of_find?_eq_some hz)
/-- the deciding pair of one service -/
def DPS (s : Int × List Call) (d : Int → Int → Int) (x : Int) (r : Int × Option ((Int × Int) × (Int × Int))) : Prop := DP d s.2 (idx s.2 (RS s) x) (fun _ _ => True) r
theorem idx_at {s : Int × List Call} {x i : Int} (hi : i ∈ idx s.2 (RS s) x) : ∃ b, At2 s.2 (idx s.2 (RS s) x) i b ∧ b ∈ s.2 ∧ b.1 ∈ RS s ∧ b.2.1 = x := by
  obtain ⟨j, c, h1, h2, h3, h4⟩ := mem_idx.mp hi
  exact ⟨c, ⟨hi, j, h1, h2⟩, List.mem_of_getElem? h2, h3, h4⟩
theorem at_idx {s : Int × List Call} {x i : Int} {b : Call} (h : At2 s.2 (idx s.2 (RS s) x) i b) : b ∈ s.2 ∧ b.1 ∈ RS s ∧ b.2.1 = x := by
  obtain ⟨b', h', h1, h2, h3⟩ := idx_at h.1
  rw [at2_inj h h']
  exact ⟨h1, h2, h3⟩
end K07
namespace K07
open PySem L2 Pw
/-! ### bounds of the differences and of the windows -/
theorem late_bd {n : Int} {c : Call} (h : VC n c) : 0 ≤ late c ∧ late c ≤ 198 := by
  obtain ⟨o, _, h1, h2, h3, _⟩ := late_ok h
  have := h.le; have := h.lm; have := h.mo
  omega
theorem early_bd {n : Int} {c : Call} (h : VC n c) : 0 ≤ early c ∧ early c ≤ 198 := by
  obtain ⟨o, _, h1, h2, h3, _⟩ := early_ok h
  have := h.le; have := h.lm; have := h.mo
  omega
theorem d_bd {s : Int × List Call} (h : VS s) {d : Int → Int → Int} (o : Opt s d) : ∀ (n : Nat) (a b : Int), a ∈ RS s → b ∈ RS s → a.toNat + b.toNat ≤ n → -(198 * b) ≤ d a b ∧ d a b ≤ 198 * a := by
  intro n
  induction n with
  | zero =>
    intro a b ha hb hn
    have := RS_bd h ha
    have := RS_bd h hb
    have : a = b := by omega
    subst this
    rw [o.z a ha]
    omega
  | succ n ih =>
    intro a b ha hb hn
    have ba := RS_bd h ha
    have bb := RS_bd h hb
    by_cases ab : a = b
    · subst ab
      rw [o.z a ha]
      omega
    · by_cases lt : b < a
      · obtain ⟨c, hc, h1, h2, h3⟩ := o.lx a ha b hb lt
        have v := h.cs c hc
        have := v.lt; have := v.lo
        have := late_bd v
        have := ih c.1 b h1 hb (by omega)
        omega
      · obtain ⟨c, hc, h1, h2, h3⟩ := o.ex a ha b hb (by omega)
        have v := h.cs c hc
        have := v.lt; have := v.lo
        have := early_bd v
        have := ih a c.1 ha h1 (by omega)
        omega
theorem d_in {s : Int × List Call} (h : VS s) {d : Int → Int → Int} (o : Opt s d) {a b : Int} (ha : a ∈ RS s) (hb : b ∈ RS s) : -1386 ≤ d a b ∧ d a b ≤ 1386 := by
  have := d_bd h o _ a b ha hb (Nat.le_refl _)
  have := RS_bd h ha
  have := RS_bd h hb
  omega
theorem dps_bd {s : Int × List Call} (h : VS s) {d : Int → Int → Int} (o : Opt s d) {x : Int} {r : Int × Option ((Int × Int) × (Int × Int))} (hr : DPS s d x r) : 0 ≤ r.1 ∧ r.1 ≤ 1600 := by
  refine ⟨hr.nn, ?_⟩
  cases e : r.2 with
  | none => have := hr.no e; omega
  | some p =>
    obtain ⟨_, i, j, a, b, q1, q2, _, _, q5⟩ := hr.ye p e
    obtain ⟨ha, ra, _⟩ := at_idx q1
    obtain ⟨hb, rb, _⟩ := at_idx q2
    have := late_bd (h.cs a ha)
    have := early_bd (h.cs b hb)
    have := d_in h o ra rb
    unfold gap at q5
    omega
end K07
namespace K07
open PySem L2 Pw
abbrev Dice := List Int × Int × Int × Int
def DI (d : Dice) : Prop := 0 ≤ d.2.1 ∧ 0 ≤ d.2.2.1 ∧ d.2.2.1 < 2147483647
theorem next_ok {d : Dice} {n : Int} (hd : DI d) (h0 : 0 < n) (h1 : n < 2 ^ 62) : ∃ r d', m__law_next d n = some (r, d') ∧ 0 ≤ r ∧ r < n ∧ DI d' := by
  have e0 : n ≠ 0 := by omega
  obtain ⟨g1, g2, g3⟩ := hd
  unfold m__law_next
  by_cases c1 : (0 : Int) < d.2.2.2
  · rw [if_pos (decide_eq_true c1), modO_pos h0, divO_pos h0 h1]
    exact ⟨_, _, rfl, Int.emod_nonneg _ e0, Int.emod_lt_of_pos _ h0, g1, g2, g3⟩
  · rw [if_neg (by simpa using c1)]
    by_cases c2 : d.2.1 + 1 ≤ (d.1.length : Int)
    · rw [if_pos (decide_eq_true c2)]
      obtain ⟨j, hj⟩ := Int.eq_ofNat_of_zero_le g1
      have hl : j < d.1.length := by omega
      have hx : d.1[j]? = some d.1[j] := List.getElem?_eq_getElem hl
      have ha : atI d.1 (d.2.1 + 1 - 1) = some d.1[j] := by
        rw [show d.2.1 + 1 - 1 = ((j : Nat) : Int) by omega]
        exact atI_nat hx
      rw [ha]
      rw [Option.bind_some]
      rw [divO_pos h0 h1]
      by_cases c3 : (10 : Int) ^ (Int.toNat 18) ≤ d.1[j]
      · rw [if_pos (decide_eq_true c3)]
        rw [Option.bind_some]
        rw [modO_pos h0]
        exact ⟨_, _, rfl, Int.emod_nonneg _ e0, Int.emod_lt_of_pos _ h0, by show 0 ≤ d.2.1 + 1; omega, g2, g3⟩
      · rw [if_neg (by simpa using c3)]
        rw [Option.bind_some]
        rw [modO_pos h0]
        exact ⟨_, _, rfl, Int.emod_nonneg _ e0, Int.emod_lt_of_pos _ h0, by show 0 ≤ d.2.1 + 1; omega, g2, g3⟩
    · rw [if_neg (by simpa using c2), mulO_small (by omega) (by decide)]
      rw [Option.bind_some]
      rw [divO_pos (by decide) (by decide)]
      rw [Option.bind_some]
      rw [modO_pos h0]
      exact ⟨_, _, rfl, Int.emod_nonneg _ e0, Int.emod_lt_of_pos _ h0, by show 0 ≤ d.2.1 + 1; omega, Int.emod_nonneg _ (by decide), Int.emod_lt_of_pos _ (by decide)⟩
theorem dice_ok {ns : List Int} : ∃ d, m__law_dice ns = some d ∧ DI d := by
  have fold : ∀ (xs : List Int) (s : Int), 0 ≤ s → s < 2147483647 → ∃ s', xs.foldlM (fun (s2 : (Int)) (x1 : Int) => (mulO s2 (48271 : Int)).bind fun x4 => (mulO (x1 % (2147483647 : Int)) (69621 : Int)).bind fun x5 => some (((x4 + x5) + (11 : Int)) % (2147483647 : Int))) s = some s' ∧ 0 ≤ s' ∧ s' < 2147483647 := by
    intro xs
    induction xs with
    | nil => exact fun s h1 h2 => ⟨s, rfl, h1, h2⟩
    | cons x xs ih =>
      intro s h1 h2
      rw [List.foldlM_cons, mulO_small (by omega) (by decide)]
      have := Int.emod_nonneg x (show (2147483647 : Int) ≠ 0 by decide)
      have := Int.emod_lt_of_pos x (show (0 : Int) < 2147483647 by decide)
      rw [show (Option.bind (some (s * 48271)) fun x4 => (mulO (x % (2147483647 : Int)) (69621 : Int)).bind fun x5 => some (((x4 + x5) + (11 : Int)) % (2147483647 : Int))) = some (((s * 48271 + x % 2147483647 * 69621) + 11) % 2147483647) by
        show (mulO (x % (2147483647 : Int)) (69621 : Int)).bind _ = _
        rw [mulO_small (by omega) (by decide)]
        rfl]
      exact ih _ (Int.emod_nonneg _ (by decide)) (Int.emod_lt_of_pos _ (by decide))
  obtain ⟨s, e, h1, h2⟩ := fold ns 0 (by decide) (by decide)
  unfold m__law_dice
  rw [e]
  rw [Option.bind_some]
  by_cases c : (2 : Int) < (ns.length : Int)
  · rw [if_pos (decide_eq_true c), mulO_small (by omega) (by decide)]
    exact ⟨_, rfl, Int.le_refl _, by show 0 ≤ s * 1; omega, by show s * 1 < _; omega⟩
  · rw [if_neg (by simpa using c), mulO_small (by omega) (by decide)]
    exact ⟨_, rfl, Int.le_refl _, by show 0 ≤ s * 0; omega, by show s * 0 < _; omega⟩
end K07
namespace K07
open PySem L2 Pw
theorem call_ok {d : Dice} {n m : Int} (hd : DI d) (h1 : 2 ≤ n) (h2 : n ≤ 8) (h3 : 0 ≤ m) (h4 : m ≤ 99) : ∃ c d', m__law_call d n m = some (c, d') ∧ VC n c ∧ DI d' := by
  unfold m__law_call
  obtain ⟨r1, d1, e1, a1, b1, hd1⟩ := next_ok (n := n - 1) hd (by omega) (by omega)
  rw [e1]
  rw [Option.bind_some]
  obtain ⟨r2, d2, e2, a2, b2, hd2⟩ := next_ok (n := n - 1 - r1) hd1 (by omega) (by omega)
  rw [show m__law_next (r1, d1).2 (n - 1 - (r1, d1).1) = some (r2, d2) from e2]
  rw [Option.bind_some]
  obtain ⟨r3, d3, e3, a3, b3, hd3⟩ := next_ok (n := 4) hd2 (by omega) (by omega)
  rw [show m__law_next (r2, d2).2 4 = some (r3, d3) from e3]
  rw [Option.bind_some]
  rw [rngO_small (by decide) (by decide) (by show -1000 ≤ 1 + r3; omega) (by show 1 + r3 ≤ 1000; omega)]
  rw [Option.bind_some]
  obtain ⟨ys, d4, e4, hd4, l4, b4⟩ := compSL_ok (α := Int) DI (fun y : Int => 0 ≤ y ∧ y ≤ 99) (f := fun (s6 : Dice) (x5 : Int) => (m__law_next s6 (m + (1 : Int))).bind fun r7 => some (some r7.1, r7.2)) (fun s x hs => by
    obtain ⟨r, d', e, a, b, hd'⟩ := next_ok (n := m + 1) hs (by omega) (by omega)
    exact ⟨r, d', by show (m__law_next s (m + 1)).bind _ = _; rw [e]; rfl, hd', by omega, by omega⟩) (rng 0 (1 + r3 - 0).toNat) d3 hd3
  rw [rng_len] at l4
  rw [show compS (fun (s6 : Dice) (x5 : Int) => (m__law_next s6 (m + (1 : Int))).bind fun r7 => some (some r7.1, r7.2)) (rng 0 (1 + (r3, d3).1 - 0).toNat) (r3, d3).2 = some (ys, d4) by
    unfold compS
    rw [if_pos (by rw [rng_len]; show (1 + r3 - 0).toNat ≤ _; omega)]
    exact e4]
  rw [Option.bind_some]
  rw [show ssetO (ys, d4).1 = some (ssetI ys) by unfold ssetO; rw [if_pos (show ys.length ≤ 60 by omega)]]
  rw [Option.bind_some]
  obtain ⟨r5, d5, e5, a5, b5, hd5⟩ := next_ok (n := m + 1) hd4 (by omega) (by omega)
  rw [show m__law_next (ys, d4).2 (m + 1) = some (r5, d5) from e5]
  rw [Option.bind_some]
  obtain ⟨r6, d6, e6, a6, b6, hd6⟩ := next_ok (n := m + 1 - r5) hd5 (by omega) (by omega)
  rw [show m__law_next (r5, d5).2 (m + 1 - (r5, d5).1) = some (r6, d6) from e6]
  have hne : ys ≠ [] := fun z => by rw [z] at l4; simp at l4; omega
  refine ⟨_, _, rfl, ⟨a1, by show r1 < r1 + 1 + r2; omega, by show r1 + 1 + r2 < n; omega, ⟨(sset_len ys).2 hne, ?_, up_sset ys, fun x hx => b4 x ((mem_sset x ys).mp hx)⟩, a5, by show r5 ≤ r5 + r6; omega, by show r5 + r6 ≤ 99; omega⟩, hd6⟩
  have := (sset_len ys).1
  show (ssetI ys).length ≤ 4
  omega
theorem system_ok {d : Dice} {a cc m : Int} (hd : DI d) (ha : 1 ≤ a) (ha8 : a ≤ 8) (hc0 : 0 ≤ cc) (hc20 : cc ≤ 20) (h3 : 0 ≤ m) (h4 : m ≤ 99) : ∃ s d', m__law_system d a cc m = some (s, d') ∧ VS s ∧ DI d' ∧ s.1 ≤ a ∧ (s.2.length : Int) ≤ cc := by
  unfold m__law_system
  obtain ⟨r1, d1, e1, a1, b1, hd1⟩ := next_ok (n := a) hd (by omega) (by omega)
  rw [e1]
  rw [Option.bind_some]
  have hy : ∃ k d2, (if (decide ((1 : Int) < ((1 : Int) + r1))) = true then (m__law_next d1 (cc + (1 : Int))).bind fun r2 => some (r2.1, r2.2) else some ((0 : Int), d1)) = some (k, d2) ∧ DI d2 ∧ 0 ≤ k ∧ k ≤ cc ∧ (r1 = 0 → k = 0) := by
    by_cases c : (1 : Int) < 1 + r1
    · rw [if_pos (decide_eq_true c)]
      obtain ⟨k, d2, e2, a2, b2, hd2⟩ := next_ok (n := cc + 1) hd1 (by omega) (by omega)
      rw [e2]
      exact ⟨k, d2, rfl, hd2, a2, by omega, by omega⟩
    · rw [if_neg (by simpa using c)]
      exact ⟨0, d1, rfl, hd1, by omega, by omega, fun _ => rfl⟩
  obtain ⟨k, d2, e2, hd2, a2, b2, c2⟩ := hy
  rw [show (if (decide ((1 : Int) < ((1 : Int) + (r1, d1).1))) = true then (m__law_next (r1, d1).2 (cc + (1 : Int))).bind fun r2 => some (r2.1, r2.2) else some ((0 : Int), (r1, d1).2)) = some (k, d2) from e2]
  rw [Option.bind_some]
  rw [rngO_small (by decide) (by decide) (by show -1000 ≤ k; omega) (by show k ≤ 1000; omega)]
  rw [Option.bind_some]
  have fold : ∀ (xs : List Int) (cs : List Call) (d : Dice), (xs ≠ [] → r1 ≠ 0) → DI d → cs.length + xs.length ≤ cc.toNat → (∀ c ∈ cs, VC (1 + r1) c) → ∃ cs' d', xs.foldlM (fun (s6 : ((List (Int × Int × (List Int) × Int × Int)) × ((List Int) × Int × Int × Int))) (x5 : Int) => (m__law_call s6.2 ((1 : Int) + r1) m).bind fun r8 => (okL (List.length s6.1)).bind fun x9 => some ((s6.1 ++ [r8.1]), r8.2)) (cs, d) = some (cs', d') ∧ DI d' ∧ cs'.length ≤ cc.toNat ∧ ∀ c ∈ cs', VC (1 + r1) c := by
    intro xs
    induction xs with
    | nil => exact fun cs d _ h1 h2 h3 => ⟨cs, d, rfl, h1, by simpa using h2, h3⟩
    | cons x xs ih =>
      intro cs d h0 h1 h2 h3
      have := h0 (by simp)
      obtain ⟨c, d', e, vc, hd'⟩ := call_ok (n := 1 + r1) (m := m) h1 (by omega) (by omega) (by omega) h4
      rw [List.foldlM_cons]
      rw [show ((m__law_call (cs, d).2 ((1 : Int) + r1) m).bind fun r8 => (okL (List.length (cs, d).1)).bind fun x9 => some (((cs, d).1 ++ [r8.1]), r8.2)) = some (cs ++ [c], d') by
        show (m__law_call d ((1 : Int) + r1) m).bind _ = _
        rw [e]
        show (okL cs.length).bind _ = _
        rw [okL_small (by simp at h2; omega)]
        rfl]
      refine ih (cs ++ [c]) d' (fun _ => this) hd' (by simp at h2 ⊢; omega) fun c' hc' => ?_
      rcases List.mem_append.mp hc' with z | z
      · exact h3 c' z
      · rw [List.mem_singleton.mp z]; exact vc
  obtain ⟨cs, d3, e3, hd3, l3, v3⟩ := fold (rng 0 (k - 0).toNat) [] d2 (fun z y => z (List.eq_nil_of_length_eq_zero (by rw [rng_len, c2 y]; rfl))) hd2 (by rw [rng_len]; simp; omega) (fun c hc => by cases hc)
  rw [show (rng 0 ((k, d2).1 - 0).toNat).foldlM (fun (s6 : ((List (Int × Int × (List Int) × Int × Int)) × ((List Int) × Int × Int × Int))) (x5 : Int) => (m__law_call s6.2 ((1 : Int) + (r1, d1).1) m).bind fun r8 => (okL (List.length s6.1)).bind fun x9 => some ((s6.1 ++ [r8.1]), r8.2)) (([] : List (Int × Int × (List Int) × Int × Int)), (k, d2).2) = some (cs, d3) from e3]
  exact ⟨_, _, rfl, ⟨by show 1 ≤ 1 + r1; omega, by show 1 + r1 ≤ 8; omega, v3, by show cs.length ≤ 20; omega⟩, hd3, by show 1 + r1 ≤ a; omega, by show (cs.length : Int) ≤ cc; omega⟩
end K07
namespace K07
open PySem L2 Pw
theorem mem_rngW {n : Nat} {x : Int} : x ∈ rng 0 n ↔ ∃ j : Nat, j < n ∧ x = (j : Int) := by
  rw [mem_rng]
  exact ⟨fun h => ⟨x.toNat, by omega, by omega⟩, fun ⟨j, h1, h2⟩ => by omega⟩
theorem rng_snoc (n : Nat) : rng 0 (n + 1) = rng 0 n ++ [(n : Int)] := by
  unfold rng
  rw [List.range_succ, List.map_append]
  simp
/-! ### spans are not negative -/
theorem late_ge {n : Int} {c : Call} (h : VC n c) : early c ≤ late c := by
  obtain ⟨o, e1, _, _, e2, _⟩ := late_ok h
  obtain ⟨f, e3, _, _, e4, _⟩ := early_ok h
  have := h.lm
  have ho := h.os
  obtain ⟨h1, h2, h3, h4⟩ := ho
  have pw := List.pairwise_iff_getElem.mp h3
  have l0 : 0 < c.2.2.1.length := List.length_pos_iff.mpr h1
  have ef : f = c.2.2.1[0] := by
    have := atI_nat (j := 0) (List.getElem?_eq_getElem l0)
    rw [show ((0 : Nat) : Int) = 0 from rfl, e3] at this
    exact Option.some.inj this
  have eo : o = c.2.2.1[c.2.2.1.length - 1]'(by omega) := by
    have := atI_nat (j := c.2.2.1.length - 1) (xs := c.2.2.1) (List.getElem?_eq_getElem (by omega))
    rw [show ((c.2.2.1.length - 1 : Nat) : Int) = (c.2.2.1.length : Int) - 1 by omega, e1] at this
    exact Option.some.inj this
  have fo : f ≤ o := by
    rw [ef, eo]
    by_cases q : c.2.2.1.length - 1 = 0
    · simp only [q]; exact Int.le_refl _
    · exact Int.le_of_lt (pw 0 (c.2.2.1.length - 1) l0 (by omega) (by omega))
  omega
theorem there_back {s : Int × List Call} (h : VS s) {d : Int → Int → Int} (o : Opt s d) : ∀ (n : Nat) (x : Int), x ∈ RS s → x.toNat ≤ n → 0 ≤ d x 0 + d 0 x := by
  intro n
  induction n with
  | zero =>
    intro x hx hn
    have b := RS_bd h hx
    have : x = 0 := by omega
    subst this
    rw [o.z 0 hx]
    decide
  | succ n ih =>
    intro x hx hn
    have b := RS_bd h hx
    have z := RS_z h
    by_cases q : x = 0
    · subst q
      rw [o.z 0 hx]
      decide
    · obtain ⟨c, hc, h1, h2, h3⟩ := o.lx x hx 0 z (by omega)
      have h4 := o.eb 0 z x hx (by omega) c hc h1 h2
      have v := h.cs c hc
      have := late_ge v
      have := v.lt
      have := ih c.1 h1 (by have := v.lo; omega)
      omega
/-! ### the needs -/
def nd (s : Int × List Call) (d : Int → Int → Int) (W : List Int) (g x : Int) : Int := (wat W x + d x 0 - -(d 0 x)) / g + 1
theorem set_rng {n : Nat} {G : Int → Int} {x v : Int} (h0 : 0 ≤ x) (h1 : x < n) : ((rng 0 n).map G).set x.toNat v = (rng 0 n).map fun y => if y = x then v else G y := by
  apply List.ext_getElem?
  intro i
  rw [List.getElem?_set]
  simp only [List.getElem?_map]
  by_cases hi : i < n
  · rw [rng_get hi]
    by_cases q : x.toNat = i
    · rw [if_pos q, if_pos (by rw [List.length_map, rng_len]; omega)]
      simp
      intro z
      omega
    · rw [if_neg q]
      simp
      intro z
      omega
  · by_cases q : x.toNat = i
    · omega
    · rw [if_neg q]
      rw [List.getElem?_eq_none (by rw [rng_len]; omega)]
      rfl
theorem needs_fold {s : Int × List Call} {d : Int → Int → Int} {W : List Int} {g : Int} (hg : 0 < g) (hg2 : g < 2 ^ 62) {n : Nat} : ∀ (xs : List Int) (G : Int → Int), (∀ x ∈ xs, 0 ≤ x ∧ x < n) → xs.Nodup →
    (xs.map fun x => (x, wat W x + d x 0 - -(d 0 x))).foldlM (fun (s6 : ((List Int))) (x5 : (Int × Int)) => (divO x5.2 g).bind fun x8 => (ixN (List.length s6) x5.1).bind fun j9 => some (List.set s6 j9 (x8 + (1 : Int)))) ((rng 0 n).map G) = some ((rng 0 n).map fun y => if y ∈ xs then nd s d W g y else G y)
  | [], G, _, _ => by
    simp only [List.map_nil, List.foldlM_nil, List.not_mem_nil, if_false]
    rfl
  | x :: xs, G, hb, hn => by
    rw [List.map_cons, List.foldlM_cons]
    obtain ⟨b1, b2⟩ := hb x (List.mem_cons_self ..)
    rw [List.nodup_cons] at hn
    rw [divO_pos hg hg2, Option.bind_some, List.length_map, rng_len, ixN_in b1 b2, Option.bind_some, set_rng b1 b2]
    show (xs.map _).foldlM _ _ = _
    rw [needs_fold hg hg2 xs _ (fun y hy => hb y (List.mem_cons_of_mem _ hy)) hn.2]
    congr 1
    refine List.map_congr_left fun y hy => ?_
    by_cases q : y = x
    · subst q
      rw [if_neg hn.1, if_pos rfl, if_pos (List.mem_cons_self ..)]
      rfl
    · by_cases q2 : y ∈ xs
      · rw [if_pos q2, if_pos (List.mem_cons_of_mem _ q2)]
      · rw [if_neg q2, if_neg q, if_neg fun z => (List.mem_cons.mp z).elim q q2]
theorem zeros (n : Nat) : (List.replicate n ([(0 : Int)] : List Int)).flatten = (rng 0 n).map fun _ => 0 := by
  apply List.ext_getElem?
  intro i
  have : ∀ n : Nat, (List.replicate n ([(0 : Int)] : List Int)).flatten = List.replicate n 0 := fun n => by
    induction n with
    | zero => rfl
    | succ n ih => rw [List.replicate_succ, List.flatten_cons, ih, List.replicate_succ]; rfl
  rw [this]
  by_cases hi : i < n
  · rw [List.getElem?_map, rng_get hi, List.getElem?_replicate, if_pos hi]; rfl
  · rw [List.getElem?_eq_none (by rw [List.length_replicate]; omega), List.getElem?_eq_none (by rw [List.length_map, rng_len]; omega)]
theorem needs_ok {s : Int × List Call} (h : VS s) {T : Tab} {d : Int → Int → Int} (t : TabOk s T d) {W : List Int} (hW : VW s W) {g : Int} (g1 : 1 ≤ g) (g2 : g ≤ 9999) :
    m_memory_needs s W g = some ((rng 0 s.1.toNat).map fun x => if x ∈ RS s then nd s d W g x else 0) := by
  have n1 := h.n1
  have n8 := h.n8
  unfold m_memory_needs
  rw [cw_ok h hW, Option.bind_some, within_yes g1 g2, Option.bind_some, if_neg (by decide), if_pos (decide_eq_true ⟨by omega, by omega⟩), Option.bind_some, spans_ok h t hW, Option.bind_some, zeros]
  unfold spans
  rw [needs_fold (s := s) (by omega) (by omega) (RS s) (fun _ => 0) (fun x hx => by have := RS_bd h hx; omega) (up_nodup (RS_ok h).up)]
  rfl
/-! ### counted by the law -/
theorem count_fold {P : Int → Bool} {f : Int → Int → Option Int} (hf : ∀ c k, 0 ≤ k → k < 700 → f c k = some (c + (if P k = true then 1 else 0))) {q : Int} (hq : 0 ≤ q) (hP : ∀ k, P k = true ↔ 60 ≤ k ∧ k - 60 ≤ q) :
    ∀ n : Nat, n ≤ 700 → (rng 0 n).foldlM f 0 = some (max 0 (min (n : Int) (61 + q) - 60))
  | 0, _ => by
    show some (0 : Int) = _
    congr 1
    omega
  | n + 1, h => by
    rw [rng_snoc, List.foldlM_append, count_fold hf hq hP n (by omega)]
    show ([(n : Int)].foldlM f _ : Option Int) = _
    rw [List.foldlM_cons, hf _ _ (by omega) (by omega)]
    show some _ = _
    congr 1
    by_cases c : P (n : Int) = true
    · rw [if_pos c]
      have := (hP _).mp c
      omega
    · rw [if_neg c]
      have : ¬ (60 ≤ (n : Int) ∧ (n : Int) - 60 ≤ q) := fun z => c ((hP _).mpr z)
      omega

/-! ### draws -/
theorem compSL_two {α β S : Type} (P : S → Prop) (B : α → β → Prop) {f : S → α → Option (Option β × S)} (h : ∀ s x, P s → ∃ b s', f s x = some (some b, s') ∧ P s' ∧ B x b) :
    ∀ (xs : List α) s, P s → ∃ ys s', compSL f xs s = some (ys, s') ∧ P s' ∧ ys.length = xs.length ∧ ∀ (k : Nat) x, xs[k]? = some x → ∃ y, ys[k]? = some y ∧ B x y
  | [], s, hs => ⟨[], s, rfl, hs, rfl, fun k x e => by simp at e⟩
  | x :: xs, s, hs => by
    obtain ⟨b, s1, e1, h1, h2⟩ := h s x hs
    obtain ⟨ys, s2, e2, h3, h4, h5⟩ := compSL_two P B h xs s1 h1
    refine ⟨b :: ys, s2, ?_, h3, by simp [h4], fun k y e => ?_⟩
    · show (f s x).bind _ = _
      rw [e1]
      show (compSL f xs s1).bind _ = _
      rw [e2]; rfl
    · cases k with
      | zero => simp at e; subst e; exact ⟨b, rfl, h2⟩
      | succ k => exact h5 k y (by simpa using e)
theorem getA_map0 {β : Type} {g : Int → β} : ∀ (xs : List Int) (x : Int), x ∉ xs → getA (xs.map fun x => (x, g x)) x = none
  | [], _, _ => rfl
  | y :: ys, x, h => by
    have h1 : x ≠ y := fun z => h (by rw [z]; exact List.mem_cons_self ..)
    have h2 := getA_map0 (g := g) ys x fun z => h (List.mem_cons_of_mem _ z)
    unfold getA at h2 ⊢
    rw [List.map_cons, List.find?_cons_of_neg (by simpa using fun z => h1 z.symm)]
    exact h2
theorem odd_told {s : Int × List Call} (h : VS s) {W : List Int} (hW : VW s W) {v : D} (hv : v ∈ ([(D.int (0 : Int)), (D.int (-(1 : Int))), (D.int (10000 : Int)), D.non, (D.bl true)] : List D)) : m_memory_needs_x s W v = some (.inr ⟨"InvalidGap", []⟩) := by
  have no : m_is_number_within_d v 1 9999 = some false := by
    simp only [List.mem_cons, List.not_mem_nil, or_false] at hv
    rcases hv with rfl | rfl | rfl | rfl | rfl <;> rfl
  unfold m_memory_needs_x
  rw [cw_ok h hW, Option.bind_some, no, Option.bind_some, if_pos (by decide)]
theorem law_true (ns : List Int) : m_law ns = some true := by
  obtain ⟨d0, e0, hd0⟩ := dice_ok (ns := ns)
  unfold m_law
  rw [e0, Option.bind_some, rngO_small (by decide) (by decide) (by decide) (by decide), Option.bind_some]
  have fin : ∀ F : Dice → Int → Option (Dice ⊕ Bool), (∀ x, ∀ d, DI d → ∃ d', F d x = some (.inl d') ∧ DI d') → (foldR F (rng 0 ((3 : Int) - 0).toNat) d0).bind (fun y62 => (match y62 with | .inl y63 => some true | .inr y63 => some y63)) = some true := fun F hF => by
    obtain ⟨d', e, _⟩ := fr_inv DI (rng 0 ((3 : Int) - 0).toNat) d0 (fun x _ d hd => hF x d hd) hd0
    rw [e]
    rfl
  refine fin _ fun x d hd => ?_
  obtain ⟨r1, d1, e1, a1, b1, hd1⟩ := next_ok (n := 2) hd (by decide) (by decide)
  rw [e1, Option.bind_some]
  dsimp only
  obtain ⟨m, em, m0, m1⟩ : ∃ m, atI ([(3 : Int), (20 : Int)] : List Int) r1 = some m ∧ 0 ≤ m ∧ m ≤ 99 := by
    have : r1 = 0 ∨ r1 = 1 := by omega
    rcases this with rfl | rfl
    · exact ⟨3, rfl, by decide, by decide⟩
    · exact ⟨20, rfl, by decide, by decide⟩
  rw [em, Option.bind_some]
  obtain ⟨s, d2, e2, h, hd2, h5, h6⟩ := system_ok (a := 6) (cc := 9) (m := m) hd1 (by decide) (by decide) (by decide) (by decide) m0 m1
  rw [e2, Option.bind_some]
  dsimp only
  obtain ⟨T, df, tok⟩ := table_opt h
  have n1 := h.n1
  rw [rngO_small (by omega) (by omega) (by omega) (by omega), Option.bind_some, Int.sub_zero]
  obtain ⟨W, d3, e3, hd3, lW, bW⟩ := compSL_two DI (fun (_ y : Int) => 0 ≤ y ∧ y ≤ 9999) (f := fun (s11 : ((List Int) × Int × Int × Int)) (x10 : Int) => (m__law_next s11 (2 : Int)).bind fun r12 => (atI ([(5 : Int), (60 : Int)] : List Int) r12.1).bind fun x13 => (m__law_next r12.2 x13).bind fun r14 => some (some r14.1, r14.2)) (fun w x hw => by
    obtain ⟨r, w1, g1, g2, g3, hw1⟩ := next_ok (n := 2) hw (by decide) (by decide)
    obtain ⟨q, eq, q0, q1⟩ : ∃ q, atI ([(5 : Int), (60 : Int)] : List Int) r = some q ∧ 0 < q ∧ q ≤ 60 := by
      have : r = 0 ∨ r = 1 := by omega
      rcases this with rfl | rfl
      · exact ⟨5, rfl, by decide, by decide⟩
      · exact ⟨60, rfl, by decide, by decide⟩
    obtain ⟨r', w2, g4, g5, g6, hw2⟩ := next_ok (n := q) hw1 q0 (by omega)
    refine ⟨r', w2, ?_, hw2, g5, by omega⟩
    rw [g1, Option.bind_some]
    dsimp only
    rw [eq, Option.bind_some, g4]
    rfl) (rng 0 s.1.toNat) d2 hd2
  have hW : VW s W := by
    refine ⟨by rw [lW, rng_len]; omega, fun w hw => ?_⟩
    obtain ⟨j, hj, rfl⟩ := List.mem_iff_getElem.mp hw
    obtain ⟨y, hy, b⟩ := bW j _ (List.getElem?_eq_getElem (by omega))
    rw [List.getElem?_eq_getElem hj] at hy
    cases hy
    exact b
  have ec : compS (fun (s11 : ((List Int) × Int × Int × Int)) (x10 : Int) => (m__law_next s11 (2 : Int)).bind fun r12 => (atI ([(5 : Int), (60 : Int)] : List Int) r12.1).bind fun x13 => (m__law_next r12.2 x13).bind fun r14 => some (some r14.1, r14.2)) (rng 0 s.1.toNat) d2 = some (W, d3) := by
    unfold compS
    rw [if_pos (by rw [rng_len]; omega)]
    exact e3
  rw [ec, Option.bind_some]
  dsimp only
  obtain ⟨r4, d4, e4, a4, b4, hd4⟩ := next_ok (n := 3) hd3 (by decide) (by decide)
  rw [e4, Option.bind_some]
  dsimp only
  obtain ⟨gm, eg, gm0, gm1⟩ : ∃ q, atI ([(4 : Int), (40 : Int), (9999 : Int)] : List Int) r4 = some q ∧ 0 < q ∧ q ≤ 9999 := by
    have : r4 = 0 ∨ r4 = 1 ∨ r4 = 2 := by omega
    rcases this with rfl | rfl | rfl
    · exact ⟨4, rfl, by decide, by decide⟩
    · exact ⟨40, rfl, by decide, by decide⟩
    · exact ⟨9999, rfl, by decide, by decide⟩
  rw [eg, Option.bind_some]
  obtain ⟨r5, d5, e5, a5, b5, hd5⟩ := next_ok (n := gm) hd4 gm0 (by omega)
  rw [e5, Option.bind_some]
  dsimp only
  generalize hg : (1 : Int) + r5 = g
  have g1 : 1 ≤ g := by omega
  have g2 : g ≤ 9999 := by omega
  rw [times_ok h tok, Option.bind_some, needs_ok h tok hW g1 g2, Option.bind_some, Option.bind_some]
  rw [fr_unit (rng 0 s.1.toNat) (fun x hx => by
    obtain ⟨j, hj, rfl⟩ := mem_rngW.mp hx
    have at_ : atI ((rng 0 s.1.toNat).map fun x => if x ∈ RS s then nd s df W g x else 0) (j : Int) = some (if (j : Int) ∈ RS s then nd s df W g j else 0) := rng_at (by omega) (by omega)
    by_cases hr : (j : Int) ∈ RS s
    · have hgt : getA (times s df) (j : Int) = some (-(df 0 j), df j 0) := times_get hr
      have b := RS_bd h hr
      obtain ⟨w1, w2, w3⟩ := wat_ok h hW b.1 b.2.1
      have tb := there_back h tok.opt _ _ hr (Nat.le_refl _)
      rw [hgt, if_pos (by rfl), Option.bind_some, w1, Option.bind_some, mulO_small (by decide) (by omega), Option.bind_some]
      rw [show rngO 0 (700 : Int) = some (rng 0 700) from rfl, Option.bind_some]
      dsimp only
      rw [count_fold (q := (wat W j + df j 0 - -(df 0 j)) / g) (P := fun k => decide (k * g + -(df 0 j) ≤ df j 0 + wat W j + 60 * g) && decide (df j 0 + wat W j + 60 * g ≤ k * g + df j 0 + wat W j)) (fun c k k0 k7 => by
        rw [mulO_small (by omega) (by omega), Option.bind_some]
        by_cases c1 : k * g + -(df 0 j) ≤ df j 0 + wat W j + 60 * g
        · rw [if_pos (decide_eq_true c1), Option.bind_some, Option.bind_some, decide_eq_true c1, Bool.true_and]
        · rw [if_neg (by simpa using c1), Option.bind_some, decide_eq_false c1, Bool.false_and]) (Int.ediv_nonneg (by omega) (by omega)) (fun k => by
        rw [Bool.and_eq_true, decide_eq_true_iff, decide_eq_true_iff, Int.le_ediv_iff_mul_le (by omega), Int.sub_mul]
        constructor
        · rintro ⟨c1, c2⟩
          refine ⟨?_, by omega⟩
          refine Classical.byContradiction fun z => ?_
          have : k * g ≤ 59 * g := Int.mul_le_mul_of_nonneg_right (by omega) (by omega)
          omega
        · rintro ⟨c1, c2⟩
          have : 60 * g ≤ k * g := Int.mul_le_mul_of_nonneg_right c1 (by omega)
          exact ⟨by omega, by omega⟩) 700 (Nat.le_refl _), Option.bind_some, at_]
      have sp : 0 ≤ (wat W j + df j 0 - -(df 0 j)) / g := Int.ediv_nonneg (by omega) (by omega)
      rw [if_pos hr]
      unfold nd
      by_cases c : max 0 (min ((700 : Nat) : Int) (61 + (wat W j + df j 0 - -(df 0 j)) / g) - 60) < 600
      · rw [if_pos (decide_eq_true c), Option.bind_some, Option.bind_some, decide_eq_true (by omega), if_neg (by decide)]
      · rw [if_neg (by simpa using c), Option.bind_some, if_neg (by decide)]
    · have hgt : getA (times s df) (j : Int) = none := getA_map0 (g := fun x => (-(df 0 x), df x 0)) (RS s) _ hr
      rw [hgt, if_neg (by decide), if_pos (by decide), at_, if_neg hr, Option.bind_some, Option.bind_some, if_neg (by decide)]), Option.bind_some]
  dsimp only
  unfold m__law_pick_d
  obtain ⟨r6, d6, e6, a6, b6, hd6⟩ := next_ok (n := 5) hd5 (by decide) (by decide)
  rw [show (List.length ([(D.int (0 : Int)), (D.int (-(1 : Int))), (D.int (10000 : Int)), D.non, (D.bl true)] : List D) : Int) = 5 from rfl, e6, Option.bind_some]
  dsimp only
  obtain ⟨v, ev, hv⟩ : ∃ v, atI ([(D.int (0 : Int)), (D.int (-(1 : Int))), (D.int (10000 : Int)), D.non, (D.bl true)] : List D) r6 = some v ∧ v ∈ ([(D.int (0 : Int)), (D.int (-(1 : Int))), (D.int (10000 : Int)), D.non, (D.bl true)] : List D) := atI_in a6 b6
  rw [ev, Option.bind_some, Option.bind_some]
  dsimp only
  rw [odd_told h hW hv, Option.bind_some]
  rw [show toldO okE (fun (z158 : (List Int)) => (D.lst (List.map D.int z158))) (.inr ⟨"InvalidGap", []⟩) = some (D.tup [(D.str ("error" : PySem.Str)), (D.str ("InvalidGap" : PySem.Str))]) from rfl, Option.bind_some]
  have same : ∀ x : D, dOk 50 x = true → neDO x x = some false := fun x hx => by unfold neDO; rw [if_pos ⟨rfl, hx⟩]
  rw [same _ (by decide +kernel), Option.bind_some, if_neg (by decide)]
  exact ⟨d6, rfl, hd6⟩
end K07
namespace K07
open PySem PySem.W PySem.Calls PySem.Spec PyProof.Rows L2 Pw
def dd (x : Str) (i : Nat) : He.DefD := ⟨(x, none), x, x, defArgs (top i), defBody (top i), defScope (top i), [], []⟩
def fn : List He.DefD := [dd "is_number" 17, dd "is_number_within" 18, dd "are_offsets" 19, dd "is_call" 20, dd "check_system" 21, dd "calls_to" 22, dd "reachable_services" 23, dd "shortest_way" 25, dd "longest_way" 26, dd "late_choices" 27, dd "early_choices" 28, dd "greatest_differences" 29, dd "act_times" 30, dd "check_windows" 34, dd "memory_spans" 35, dd "memory_needs" 36, dd "_law_dice" 38, dd "_law_next" 39, dd "_law_pick" 40, dd "_law_call" 42, dd "_law_system" 43, dd "_law_told" 41, dd "law" 44]
def fa : List He.Fa := [.glo "is_number", .glo "is_number_within", .glo "are_offsets", .glo "is_call", .glo "check_system", .glo "calls_to", .glo "reachable_services", .glo "shortest_way", .glo "longest_way", .glo "late_choices", .glo "early_choices", .glo "greatest_differences", .glo "act_times", .glo "check_windows", .glo "memory_spans", .glo "memory_needs", .glo "_law_dice", .glo "_law_next", .glo "_law_pick", .glo "_law_call", .glo "_law_system", .glo "_law_told", .glo "law", .free "ValueError", .free "bool", .free "enumerate", .free "int", .free "isinstance", .free "len", .free "max", .free "range", .free "set", .free "sorted", .free "tuple", .int "LAST_TICK" 99, .int "LONGEST_GAP" 9999, .int "LONGEST_WINDOW" 9999, .int "MOST_CALLS" 20, .int "MOST_OFFSETS" 4, .int "MOST_SERVICES" 8, .glo "ImpossibleLog", .glo "InvalidGap", .glo "InvalidLog", .glo "InvalidSchedule", .glo "InvalidSystem", .glo "InvalidTable", .glo "InvalidTimes", .glo "InvalidWindows", .glo "OnceError", .glo "TooManyAttempts", .glo "UnknownService", .exc "InvalidGap"]
abbrev R : PySem.W.OpenRow := PySem.W.OpenLaw.row RW
def exB (K : PySem.W.Frag) : Bool := ([excCB K (He.ga K "InvalidGap"), decide (PySem.W.kitOne K (.ref (He.ga K "InvalidGap")) (.ref (He.ga K "InvalidWindows")) = some false), decide (PySem.W.kitOne K (.ref (He.ga K "InvalidGap")) (.ref (He.ga K "InvalidLog")) = some false), decide (PySem.W.kitOne K (.ref (He.ga K "InvalidGap")) (.ref (He.ga K "InvalidSchedule")) = some false), decide (PySem.W.kitOne K (.ref (He.ga K "InvalidGap")) (.ref (He.ga K "InvalidTimes")) = some false), decide (PySem.W.kitOne K (.ref (He.ga K "InvalidGap")) (.ref (He.ga K "InvalidSystem")) = some false), decide (PySem.W.kitOne K (.ref (He.ga K "InvalidGap")) (.ref (He.ga K "InvalidTable")) = some false), decide (PySem.W.kitOne K (.ref (He.ga K "InvalidGap")) (.ref (He.ga K "ImpossibleLog")) = some false), decide (PySem.W.kitOne K (.ref (He.ga K "InvalidGap")) (.ref (He.ga K "UnknownService")) = some false), decide (PySem.W.kitOne K (.ref (He.ga K "InvalidGap")) (.ref (He.ga K "InvalidGap")) = some true), decide (PySem.W.kitOne K (.ref (He.ga K "InvalidGap")) (.ref (He.ga K "TooManyAttempts")) = some false), decide (PySem.W.kitOne K (.ref (He.ga K "InvalidGap")) (.type "ValueError") = some true), decide (PySem.W.exmOne K (.ref (He.ga K "InvalidGap")) (.ref (He.ga K "OnceError")) = some true)] : List Bool).all id
abbrev hk : PySem.W.Hook := He.hookX 4 fa fn [] [("law", none)] exB
def ob (s : PySem.W.SharedT) : He.AlX := He.obsX 4 fa fn [] [("law", none)] exB (HandSHeadRun.getT s)
theorem ob_eq (s : PySem.W.SharedT) : ob s = hk.obs s.abs := He.obsX_eq (HandSHeadRun.getT_eq s)
def names : List Str := (["OnceError", "InvalidSystem", "UnknownService", "InvalidWindows", "InvalidTable", "InvalidLog", "ImpossibleLog", "InvalidSchedule", "InvalidTimes", "InvalidGap", "TooManyAttempts", "MOST_SERVICES", "MOST_CALLS", "MOST_OFFSETS", "LAST_TICK", "is_number", "is_number_within", "are_offsets", "is_call", "check_system"] : List Str) ++ (["calls_to", "reachable_services", "shortest_way", "longest_way", "late_choices", "early_choices", "greatest_differences", "act_times", "LONGEST_WINDOW", "LONGEST_GAP", "check_windows", "memory_spans", "memory_needs", "_law_dice", "_law_next", "_law_pick", "_law_told", "_law_call", "_law_system"] : List Str)
theorem run (w : World) : HandSHeadRun.RunEq R (PySem.W.view R.prog [44]) hk ob 9000 names w := by
  intro os
  kernel_rfl
theorem facts {K : PySem.W.Frag} {h : Heap} {mg : Str → Option Value} {f : Addr} (X : K.In h) (G : h.Ns mainGlobals mg) (hfa : mg ("law" : Str) = some (.ref f)) (c : He.SaysD fa fn K) (cx : exB K = true) :
    ∃ T : Tx K mg, T.a_law = f := by
  have cx_ : ∀ b ∈ ([excCB K (He.ga K "InvalidGap"), decide (PySem.W.kitOne K (.ref (He.ga K "InvalidGap")) (.ref (He.ga K "InvalidWindows")) = some false), decide (PySem.W.kitOne K (.ref (He.ga K "InvalidGap")) (.ref (He.ga K "InvalidLog")) = some false), decide (PySem.W.kitOne K (.ref (He.ga K "InvalidGap")) (.ref (He.ga K "InvalidSchedule")) = some false), decide (PySem.W.kitOne K (.ref (He.ga K "InvalidGap")) (.ref (He.ga K "InvalidTimes")) = some false), decide (PySem.W.kitOne K (.ref (He.ga K "InvalidGap")) (.ref (He.ga K "InvalidSystem")) = some false), decide (PySem.W.kitOne K (.ref (He.ga K "InvalidGap")) (.ref (He.ga K "InvalidTable")) = some false), decide (PySem.W.kitOne K (.ref (He.ga K "InvalidGap")) (.ref (He.ga K "ImpossibleLog")) = some false), decide (PySem.W.kitOne K (.ref (He.ga K "InvalidGap")) (.ref (He.ga K "UnknownService")) = some false), decide (PySem.W.kitOne K (.ref (He.ga K "InvalidGap")) (.ref (He.ga K "InvalidGap")) = some true), decide (PySem.W.kitOne K (.ref (He.ga K "InvalidGap")) (.ref (He.ga K "TooManyAttempts")) = some false), decide (PySem.W.kitOne K (.ref (He.ga K "InvalidGap")) (.type "ValueError") = some true), decide (PySem.W.exmOne K (.ref (He.ga K "InvalidGap")) (.ref (He.ga K "OnceError")) = some true)] : List Bool), b = true := fun b hb => List.all_eq_true.mp cx b hb
  obtain ⟨d_is_number, F_is_number⟩ := c.def_ 0 (d := dd "is_number" 17) rfl
  obtain ⟨d_is_number_within, F_is_number_within⟩ := c.def_ 1 (d := dd "is_number_within" 18) rfl
  obtain ⟨d_are_offsets, F_are_offsets⟩ := c.def_ 2 (d := dd "are_offsets" 19) rfl
  obtain ⟨d_is_call, F_is_call⟩ := c.def_ 3 (d := dd "is_call" 20) rfl
  obtain ⟨d_check_system, F_check_system⟩ := c.def_ 4 (d := dd "check_system" 21) rfl
  obtain ⟨d_calls_to, F_calls_to⟩ := c.def_ 5 (d := dd "calls_to" 22) rfl
  obtain ⟨d_reachable_services, F_reachable_services⟩ := c.def_ 6 (d := dd "reachable_services" 23) rfl
  obtain ⟨d_shortest_way, F_shortest_way⟩ := c.def_ 7 (d := dd "shortest_way" 25) rfl
  obtain ⟨d_longest_way, F_longest_way⟩ := c.def_ 8 (d := dd "longest_way" 26) rfl
  obtain ⟨d_late_choices, F_late_choices⟩ := c.def_ 9 (d := dd "late_choices" 27) rfl
  obtain ⟨d_early_choices, F_early_choices⟩ := c.def_ 10 (d := dd "early_choices" 28) rfl
  obtain ⟨d_greatest_differences, F_greatest_differences⟩ := c.def_ 11 (d := dd "greatest_differences" 29) rfl
  obtain ⟨d_act_times, F_act_times⟩ := c.def_ 12 (d := dd "act_times" 30) rfl
  obtain ⟨d_check_windows, F_check_windows⟩ := c.def_ 13 (d := dd "check_windows" 34) rfl
  obtain ⟨d_memory_spans, F_memory_spans⟩ := c.def_ 14 (d := dd "memory_spans" 35) rfl
  obtain ⟨d_memory_needs, F_memory_needs⟩ := c.def_ 15 (d := dd "memory_needs" 36) rfl
  obtain ⟨d__law_dice, F__law_dice⟩ := c.def_ 16 (d := dd "_law_dice" 38) rfl
  obtain ⟨d__law_next, F__law_next⟩ := c.def_ 17 (d := dd "_law_next" 39) rfl
  obtain ⟨d__law_pick, F__law_pick⟩ := c.def_ 18 (d := dd "_law_pick" 40) rfl
  obtain ⟨d__law_call, F__law_call⟩ := c.def_ 19 (d := dd "_law_call" 42) rfl
  obtain ⟨d__law_system, F__law_system⟩ := c.def_ 20 (d := dd "_law_system" 43) rfl
  obtain ⟨d__law_told, F__law_told⟩ := c.def_ 21 (d := dd "_law_told" 41) rfl
  obtain ⟨d_law, F_law⟩ := c.def_ 22 (d := dd "law" 44) rfl
  obtain ⟨t_LAST_TICK, c_LAST_TICK⟩ := He.int_ok X G (c.fact 34 (f := .int "LAST_TICK" 99) rfl)
  obtain ⟨t_LONGEST_GAP, c_LONGEST_GAP⟩ := He.int_ok X G (c.fact 35 (f := .int "LONGEST_GAP" 9999) rfl)
  obtain ⟨t_LONGEST_WINDOW, c_LONGEST_WINDOW⟩ := He.int_ok X G (c.fact 36 (f := .int "LONGEST_WINDOW" 9999) rfl)
  obtain ⟨t_MOST_CALLS, c_MOST_CALLS⟩ := He.int_ok X G (c.fact 37 (f := .int "MOST_CALLS" 20) rfl)
  obtain ⟨t_MOST_OFFSETS, c_MOST_OFFSETS⟩ := He.int_ok X G (c.fact 38 (f := .int "MOST_OFFSETS" 4) rfl)
  obtain ⟨t_MOST_SERVICES, c_MOST_SERVICES⟩ := He.int_ok X G (c.fact 39 (f := .int "MOST_SERVICES" 8) rfl)
  refine ⟨{
    a_is_number := _, d_is_number := d_is_number, F_is_number := F_is_number, g_is_number := He.glo_ok X G (c.fact 0 (f := .glo "is_number") rfl),
    a_is_number_within := _, d_is_number_within := d_is_number_within, F_is_number_within := F_is_number_within, g_is_number_within := He.glo_ok X G (c.fact 1 (f := .glo "is_number_within") rfl),
    a_are_offsets := _, d_are_offsets := d_are_offsets, F_are_offsets := F_are_offsets, g_are_offsets := He.glo_ok X G (c.fact 2 (f := .glo "are_offsets") rfl),
    a_is_call := _, d_is_call := d_is_call, F_is_call := F_is_call, g_is_call := He.glo_ok X G (c.fact 3 (f := .glo "is_call") rfl),
    a_check_system := _, d_check_system := d_check_system, F_check_system := F_check_system, g_check_system := He.glo_ok X G (c.fact 4 (f := .glo "check_system") rfl),
    a_calls_to := _, d_calls_to := d_calls_to, F_calls_to := F_calls_to, g_calls_to := He.glo_ok X G (c.fact 5 (f := .glo "calls_to") rfl),
    a_reachable_services := _, d_reachable_services := d_reachable_services, F_reachable_services := F_reachable_services, g_reachable_services := He.glo_ok X G (c.fact 6 (f := .glo "reachable_services") rfl),
    a_shortest_way := _, d_shortest_way := d_shortest_way, F_shortest_way := F_shortest_way, g_shortest_way := He.glo_ok X G (c.fact 7 (f := .glo "shortest_way") rfl),
    a_longest_way := _, d_longest_way := d_longest_way, F_longest_way := F_longest_way, g_longest_way := He.glo_ok X G (c.fact 8 (f := .glo "longest_way") rfl),
    a_late_choices := _, d_late_choices := d_late_choices, F_late_choices := F_late_choices, g_late_choices := He.glo_ok X G (c.fact 9 (f := .glo "late_choices") rfl),
    a_early_choices := _, d_early_choices := d_early_choices, F_early_choices := F_early_choices, g_early_choices := He.glo_ok X G (c.fact 10 (f := .glo "early_choices") rfl),
    a_greatest_differences := _, d_greatest_differences := d_greatest_differences, F_greatest_differences := F_greatest_differences, g_greatest_differences := He.glo_ok X G (c.fact 11 (f := .glo "greatest_differences") rfl),
    a_act_times := _, d_act_times := d_act_times, F_act_times := F_act_times, g_act_times := He.glo_ok X G (c.fact 12 (f := .glo "act_times") rfl),
    a_check_windows := _, d_check_windows := d_check_windows, F_check_windows := F_check_windows, g_check_windows := He.glo_ok X G (c.fact 13 (f := .glo "check_windows") rfl),
    a_memory_spans := _, d_memory_spans := d_memory_spans, F_memory_spans := F_memory_spans, g_memory_spans := He.glo_ok X G (c.fact 14 (f := .glo "memory_spans") rfl),
    a_memory_needs := _, d_memory_needs := d_memory_needs, F_memory_needs := F_memory_needs, g_memory_needs := He.glo_ok X G (c.fact 15 (f := .glo "memory_needs") rfl),
    a__law_dice := _, d__law_dice := d__law_dice, F__law_dice := F__law_dice, g__law_dice := He.glo_ok X G (c.fact 16 (f := .glo "_law_dice") rfl),
    a__law_next := _, d__law_next := d__law_next, F__law_next := F__law_next, g__law_next := He.glo_ok X G (c.fact 17 (f := .glo "_law_next") rfl),
    a__law_pick := _, d__law_pick := d__law_pick, F__law_pick := F__law_pick, g__law_pick := He.glo_ok X G (c.fact 18 (f := .glo "_law_pick") rfl),
    a__law_call := _, d__law_call := d__law_call, F__law_call := F__law_call, g__law_call := He.glo_ok X G (c.fact 19 (f := .glo "_law_call") rfl),
    a__law_system := _, d__law_system := d__law_system, F__law_system := F__law_system, g__law_system := He.glo_ok X G (c.fact 20 (f := .glo "_law_system") rfl),
    a__law_told := _, d__law_told := d__law_told, F__law_told := F__law_told, g__law_told := He.glo_ok X G (c.fact 21 (f := .glo "_law_told") rfl),
    a_law := _, d_law := d_law, F_law := F_law, g_law := He.glo_ok X G (c.fact 22 (f := .glo "law") rfl),
    b_ValueError := He.free_ok X G (c.fact 23 (f := .free "ValueError") rfl),
    b_bool := He.free_ok X G (c.fact 24 (f := .free "bool") rfl),
    b_enumerate := He.free_ok X G (c.fact 25 (f := .free "enumerate") rfl),
    b_int := He.free_ok X G (c.fact 26 (f := .free "int") rfl),
    b_isinstance := He.free_ok X G (c.fact 27 (f := .free "isinstance") rfl),
    b_len := He.free_ok X G (c.fact 28 (f := .free "len") rfl),
    b_max := He.free_ok X G (c.fact 29 (f := .free "max") rfl),
    b_range := He.free_ok X G (c.fact 30 (f := .free "range") rfl),
    b_set := He.free_ok X G (c.fact 31 (f := .free "set") rfl),
    b_sorted := He.free_ok X G (c.fact 32 (f := .free "sorted") rfl),
    b_tuple := He.free_ok X G (c.fact 33 (f := .free "tuple") rfl),
    t_LAST_TICK := t_LAST_TICK, c_LAST_TICK := c_LAST_TICK,
    t_LONGEST_GAP := t_LONGEST_GAP, c_LONGEST_GAP := c_LONGEST_GAP,
    t_LONGEST_WINDOW := t_LONGEST_WINDOW, c_LONGEST_WINDOW := c_LONGEST_WINDOW,
    t_MOST_CALLS := t_MOST_CALLS, c_MOST_CALLS := c_MOST_CALLS,
    t_MOST_OFFSETS := t_MOST_OFFSETS, c_MOST_OFFSETS := c_MOST_OFFSETS,
    t_MOST_SERVICES := t_MOST_SERVICES, c_MOST_SERVICES := c_MOST_SERVICES,
    g_ImpossibleLog := He.glo_ok X G (c.fact 40 (f := .glo "ImpossibleLog") rfl),
    g_InvalidGap := He.glo_ok X G (c.fact 41 (f := .glo "InvalidGap") rfl),
    g_InvalidLog := He.glo_ok X G (c.fact 42 (f := .glo "InvalidLog") rfl),
    g_InvalidSchedule := He.glo_ok X G (c.fact 43 (f := .glo "InvalidSchedule") rfl),
    g_InvalidSystem := He.glo_ok X G (c.fact 44 (f := .glo "InvalidSystem") rfl),
    g_InvalidTable := He.glo_ok X G (c.fact 45 (f := .glo "InvalidTable") rfl),
    g_InvalidTimes := He.glo_ok X G (c.fact 46 (f := .glo "InvalidTimes") rfl),
    g_InvalidWindows := He.glo_ok X G (c.fact 47 (f := .glo "InvalidWindows") rfl),
    g_OnceError := He.glo_ok X G (c.fact 48 (f := .glo "OnceError") rfl),
    g_TooManyAttempts := He.glo_ok X G (c.fact 49 (f := .glo "TooManyAttempts") rfl),
    g_UnknownService := He.glo_ok X G (c.fact 50 (f := .glo "UnknownService") rfl),
    e_InvalidGap := He.exc_ok (c.fact 51 (f := .exc "InvalidGap") rfl),
    xc_InvalidGap := (cx_ _ (List.mem_of_getElem? (i := 0) rfl)),
    k_InvalidGap_0 := of_decide_eq_true (cx_ _ (List.mem_of_getElem? (i := 1) rfl)),
    k_InvalidGap_1 := of_decide_eq_true (cx_ _ (List.mem_of_getElem? (i := 2) rfl)),
    k_InvalidGap_2 := of_decide_eq_true (cx_ _ (List.mem_of_getElem? (i := 3) rfl)),
    k_InvalidGap_3 := of_decide_eq_true (cx_ _ (List.mem_of_getElem? (i := 4) rfl)),
    k_InvalidGap_4 := of_decide_eq_true (cx_ _ (List.mem_of_getElem? (i := 5) rfl)),
    k_InvalidGap_5 := of_decide_eq_true (cx_ _ (List.mem_of_getElem? (i := 6) rfl)),
    k_InvalidGap_6 := of_decide_eq_true (cx_ _ (List.mem_of_getElem? (i := 7) rfl)),
    k_InvalidGap_7 := of_decide_eq_true (cx_ _ (List.mem_of_getElem? (i := 8) rfl)),
    k_InvalidGap_8 := of_decide_eq_true (cx_ _ (List.mem_of_getElem? (i := 9) rfl)),
    k_InvalidGap_9 := of_decide_eq_true (cx_ _ (List.mem_of_getElem? (i := 10) rfl)),
    kv_InvalidGap := of_decide_eq_true (cx_ _ (List.mem_of_getElem? (i := 11) rfl)),
    exm_InvalidGap := of_decide_eq_true (cx_ _ (List.mem_of_getElem? (i := 12) rfl)),
    ea_law := rfl }, ?_⟩
  have e := hfa.symm.trans (He.glo_ok X G (c.fact 22 (f := .glo "law") rfl))
  cases e
  rfl
theorem law_keeps (hmath : ∀ ns : List Int, ns.length ≤ 63 → m_law ns = some true) : RW.Holds := by
  w_on; o_law
  refine HandSHeadRun.head_any (r := OpenLaw.row RW) (q := view (OpenLaw.row RW).prog [44]) (H := hk) (ob := ob) (M := 9000) (loose := names) (d := HandSHeadRun.topDef (OpenLaw.row RW).prog 44) (kwd := []) ob_eq
    (by kernel_rfl) (fun s => by kernel_rfl) run (by kernel_rfl) (by kernel_rfl) (by kernel_rfl) (by rfl) (by first | assumption | decide +kernel) (by decide +kernel) ⟨rfl, rfl, rfl, rfl, rfl, by decide +kernel⟩ ?hw ?hc
  case hw => w_witness2
  case hc =>
    refine LamX.walk_ofTsE (l := RW) (n := 63) (k := 13) (x := "_law_script") (CX := fun _ => L2.CX0) rfl (by decide) (by kernel_rfl) ⟨rfl, by decide, by decide⟩ ?F (fun _ _ _ _ _ z => z)
    intro w mg fa h Y G hmg0
    obtain ⟨K, KX, c⟩ := Y
    have hmg : mg ("law" : PySem.Str) = some (.ref fa) := by
      have e : (HandSHeadRun.topDef (OpenLaw.row RW).prog 44).name = ("law" : PySem.Str) := by kernel_rfl
      rw [← e]
      exact hmg0
    obtain ⟨T, rfl⟩ := facts KX G hmg c.t.d c.more
    have b := FunD.bindsA (ps := ["_law_script"]) T.F_law fun _ _ _ _ _ _ us hl => match us, hl with | [_], _ => rfl
    refine ⟨K, KX, T.d_law, [He.cT K ("law", none)], SpL (He.tabOf K (He.codeOf K ("law", none))) lamQ K R_law, fun p hp => ?_, fun p hp => ?_, fun p hp => ?_, fun s v => b s [v] rfl, fun H a ns hl _ hT hS => ?_, fun base _ _ TB => ?_⟩
    · rw [List.mem_singleton.mp hp]; exact c.empty _ (List.mem_singleton.mpr rfl)
    · rw [List.mem_singleton.mp hp]; exact c.out _ (List.mem_singleton.mpr rfl)
    · rw [List.mem_singleton.mp hp]; exact PySem.W.codeHd_of_K KX (c.hd _ (List.mem_singleton.mpr rfl))
    · refine ⟨fun _ => False, [.lst (ns.map .int)], true, ⟨ns, true, hmath ns hl, rfl, rfl⟩, fun _ z => z.elim, ⟨⟨a, ns.map V.int, rfl, by rw [show (fun b : Addr => true = true ∧ False) = fun _ => False from funext fun _ => propext ⟨fun z => z.2, fun z => z.elim⟩, hid_no]; exact hS, RpL.ofInts ns⟩, trivial⟩, LamX.TabS.nil (hT _ (List.mem_singleton.mpr rfl)), fun H' => rfl⟩
    · have := ok_law (P := RW.prog) (w := w) (base := base) T (TB _ (List.mem_singleton.mpr rfl))
      rw [T.ea_law]
      exact this
end K07
theorem PySem.Challenge.cw_onceonly_k07_memory_needs_holds : PySem.Challenge.rw_onceonly_k07_memory_needs.Holds := by
  exact K07.law_keeps fun ns _ => K07.law_true ns
