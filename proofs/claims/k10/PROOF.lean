import PyProof.Rows.All
import Wide.All
import OpenK.AllK
import Wide.FinOn
import HandS.ForMost
import KE.GoesMore
import HandS.TupMul
import HandS.Strs
import HandS.SetFor
import KE.DataMinMax
import KE.DataCmp
import KE.SortData
import HandS.IsInst
import HandS.Wide
import HandS.Deep
import HandS.DictComp
import HandS.Iter
import HandS.Sort
import HandS.More
import HandS.Conv
import KE.KStateDown
import Lean
import HandS.WordsExc
import HandS.Defaults
import HandS.Head0
import HandS.Head1
import HandS.Head2
import HandS.HeadEnd
import HandS.HeadHook1
import HandS.HeadHook2
import PySem.Challenge.RW_onceonly_k10_reuse_times
set_option Elab.async false
set_option linter.all false
set_option maxRecDepth 100000
set_option maxHeartbeats 0
set_option synthInstance.maxSize 4000
set_option synthInstance.maxHeartbeats 0
set_option exponentiation.threshold 600
/-! PwA: pure data D, its standing in the abstract heap (Rp), what a def's slots hold (ER), what an expression is worth (EvD). -/
namespace Pw
open PySem L2

inductive D where
  | non | bl (b : Bool) | int (i : Int) | str (s : Str)
  | lst (xs : List D) | tup (xs : List D)
  | dk (ks : List Key) (xs : List D) | dt (ks : List (List Key)) (xs : List D)

mutual
def Rp (K : PySem.W.Frag) (H : Hp) : D → V → Prop
  | .non, v => v = .non
  | .bl b, v => v = .bl b
  | .int i, v => v = .int i
  | .str s, v => v = .str s
  | .lst ds, v => ∃ a xs, v = .ref a ∧ SqL K H a xs ∧ RpL K H ds xs
  | .tup ds, v => ∃ a xs, v = .ref a ∧ H a = some (.tup xs) ∧ RpL K H ds xs
  | .dk ks ds, v => ∃ a xs, v = .ref a ∧ Rd H a (.dK (ks.zip xs)) ∧ ks.length = ds.length ∧ RpL K H ds xs
  | .dt ks ds, v => ∃ a xs, v = .ref a ∧ Rd H a (.dT (ks.zip xs)) ∧ ks.length = ds.length ∧ RpL K H ds xs
def RpL (K : PySem.W.Frag) (H : Hp) : List D → List V → Prop
  | [], xs => xs = []
  | d :: ds, xs => ∃ x r, xs = x :: r ∧ Rp K H d x ∧ RpL K H ds r
end

def Ex (H H' : Hp) : Prop := ∀ a o, H a = some o → H' a = some o
theorem Ex.refl (H : Hp) : Ex H H := fun _ _ h => h
theorem Ex.trans {H H1 H2 : Hp} (a : Ex H H1) (b : Ex H1 H2) : Ex H H2 := fun x o h => b x o (a x o h)
theorem Ex.new {H : Hp} {p : Addr} {o : HO} (h : H p = none) : Ex H (upd H p o) := fun a u e => by
  rw [upd_ne (ne_of_none e h)]
  exact e
theorem ex_rd {H H' : Hp} {a : Addr} {u : HO} (e : Ex H H') (h : Rd H a u) : Rd H' a u := by
  rcases h with h | ⟨o, h⟩
  · exact Or.inl (e a _ h)
  · exact Or.inr ⟨o, e a _ h⟩
theorem ex_l {K : PySem.W.Frag} {H H' : Hp} {a : Addr} {xs : List V} (e : Ex H H') (h : SqL K H a xs) : SqL K H' a xs := by
  rcases h with h | h
  · exact Or.inl (ex_rd e h)
  · exact Or.inr h
theorem ex_t {K : PySem.W.Frag} {H H' : Hp} {a : Addr} {xs : List V} (e : Ex H H') (h : SqT K H a xs) : SqT K H' a xs := by
  rcases h with h | h
  · exact Or.inl (ex_rd e h)
  · exact Or.inr h

mutual
theorem ex_s {K : PySem.W.Frag} {H H' : Hp} {a : Addr} {xs : List V} (e : Ex H H') (h : H a = some (.tup xs)) : SqT K H' a xs := SqT.of (e _ _ h)
theorem Rp.mono {K : PySem.W.Frag} {H H' : Hp} (e : Ex H H') : ∀ (d : D) (v : V), Rp K H d v → Rp K H' d v
  | .non, _, h => h
  | .bl _, _, h => h
  | .int _, _, h => h
  | .str _, _, h => h
  | .lst ds, _, ⟨a, xs, h1, h2, h3⟩ => ⟨a, xs, h1, ex_l e h2, RpL.mono e ds xs h3⟩
  | .tup ds, _, ⟨a, xs, h1, h2, h3⟩ => ⟨a, xs, h1, e _ _ h2, RpL.mono e ds xs h3⟩
  | .dk _ ds, _, ⟨a, xs, h1, h2, h0, h3⟩ => ⟨a, xs, h1, ex_rd e h2, h0, RpL.mono e ds xs h3⟩
  | .dt _ ds, _, ⟨a, xs, h1, h2, h0, h3⟩ => ⟨a, xs, h1, ex_rd e h2, h0, RpL.mono e ds xs h3⟩
theorem RpL.mono {K : PySem.W.Frag} {H H' : Hp} (e : Ex H H') : ∀ (ds : List D) (xs : List V), RpL K H ds xs → RpL K H' ds xs
  | [], _, h => h
  | d :: ds, _, ⟨x, r, h1, h2, h3⟩ => ⟨x, r, h1, Rp.mono e d x h2, RpL.mono e ds r h3⟩
end
theorem RpL.length {K : PySem.W.Frag} {H : Hp} : ∀ {ds : List D} {xs : List V}, RpL K H ds xs → xs.length = ds.length
  | [], _, h => by cases h; rfl
  | _ :: ds, _, ⟨x, r, h1, _, h3⟩ => by subst h1; simp [RpL.length h3]
theorem RpL.get {K : PySem.W.Frag} {H : Hp} : ∀ {ds : List D} {xs : List V} {i : Nat} {d : D}, RpL K H ds xs → ds[i]? = some d → ∃ v, xs[i]? = some v ∧ Rp K H d v
  | [], _, _, _, _, e => by simp at e
  | _ :: ds, _, 0, _, ⟨x, r, h1, h2, _⟩, e => by subst h1; simp at e; subst e; exact ⟨x, rfl, h2⟩
  | _ :: ds, _, i + 1, d, ⟨x, r, h1, _, h3⟩, e => by
    subst h1
    obtain ⟨v, q1, q2⟩ := RpL.get (i := i) (d := d) h3 (by simpa using e)
    exact ⟨v, by simpa using q1, q2⟩
theorem RpL.get' {K : PySem.W.Frag} {H : Hp} : ∀ {ds : List D} {xs : List V} {i : Nat} {x : V}, RpL K H ds xs → xs[i]? = some x → ∃ d, ds[i]? = some d ∧ Rp K H d x
  | [], _, _, _, h, e => by cases h; simp at e
  | d :: ds, _, 0, _, ⟨x, r, h1, h2, _⟩, e => by subst h1; simp at e; subst e; exact ⟨d, rfl, h2⟩
  | _ :: ds, _, i + 1, _, ⟨x, r, h1, _, h3⟩, e => by
    subst h1
    obtain ⟨d, q1, q2⟩ := RpL.get' (i := i) h3 (by simpa using e)
    exact ⟨d, by simpa using q1, q2⟩
theorem RpL.append {K : PySem.W.Frag} {H : Hp} : ∀ {ds es : List D} {xs ys : List V}, RpL K H ds xs → RpL K H es ys → RpL K H (ds ++ es) (xs ++ ys)
  | [], _, _, _, h, q => by cases h; exact q
  | _ :: ds, _, _, _, ⟨x, r, h1, h2, h3⟩, q => by subst h1; exact ⟨x, _, rfl, h2, RpL.append h3 q⟩
theorem RpL.one {K : PySem.W.Frag} {H : Hp} {d : D} {x : V} (h : Rp K H d x) : RpL K H [d] [x] := ⟨x, [], rfl, h, rfl⟩
theorem RpL.set {K : PySem.W.Frag} {H : Hp} : ∀ {ds : List D} {xs : List V} {i : Nat} {d : D} {v : V}, RpL K H ds xs → Rp K H d v → RpL K H (ds.set i d) (xs.set i v)
  | [], _, _, _, _, h, _ => by cases h; rfl
  | _ :: ds, _, 0, _, _, ⟨x, r, h1, _, h3⟩, q => by subst h1; exact ⟨_, r, rfl, q, h3⟩
  | _ :: ds, _, i + 1, _, _, ⟨x, r, h1, h2, h3⟩, q => by subst h1; exact ⟨x, _, rfl, h2, RpL.set h3 q⟩
theorem RpL.ints {K : PySem.W.Frag} {H : Hp} : ∀ {ns : List Int} {xs : List V}, RpL K H (ns.map D.int) xs → xs = ns.map V.int
  | [], _, h => h
  | n :: ns, _, ⟨x, r, h1, h2, h3⟩ => by
    subst h1
    have e : x = V.int n := h2
    rw [e, RpL.ints h3]
    rfl
theorem RpL.ofInts {K : PySem.W.Frag} {H : Hp} : ∀ (ns : List Int), RpL K H (ns.map D.int) (ns.map V.int)
  | [] => rfl
  | n :: ns => ⟨.int n, ns.map V.int, rfl, rfl, RpL.ofInts ns⟩
theorem RpL.take {K : PySem.W.Frag} {H : Hp} : ∀ {ds : List D} {xs : List V} (n : Nat), RpL K H ds xs → RpL K H (ds.take n) (xs.take n)
  | _, _, 0, _ => by simp [RpL]
  | [], _, _ + 1, h => by cases h; rfl
  | _ :: ds, _, n + 1, ⟨x, r, h1, h2, h3⟩ => by subst h1; exact ⟨x, _, rfl, h2, RpL.take n h3⟩
theorem RpL.drop {K : PySem.W.Frag} {H : Hp} : ∀ {ds : List D} {xs : List V} (n : Nat), RpL K H ds xs → RpL K H (ds.drop n) (xs.drop n)
  | _, _, 0, h => by simpa using h
  | [], _, _ + 1, h => by cases h; rfl
  | _ :: ds, _, n + 1, ⟨x, r, h1, _, h3⟩ => by subst h1; simpa using RpL.drop n h3

/-! ### parts of the heap -/
open Classical in
noncomputable def hid (m : Addr → Prop) (H : Hp) : Hp := fun a => if m a then none else H a
theorem hid_out {m : Addr → Prop} {H : Hp} {a : Addr} (h : ¬ m a) : hid m H a = H a := by unfold hid; rw [if_neg h]
theorem hid_in {m : Addr → Prop} {H : Hp} {a : Addr} (h : m a) : hid m H a = none := by unfold hid; rw [if_pos h]
theorem hid1 {H : Hp} {a b : Addr} (h : b ≠ a) : hid (fun c => c = a) H b = H b := hid_out (m := fun c => c = a) h
theorem of_hid {m : Addr → Prop} {H : Hp} {a : Addr} {o : HO} (h : hid m H a = some o) : ¬ m a ∧ H a = some o := by
  by_cases q : m a
  · rw [hid_in q] at h; cases h
  · rw [hid_out q] at h; exact ⟨q, h⟩
theorem hid_ex {m : Addr → Prop} {H H' : Hp} (e : Ex H H') : Ex (hid m H) (hid m H') := fun a o h => by
  obtain ⟨q, h⟩ := of_hid h
  rw [hid_out q]; exact e a o h
theorem hid_le {m m' : Addr → Prop} {H : Hp} (e : ∀ a, m a → m' a) : Ex (hid m' H) (hid m H) := fun a o h => by
  obtain ⟨q, h⟩ := of_hid h
  rw [hid_out fun z => q (e a z)]; exact h
theorem hid_all {m : Addr → Prop} {H : Hp} : Ex (hid m H) H := fun a o h => (of_hid h).2
theorem hid_no {H : Hp} : hid (fun _ => False) H = H := by funext a; rw [hid_out (fun z => z)]
theorem hid_upd {m : Addr → Prop} {H : Hp} {a : Addr} {o : HO} (h : m a) : hid m (upd H a o) = hid m H := by
  funext b
  by_cases q : m b
  · rw [hid_in q, hid_in q]
  · rw [hid_out q, hid_out q, upd_ne fun e => q (by rw [e]; exact h)]
theorem hid_new {m : Addr → Prop} {H : Hp} {p : Addr} {o : HO} (h : ¬ m p) : hid m (upd H p o) = upd (hid m H) p o := by
  funext b
  by_cases e : b = p
  · subst e; rw [hid_out h, upd_same, upd_same]
  · rw [upd_ne e]
    by_cases q : m b
    · rw [hid_in q, hid_in q]
    · rw [hid_out q, hid_out q, upd_ne e]
/-- from one mask to another, where the second hides nothing that the first shows -/
theorem hid_two {m m' : Addr → Prop} {H H' : Hp} (e : ∀ a o, ¬ m a → H a = some o → ¬ m' a ∧ H' a = some o) : Ex (hid m H) (hid m' H') := fun a o h => by
  obtain ⟨q, h⟩ := of_hid h
  obtain ⟨q', h'⟩ := e a o q h
  rw [hid_out q']; exact h'

/-! ### what the slots hold -/
inductive Bd where
  | an | im (d : D) | rd (d : D) | ow (d : D) | mu (d : D)
def isMu : Option Bd → Bool
  | some (.mu _) => true
  | _ => false

/-- something stands there, and no tuple -/
def Nt (o : Option HO) : Prop := o ≠ none ∧ ∀ xs, o ≠ some (.tup xs)
theorem Nt.ex {H H' : Hp} {a : Addr} (n : Nt (H a)) (e : Ex H H') : Nt (H' a) := by
  cases q : H a with
  | none => exact absurd q n.1
  | some o => rw [e a o q, ← q]; exact n
/-- an own object at a, its contents standing in B -/
def Cell (K : PySem.W.Frag) (B H : Hp) (a : Addr) : D → Prop
  | .lst ds => ∃ xs, H a = some (.lst xs) ∧ RpL K B ds xs
  | .dk ks ds => ∃ xs, H a = some (.dK (ks.zip xs)) ∧ ks.length = ds.length ∧ RpL K B ds xs
  | .dt ks ds => ∃ xs, H a = some (.dT (ks.zip xs)) ∧ ks.length = ds.length ∧ RpL K B ds xs
  | _ => False
theorem Cell.mono {K : PySem.W.Frag} {B B' H H' : Hp} {a : Addr} {d : D} (e : Ex B B') (q : H' a = H a) (h : Cell K B H a d) : Cell K B' H' a d := by
  cases d with
  | lst ds => obtain ⟨xs, h1, h2⟩ := h; exact ⟨xs, by rw [q]; exact h1, RpL.mono e _ _ h2⟩
  | dk ks ds => obtain ⟨xs, h1, h0, h2⟩ := h; exact ⟨xs, by rw [q]; exact h1, h0, RpL.mono e _ _ h2⟩
  | dt ks ds => obtain ⟨xs, h1, h0, h2⟩ := h; exact ⟨xs, by rw [q]; exact h1, h0, RpL.mono e _ _ h2⟩
  | _ => exact h
theorem Cell.some {K : PySem.W.Frag} {B H : Hp} {a : Addr} {d : D} (h : Cell K B H a d) : Nt (H a) := by
  cases d with
  | lst ds => obtain ⟨xs, h1, _⟩ := h; rw [h1]; exact ⟨by simp, by simp⟩
  | dk ks ds => obtain ⟨xs, h1, _⟩ := h; rw [h1]; exact ⟨by simp, by simp⟩
  | dt ks ds => obtain ⟨xs, h1, _⟩ := h; rw [h1]; exact ⟨by simp, by simp⟩
  | _ => exact h.elim
/-- an own object read as data -/
theorem Cell.rp {K : PySem.W.Frag} {B H H' : Hp} {a : Addr} {d : D} (e : Ex B H') (q : H' a = H a) (h : Cell K B H a d) : Rp K H' d (.ref a) := by
  cases d with
  | lst ds => obtain ⟨xs, h1, h2⟩ := h; exact ⟨a, xs, rfl, SqL.of (by rw [q]; exact h1), RpL.mono e _ _ h2⟩
  | dk ks ds => obtain ⟨xs, h1, h0, h2⟩ := h; exact ⟨a, xs, rfl, .inl (by rw [q]; exact h1), h0, RpL.mono e _ _ h2⟩
  | dt ks ds => obtain ⟨xs, h1, h0, h2⟩ := h; exact ⟨a, xs, rfl, .inl (by rw [q]; exact h1), h0, RpL.mono e _ _ h2⟩
  | _ => exact h.elim

/-- what may change (n), what is not told of (m) -/
structure Msk where
  n : Addr → Prop
  m : Addr → Prop
  le : ∀ a, n a → m a
inductive Lv | l0 | l1 | l2 | l3
def mk (l : Lv) (M : Msk) (X : Addr → Prop) : Addr → Prop := match l with
  | .l0 => fun _ => False
  | .l1 => M.m
  | .l2 => fun a => M.m a ∨ X a
  | .l3 => X
def Lv.st : Lv → Bool
  | .l1 => true
  | .l2 => true
  | _ => false
theorem mk_le {l : Lv} {M : Msk} {X : Addr → Prop} : ∀ a, mk l M X a → M.m a ∨ X a := fun a h => by
  cases l with
  | l0 => exact h.elim
  | l1 => exact .inl h
  | l2 => exact h
  | l3 => exact .inr h

structure ER (K : PySem.W.Frag) (X : Addr → Prop) (a0 : Addr) (H0 : Hp) (M : Msk) (ad : Nat → Addr) (σ : St) (H : Hp) (env : List Bd) : Prop where
  len : σ.length = env.length
  ex : Ex H0 H
  xin : ∀ a, X a → Nt (H0 a) ∨ (a = a0 ∧ ∃ i : Nat, isMu env[i]? = true)
  min : ∀ a, M.m a → Nt (H a)
  mout : ∀ a, M.m a → H0 a = none
  im : ∀ (i : Nat) d, env[i]? = some (.im d) → ∃ v, σ[i]? = some (some v) ∧ Rp K (hid (fun a => M.m a ∨ X a) H) d v
  rd : ∀ (i : Nat) d, env[i]? = some (.rd d) → ∃ v, σ[i]? = some (some v) ∧ Rp K (hid M.m H) d v
  ow : ∀ (i : Nat) d, env[i]? = some (.ow d) → M.n (ad i) ∧ σ[i]? = some (some (.ref (ad i))) ∧ Cell K (hid (fun a => M.m a ∨ X a) H) H (ad i) d
  mu : ∀ (i : Nat) d, env[i]? = some (.mu d) → M.n a0 ∧ σ[i]? = some (some (.ref a0)) ∧ Cell K (hid (fun a => M.m a ∨ X a) H) H a0 d
  inj : ∀ (i j : Nat) d e, env[i]? = some (.ow d) → env[j]? = some (.ow e) → ad i = ad j → i = j
  nmu : ∀ (i j : Nat) d, env[i]? = some (.ow d) → isMu env[j]? = true → ad i ≠ a0
  mu1 : ∀ (i j : Nat), isMu env[i]? = true → isMu env[j]? = true → i = j

section
variable {K : PySem.W.Frag} {X : Addr → Prop} {a0 : Addr} {H0 : Hp} {M : Msk} {ad : Nat → Addr} {σ : St} {H H' : Hp} {env : List Bd}
theorem ER.has (E : ER K X a0 H0 M ad σ H env) {a : Addr} (h : X a) : Nt (H a) := by
  rcases E.xin a h with q | ⟨q, i, hi⟩
  · exact q.ex E.ex
  · subst q
    cases e : env[i]? with
    | none => rw [e] at hi; cases hi
    | some b =>
      cases b with
      | mu d => exact (E.mu i d e).2.2.some
      | _ => rw [e] at hi; cases hi
theorem ER.owX (E : ER K X a0 H0 M ad σ H env) {i : Nat} {d : D} (h : env[i]? = some (.ow d)) : ¬ X (ad i) := fun hx => by
  rcases E.xin _ hx with q | ⟨q, j, hj⟩
  · exact q.1 (E.mout _ (M.le _ (E.ow i d h).1))
  · exact E.nmu i j d h hj q
/-- the heap has grown, nothing changed -/
theorem ER.grow (E : ER K X a0 H0 M ad σ H env) (e : Ex H H') : ER K X a0 H0 M ad σ H' env where
  len := E.len
  ex := E.ex.trans e
  xin := E.xin
  min := fun a h => (E.min a h).ex e
  mout := E.mout
  im := fun i d h => let ⟨v, h1, h2⟩ := E.im i d h; ⟨v, h1, Rp.mono (hid_ex e) _ _ h2⟩
  rd := fun i d h => let ⟨v, h1, h2⟩ := E.rd i d h; ⟨v, h1, Rp.mono (hid_ex e) _ _ h2⟩
  ow := fun i d h => by
    obtain ⟨h1, h2, h3⟩ := E.ow i d h
    refine ⟨h1, h2, h3.mono (hid_ex e) ?_⟩
    cases q : H (ad i) with
    | none => exact absurd q h3.some.1
    | some o => exact e _ o q
  mu := fun i d h => by
    obtain ⟨h1, h2, h3⟩ := E.mu i d h
    refine ⟨h1, h2, h3.mono (hid_ex e) ?_⟩
    cases q : H a0 with
    | none => exact absurd q h3.some.1
    | some o => exact e _ o q
  inj := E.inj
  nmu := E.nmu
  mu1 := E.mu1
end

/-! ### what an expression is worth -/
def EvD (K : PySem.W.Frag) (l : Lv) (p : Bool) (te : TE) (env env' : List Bd) (d : D) : Prop :=
  ∀ X a0 H0 M ad σ H (Q : VK), ER K X a0 H0 M ad σ H env →
    (∀ v H', ER K X a0 H0 M ad σ H' env' → Ex (hid M.n H) (hid M.n H') → (p = true → Ex H H') → Rp K (hid (mk l M X) H') d v → Q v H') → te σ H Q
def EvB (K : PySem.W.Frag) (p : Bool) (tt : TT) (env env' : List Bd) (b : Bool) : Prop :=
  ∀ X a0 H0 M ad σ H (Q : Bool → Hp → Prop), ER K X a0 H0 M ad σ H env →
    (∀ H', ER K X a0 H0 M ad σ H' env' → Ex (hid M.n H) (hid M.n H') → (p = true → Ex H H') → Q b H') → tt σ H Q
/-- arguments, all at one level -/
def EvA (K : PySem.W.Frag) (l : Lv) (p : Bool) (ta : TA) (env env' : List Bd) (ds : List D) : Prop :=
  ∀ X a0 H0 M ad σ H (Q : List V → Hp → Prop), ER K X a0 H0 M ad σ H env →
    (∀ vs H', ER K X a0 H0 M ad σ H' env' → Ex (hid M.n H) (hid M.n H') → (p = true → Ex H H') → RpL K (hid (mk l M X) H') ds vs → Q vs H') → ta σ H Q

section
variable {K : PySem.W.Frag} {X : Addr → Prop} {a0 : Addr} {H0 : Hp} {M : Msk} {ad : Nat → Addr} {σ : St} {H H' : Hp} {env env' env'' : List Bd} {l : Lv} {p q : Bool} {d d' : D} {ta tb te : TE} {i : Nat}
/-- what is known of a value stays, behind a later expression -/
theorem nm (e : Ex (hid M.n H) (hid M.n H')) : Ex (hid M.m H) (hid M.m H') := hid_two fun a o h1 h2 => ⟨h1, (of_hid (e a o (by rw [hid_out fun z => h1 (M.le a z)]; exact h2))).2⟩
theorem keepL (hl : (l.st || q) = true) (e : Ex (hid M.n H) (hid M.n H')) (e' : q = true → Ex H H') : Ex (hid (mk l M X) H) (hid (mk l M X) H') := by
  cases l with
  | l1 => exact nm e
  | l2 => exact hid_two fun a o h1 h2 => ⟨h1, (of_hid (e a o (by rw [hid_out fun z => h1 (.inl (M.le a z))]; exact h2))).2⟩
  | l0 => exact hid_ex (e' (by simpa [Lv.st] using hl))
  | l3 => exact hid_ex (e' (by simpa [Lv.st] using hl))
theorem seqE {H1 H2 : Hp} (a : Ex (hid M.n H) (hid M.n H1)) (b : Ex (hid M.n H1) (hid M.n H2)) : Ex (hid M.n H) (hid M.n H2) := a.trans b
theorem seqP {H1 H2 : Hp} (a : p = true → Ex H H1) (b : q = true → Ex H1 H2) : (p && q) = true → Ex H H2 := fun h => by
  have h' : p = true ∧ q = true := by simpa using h
  exact (a h'.1).trans (b h'.2)

theorem ev_im (h : env[i]? = some (.im d)) : EvD K l true (tVar i) env env d := fun X a0 H0 M ad σ H Q E k => by
  obtain ⟨v, h1, h2⟩ := E.im i d h
  exact ⟨v, h1, k v H E (Ex.refl _) (fun _ => Ex.refl _) (Rp.mono (hid_le mk_le) _ _ h2)⟩
theorem ev_rd (hl : l = .l0 ∨ l = .l1) (h : env[i]? = some (.rd d)) : EvD K l true (tVar i) env env d := fun X a0 H0 M ad σ H Q E k => by
  obtain ⟨v, h1, h2⟩ := E.rd i d h
  refine ⟨v, h1, k v H E (Ex.refl _) (fun _ => Ex.refl _) (Rp.mono (hid_le fun a ha => ?_) _ _ h2)⟩
  rcases hl with rfl | rfl
  · exact ha.elim
  · exact ha
theorem ev_ow (hl : l = .l0 ∨ l = .l3) (h : env[i]? = some (.ow d)) : EvD K l true (tVar i) env env d := fun X a0 H0 M ad σ H Q E k => by
  obtain ⟨h1, h2, h3⟩ := E.ow i d h
  refine ⟨_, h2, k _ H E (Ex.refl _) (fun _ => Ex.refl _) (h3.rp (hid_le mk_le) ?_)⟩
  rcases hl with rfl | rfl
  · exact hid_out (fun z => z)
  · exact hid_out (E.owX h)
theorem ev_mu (h : env[i]? = some (.mu d)) : EvD K .l0 true (tVar i) env env d := fun X a0 H0 M ad σ H Q E k => by
  obtain ⟨h1, h2, h3⟩ := E.mu i d h
  exact ⟨_, h2, k _ H E (Ex.refl _) (fun _ => Ex.refl _) (h3.rp (hid_le mk_le) (hid_out fun z => z))⟩
theorem ev_int {n : Int} : EvD K l true (tC (.int n)) env env (.int n) := fun X a0 H0 M ad σ H Q E k => k _ H E (Ex.refl _) (fun _ => Ex.refl _) rfl
theorem ev_bl {b : Bool} : EvD K l true (tC (.bl b)) env env (.bl b) := fun X a0 H0 M ad σ H Q E k => k _ H E (Ex.refl _) (fun _ => Ex.refl _) rfl
theorem ev_non : EvD K l true (tC .non) env env .non := fun X a0 H0 M ad σ H Q E k => k _ H E (Ex.refl _) (fun _ => Ex.refl _) rfl
theorem ev_str {s : Str} : EvD K l true (tC (.str s)) env env (.str s) := fun X a0 H0 M ad σ H Q E k => k _ H E (Ex.refl _) (fun _ => Ex.refl _) rfl
/-- a scalar stands at every level -/
def scl : D → Bool
  | .non => true
  | .bl _ => true
  | .int _ => true
  | .str _ => true
  | _ => false
theorem Rp.scl {B B' : Hp} {v : V} (h : scl d = true) (r : Rp K B d v) : Rp K B' d v := by
  cases d <;> first | exact r | cases h
theorem ev_lv {l' : Lv} (hs : scl d = true) (h : EvD K l p te env env' d) : EvD K l' p te env env' d := fun X a0 H0 M ad σ H Q E k =>
  h X a0 H0 M ad σ H Q E fun v H' E' e1 e2 r => k v H' E' e1 e2 (r.scl hs)
theorem ev_is (h : EvD K l p te env env' d) (e : d = d') : EvD K l p te env env' d' := e ▸ h

/-- two operands, then the operation by values -/
def RV (K : PySem.W.Frag) (l l' : Lv) (r : R2) (d d' e : D) : Prop :=
  ∀ X a0 H0 M ad σ H env x y (Q : VK), ER K X a0 H0 M ad σ H env → Rp K (hid (mk l M X) H) d x → Rp K (hid (mk l M X) H) d' y → (∀ v H', ER K X a0 H0 M ad σ H' env → Ex H H' → Rp K (hid (mk l' M X) H') e v → Q v H') → r x y H Q
theorem ev_op {r : R2} {l' : Lv} {e : D} (hl : (l.st || q) = true) (ha : EvD K l p ta env env' d) (hb : EvD K l q tb env' env'' d') (hr : RV K l l' r d d' e) : EvD K l' (p && q) (tOp r ta tb) env env'' e :=
  fun X a0 H0 M ad σ H Q E k => ha X a0 H0 M ad σ H _ E fun x H1 E1 e1 p1 r1 => hb X a0 H0 M ad σ H1 _ E1 fun y H2 E2 e2 p2 r2 =>
    hr X a0 H0 M ad σ H2 env'' x y _ E2 (Rp.mono (keepL hl e2 p2) _ _ r1) r2 fun v H' E' e3 rv => k v H' E' (seqE (seqE e1 e2) (hid_ex e3)) (fun h => (seqP p1 p2 h).trans e3) rv
theorem rv_I0 {g : Int → Int → V} {e : D} {i j : Int} {l' : Lv} (h : ∀ B, Rp K B e (g i j)) : RV K l l' (rI0 g) (.int i) (.int j) e := fun X a0 H0 M ad σ H env x y Q E rx ry k =>
  ⟨i, j, rx, ry, k _ H E (Ex.refl _) (h _)⟩
theorem rv_I {C : Int → Int → Prop} {g : Int → Int → V} {e : D} {i j : Int} {l' : Lv} (hc : C i j) (h : ∀ B, Rp K B e (g i j)) : RV K l l' (rI C g) (.int i) (.int j) e := fun X a0 H0 M ad σ H env x y Q E rx ry k =>
  ⟨i, j, rx, ry, hc, k _ H E (Ex.refl _) (h _)⟩
theorem rv_ixL {ds : List D} {i : Int} {e : D} (h : atI ds i = some e) : RV K l l (rIxL K) (.lst ds) (.int i) e := fun X a0 H0 M ad σ H env x y Q E rx ry k => by
  obtain ⟨a, xs, rfl, hq, hr⟩ := rx
  unfold atI at h
  obtain ⟨j, hj, hd⟩ := Option.bind_eq_some_iff.mp h
  obtain ⟨v, h1, h2⟩ := hr.get hd
  refine ⟨a, xs, i, v, rfl, ry, ex_l hid_all hq, ?_, k v H E (Ex.refl _) h2⟩
  unfold atI
  rw [hr.length, hj]
  exact h1
theorem rv_ixT {ds : List D} {i : Int} {e : D} (h : atI ds i = some e) : RV K l l (rIxT K) (.tup ds) (.int i) e := fun X a0 H0 M ad σ H env x y Q E rx ry k => by
  obtain ⟨a, xs, rfl, hq, hr⟩ := rx
  unfold atI at h
  obtain ⟨j, hj, hd⟩ := Option.bind_eq_some_iff.mp h
  obtain ⟨v, h1, h2⟩ := hr.get hd
  refine ⟨a, xs, i, v, rfl, ry, ex_s hid_all hq, ?_, k v H E (Ex.refl _) h2⟩
  unfold atI
  rw [hr.length, hj]
  exact h1
end
end Pw
namespace Pw
open PySem L2

section
variable {K : PySem.W.Frag} {X : Addr → Prop} {a0 : Addr} {H0 : Hp} {M : Msk} {ad : Nat → Addr} {σ : St} {H H' : Hp} {env env' env'' : List Bd} {l l' : Lv} {p q : Bool} {d d' e : D} {ta tb te : TE} {t u : TT} {i j : Nat} {b c : Bool}
theorem ev_up (h : EvD K .l2 p te env env' d) : EvD K l p te env env' d := fun X a0 H0 M ad σ H Q E k =>
  h X a0 H0 M ad σ H Q E fun v H' E' e1 e2 r => k v H' E' e1 e2 (Rp.mono (hid_le mk_le) _ _ r)
theorem ev_p (h : EvD K l true te env env' d) : EvD K l p te env env' d := fun X a0 H0 M ad σ H Q E k =>
  h X a0 H0 M ad σ H Q E fun v H' E' e1 e2 r => k v H' E' e1 (fun _ => e2 rfl) r
theorem ev_un {f : Int → V} {n : Int} (ha : EvD K l p ta env env' (.int n)) (h : ∀ B, Rp K B e (f n)) : EvD K l' p (tUn (rU f) ta) env env' e := fun X a0 H0 M ad σ H Q E k =>
  ha X a0 H0 M ad σ H _ E fun x H1 E1 e1 p1 r1 => ⟨n, r1, k _ H1 E1 e1 p1 (h _)⟩

/-! ### tests -/
theorem eb_test (h : EvD K l p te env env' (.bl b)) : EvB K p (tTest te) env env' b := fun X a0 H0 M ad σ H Q E k =>
  h X a0 H0 M ad σ H _ E fun x H1 E1 e1 p1 r1 => ⟨b, r1, k H1 E1 e1 p1⟩
theorem eb_B (h : EvD K l p te env env' (.bl b)) : EvB K p (tB te) env env' b := fun X a0 H0 M ad σ H Q E k =>
  h X a0 H0 M ad σ H _ E fun x H1 E1 e1 p1 r1 => ⟨b, r1, k H1 E1 e1 p1⟩
theorem eb_yes : EvB K true tYes env env true := fun X a0 H0 M ad σ H Q E k => k H E (Ex.refl _) fun _ => Ex.refl _
theorem eb_not (h : EvB K p t env env' b) : EvB K p (tNot t) env env' (!b) := fun X a0 H0 M ad σ H Q E k => h X a0 H0 M ad σ H _ E k
theorem eb_is (h : EvB K p t env env' b) (e : b = c) : EvB K p t env env' c := e ▸ h
theorem eb_and (h : EvB K p t env env b) (h' : b = true → EvB K p u env env c) : EvB K p (tAnd t u) env env (b && c) := fun X a0 H0 M ad σ H Q E k =>
  h X a0 H0 M ad σ H _ E fun H1 E1 e1 p1 => by
    cases b with
    | true => exact h' rfl X a0 H0 M ad σ H1 Q E1 fun H2 E2 e2 p2 => k H2 E2 (e1.trans e2) fun z => (p1 z).trans (p2 z)
    | false => exact k H1 E1 e1 p1
theorem eb_or (h : EvB K p t env env b) (h' : b = false → EvB K p u env env c) : EvB K p (tOr t u) env env (b || c) := fun X a0 H0 M ad σ H Q E k =>
  h X a0 H0 M ad σ H _ E fun H1 E1 e1 p1 => by
    cases b with
    | false => exact h' rfl X a0 H0 M ad σ H1 Q E1 fun H2 E2 e2 p2 => k H2 E2 (e1.trans e2) fun z => (p1 z).trans (p2 z)
    | true => exact k H1 E1 e1 p1
theorem ev_andV (h : EvD K l p ta env env (.bl b)) (h' : b = true → EvD K l p tb env env (.bl c)) : EvD K l' p (tAndV ta tb) env env (.bl (b && c)) := fun X a0 H0 M ad σ H Q E k =>
  h X a0 H0 M ad σ H _ E fun x H1 E1 e1 p1 r1 => ⟨b, r1, by
    cases b with
    | true => exact h' rfl X a0 H0 M ad σ H1 Q E1 fun y H2 E2 e2 p2 r2 => k y H2 E2 (e1.trans e2) (fun z => (p1 z).trans (p2 z)) r2
    | false => exact k _ H1 E1 e1 p1 rfl⟩
theorem ev_orV (h : EvD K l p ta env env (.bl b)) (h' : b = false → EvD K l p tb env env (.bl c)) : EvD K l' p (tOrV ta tb) env env (.bl (b || c)) := fun X a0 H0 M ad σ H Q E k =>
  h X a0 H0 M ad σ H _ E fun x H1 E1 e1 p1 r1 => ⟨b, r1, by
    cases b with
    | false => exact h' rfl X a0 H0 M ad σ H1 Q E1 fun y H2 E2 e2 p2 r2 => k y H2 E2 (e1.trans e2) (fun z => (p1 z).trans (p2 z)) r2
    | true => exact k _ H1 E1 e1 p1 rfl⟩
theorem ev_notV (h : EvD K l p ta env env' (.bl b)) : EvD K l' p (tNotV ta) env env' (.bl (!b)) := fun X a0 H0 M ad σ H Q E k =>
  h X a0 H0 M ad σ H _ E fun x H1 E1 e1 p1 r1 => ⟨b, r1, k _ H1 E1 e1 p1 rfl⟩
theorem ev_if (h : EvB K p t env env' b) (h1 : b = true → EvD K l p ta env' env'' d) (h2 : b = false → EvD K l p tb env' env'' d) : EvD K l p (tIf t ta tb) env env'' d := fun X a0 H0 M ad σ H Q E k =>
  h X a0 H0 M ad σ H _ E fun H1 E1 e1 p1 => by
    cases b with
    | true => exact h1 rfl X a0 H0 M ad σ H1 Q E1 fun y H2 E2 e2 p2 r2 => k y H2 E2 (e1.trans e2) (fun z => (p1 z).trans (p2 z)) r2
    | false => exact h2 rfl X a0 H0 M ad σ H1 Q E1 fun y H2 E2 e2 p2 r2 => k y H2 E2 (e1.trans e2) (fun z => (p1 z).trans (p2 z)) r2
/-- a < b < c, all at once -/
theorem ev_chain {r r' : R2} {tc : TE} {d1 d2 d3 : D} (hb2 : c = true ∨ c = false) (ha : EvD K .l2 true ta env env d1) (hb : EvD K .l2 true tb env env d2) (hc : EvD K .l2 true tc env env d3)
    (hr : RV K .l2 .l2 r d1 d2 (.bl b)) (hr' : RV K .l2 .l2 r' d2 d3 (.bl c)) : EvD K l true (tChain r r' ta tb tc) env env (.bl (b && c)) := fun X a0 H0 M ad σ H Q E k =>
  ha X a0 H0 M ad σ H _ E fun x H1 E1 e1 p1 r1 => hb X a0 H0 M ad σ H1 _ E1 fun y H2 E2 e2 p2 r2 =>
    hr X a0 H0 M ad σ H2 env x y _ E2 (Rp.mono (keepL (q := true) rfl e2 p2) _ _ r1) r2 fun v H3 E3 e3 r3 => ⟨b, r3, by
      cases b with
      | true =>
        exact hc X a0 H0 M ad σ H3 _ E3 fun z H4 E4 e4 p4 r4 => hr' X a0 H0 M ad σ H4 env y z _ E4 (Rp.mono (keepL (l := .l2) (q := true) rfl ((hid_ex e3).trans e4) fun z => e3.trans (p4 z)) _ _ r2) r4 fun v5 H5 E5 e5 r5 =>
          k v5 H5 E5 (((e1.trans e2).trans (hid_ex e3)).trans (e4.trans (hid_ex e5))) (fun _ => ((((p1 rfl).trans (p2 rfl)).trans e3).trans (p4 rfl)).trans e5) r5
      | false => exact k _ H3 E3 ((e1.trans e2).trans (hid_ex e3)) (fun _ => ((p1 rfl).trans (p2 rfl)).trans e3) rfl⟩

/-! ### arguments, displays -/
theorem ea_nil : EvA K l true tNil env env [] := fun X a0 H0 M ad σ H Q E k => k [] H E (Ex.refl _) (fun _ => Ex.refl _) rfl
theorem ea_cons {ts : TA} {ds : List D} (hl : (l.st || q) = true) (h : EvD K l p te env env' d) (hs : EvA K l q ts env' env'' ds) : EvA K l (p && q) (tCons te ts) env env'' (d :: ds) := fun X a0 H0 M ad σ H Q E k =>
  h X a0 H0 M ad σ H _ E fun x H1 E1 e1 p1 r1 => hs X a0 H0 M ad σ H1 _ E1 fun xs H2 E2 e2 p2 r2 =>
    k (x :: xs) H2 E2 (e1.trans e2) (seqP p1 p2) ⟨x, xs, rfl, Rp.mono (keepL hl e2 p2) _ _ r1, r2⟩
theorem fresh_mk (E : ER K X a0 H0 M ad σ H env) {a : Addr} (h : H a = none) : ¬ mk l M X a := fun z => by
  rcases mk_le a z with z | z
  · exact (E.min a z).1 h
  · exact (E.has z).1 h
theorem ev_tup {ts : TA} {ds : List D} (h : EvA K l p ts env env' ds) (hn : ds.length ≤ 1000) : EvD K l p (tTup ts) env env' (.tup ds) := fun X a0 H0 M ad σ H Q E k =>
  h X a0 H0 M ad σ H _ E fun xs H1 E1 e1 p1 r1 => ⟨by rw [r1.length]; exact Nat.le_trans hn (by decide), fun a ha => by
    have g : Ex H1 (upd H1 a (.tup xs)) := Ex.new ha
    refine k _ _ (E1.grow g) (e1.trans (hid_ex g)) (fun z => (p1 z).trans g) ⟨a, xs, rfl, ?_, RpL.mono (hid_ex g) _ _ r1⟩
    rw [hid_out (fresh_mk E1 ha), upd_same]⟩
/-- a new object of one's own -/
def EvF (K : PySem.W.Frag) (p : Bool) (te : TE) (env env' : List Bd) (d : D) : Prop :=
  ∀ X a0 H0 M ad σ H (Q : VK), ER K X a0 H0 M ad σ H env →
    (∀ a H1 H', H1 a = none → (∀ b o, H b = some o → H1 b ≠ none) → ER K X a0 H0 M ad σ H1 env' → Ex H1 H' → Ex (hid M.n H) (hid M.n H1) → (p = true → Ex H H1) → Cell K (hid (fun b => M.m b ∨ X b) H1) H' a d → Q (.ref a) H') → te σ H Q
theorem ef_ev (h : EvF K p te env env' d) : EvD K l p te env env' d := fun X a0 H0 M ad σ H Q E k =>
  h X a0 H0 M ad σ H Q E fun a H1 H' ha _ E1 g e1 p1 r1 => by
    refine k _ H' (E1.grow g) (e1.trans (hid_ex g)) (fun z => (p1 z).trans g) (r1.rp ?_ (hid_out (fresh_mk E1 ha)))
    exact (hid_ex g).trans (hid_le mk_le)
theorem stays (E : ER K X a0 H0 M ad σ H env) (E1 : ER K X a0 H0 M ad σ H' env') (e : Ex (hid M.n H) (hid M.n H')) : ∀ b o, H b = some o → H' b ≠ none := fun b o h => by
  by_cases m : M.n b
  · exact (E1.min b (M.le b m)).1
  · have z := e b o (by rw [hid_out m]; exact h)
    rw [(of_hid z).2]; simp
theorem ef_lst {ts : TA} {ds : List D} (h : EvA K .l2 p ts env env' ds) (hn : ds.length ≤ 1000) : EvF K p (tLst ts) env env' (.lst ds) := fun X a0 H0 M ad σ H Q E k =>
  h X a0 H0 M ad σ H _ E fun xs H1 E1 e1 p1 r1 => ⟨by rw [r1.length]; exact Nat.le_trans hn (by decide), fun a ha =>
    k a H1 _ ha (stays E E1 e1) E1 (Ex.new ha) e1 p1 ⟨xs, upd_same, r1⟩⟩
theorem ev_lst {ts : TA} {ds : List D} (h : EvA K l p ts env env' ds) (hn : ds.length ≤ 1000) : EvD K l p (tLst ts) env env' (.lst ds) := fun X a0 H0 M ad σ H Q E k =>
  h X a0 H0 M ad σ H _ E fun xs H1 E1 e1 p1 r1 => ⟨by rw [r1.length]; exact Nat.le_trans hn (by decide), fun a ha => by
    have g : Ex H1 (upd H1 a (.lst xs)) := Ex.new ha
    refine k _ _ (E1.grow g) (e1.trans (hid_ex g)) (fun z => (p1 z).trans g) ⟨a, xs, rfl, SqL.of ?_, RpL.mono (hid_ex g) _ _ r1⟩
    rw [hid_out (fresh_mk E1 ha), upd_same]⟩
theorem ef_dk : EvF K true tDNewK env env (.dk [] []) := fun X a0 H0 M ad σ H Q E k => fun a ha =>
  k a H _ ha (fun b o h => by rw [h]; simp) E (Ex.new ha) (Ex.refl _) (fun _ => Ex.refl _) ⟨[], upd_same, rfl, rfl⟩
theorem ef_dt : EvF K true tDNewT env env (.dt [] []) := fun X a0 H0 M ad σ H Q E k => fun a ha =>
  k a H _ ha (fun b o h => by rw [h]; simp) E (Ex.new ha) (Ex.refl _) (fun _ => Ex.refl _) ⟨[], upd_same, rfl, rfl⟩

/-! ### built-in calls by values -/
def RC (K : PySem.W.Frag) (l l' : Lv) (r : List V → Hp → VK → Prop) (ds : List D) (e : D) : Prop :=
  ∀ X a0 H0 M ad σ H env xs (Q : VK), ER K X a0 H0 M ad σ H env → RpL K (hid (mk l M X) H) ds xs → (∀ v H', ER K X a0 H0 M ad σ H' env → Ex H H' → Rp K (hid (mk l' M X) H') e v → Q v H') → r xs H Q
theorem ev_cb {r : List V → Hp → VK → Prop} {ts : TA} {ds : List D} (h : EvA K l p ts env env' ds) (hr : RC K l l' r ds e) : EvD K l' p (tCB r ts) env env' e := fun X a0 H0 M ad σ H Q E k =>
  h X a0 H0 M ad σ H _ E fun xs H1 E1 e1 p1 r1 => hr X a0 H0 M ad σ H1 env' xs _ E1 r1 fun v H' E' g rv => k v H' E' (e1.trans (hid_ex g)) (fun z => (p1 z).trans g) rv
theorem RpL.one' {B : Hp} {xs : List V} (h : RpL K B [d] xs) : ∃ x, xs = [x] ∧ Rp K B d x := by
  obtain ⟨x, r, h1, h2, h3⟩ := h
  cases h3
  exact ⟨x, h1, h2⟩
theorem rc_len_l {ds : List D} : RC K l l' (fun xs H Q => ∃ p ys, xs = [.ref p] ∧ (SqL K H p ys ∨ SqT K H p ys) ∧ Q (.int ys.length) H) [.lst ds] (.int (ds.length : Int)) := fun X a0 H0 M ad σ H env xs Q E r k => by
  obtain ⟨x, rfl, a, ys, rfl, h1, h2⟩ := r.one'
  exact ⟨a, ys, rfl, .inl (ex_l hid_all h1), k _ H E (Ex.refl _) (by rw [h2.length]; rfl)⟩
theorem rc_len_t {ds : List D} : RC K l l' (fun xs H Q => ∃ p ys, xs = [.ref p] ∧ (SqL K H p ys ∨ SqT K H p ys) ∧ Q (.int ys.length) H) [.tup ds] (.int (ds.length : Int)) := fun X a0 H0 M ad σ H env xs Q E r k => by
  obtain ⟨x, rfl, a, ys, rfl, h1, h2⟩ := r.one'
  exact ⟨a, ys, rfl, .inr (ex_s hid_all h1), k _ H E (Ex.refl _) (by rw [h2.length]; rfl)⟩
theorem rc_int_i {n : Int} : RC K l l' (fun xs H Q => (∃ i, xs = [.int i] ∧ Q (.int i) H) ∨ ∃ k, xs = [.bl k] ∧ Q (.int (if k then 1 else 0)) H) [.int n] (.int n) := fun X a0 H0 M ad σ H env xs Q E r k => by
  obtain ⟨x, rfl, h⟩ := r.one'
  have h : x = V.int n := h
  subst h
  exact .inl ⟨n, rfl, k _ H E (Ex.refl _) rfl⟩
theorem rc_int_b : RC K l l' (fun xs H Q => (∃ i, xs = [.int i] ∧ Q (.int i) H) ∨ ∃ k, xs = [.bl k] ∧ Q (.int (if k then 1 else 0)) H) [.bl b] (.int (if b then 1 else 0)) := fun X a0 H0 M ad σ H env xs Q E r k => by
  obtain ⟨x, rfl, h⟩ := r.one'
  have h : x = V.bl b := h
  subst h
  exact .inr ⟨b, rfl, k _ H E (Ex.refl _) rfl⟩
/-- tuple(list), list(list), list(tuple): a new one -/
theorem ev_tuple_of {ts : TA} {ds : List D} (h : EvA K l p ts env env' [.lst ds]) : EvD K l p (tCB (fun xs H Q => ∃ p ys, xs = [.ref p] ∧ ((SqL K H p ys ∧ ∀ l, H l = none → Q (.ref l) (upd H l (.tup ys))) ∨ (SqT K H p ys ∧ Q (.ref p) H))) ts) env env' (.tup ds) := fun X a0 H0 M ad σ H Q E k =>
  h X a0 H0 M ad σ H _ E fun xs H1 E1 e1 p1 r1 => by
    obtain ⟨x, rfl, a, ys, rfl, h1, h2⟩ := r1.one'
    refine ⟨a, ys, rfl, .inl ⟨ex_l hid_all h1, fun c hc => ?_⟩⟩
    have g : Ex H1 (upd H1 c (.tup ys)) := Ex.new hc
    refine k _ _ (E1.grow g) (e1.trans (hid_ex g)) (fun z => (p1 z).trans g) ⟨c, ys, rfl, ?_, RpL.mono (hid_ex g) _ _ h2⟩
    rw [hid_out (fresh_mk E1 hc), upd_same]
/-- .. of one's own list: the tuple holds what the list holds -/
theorem ev_tuple_ow {ds : List D} (h : env[i]? = some (.ow (.lst ds))) : EvD K l true (tCB (fun xs H Q => ∃ p ys, xs = [.ref p] ∧ ((SqL K H p ys ∧ ∀ l, H l = none → Q (.ref l) (upd H l (.tup ys))) ∨ (SqT K H p ys ∧ Q (.ref p) H))) (tCons (tVar i) tNil)) env env (.tup ds) := fun X a0 H0 M ad σ H Q E k => by
  obtain ⟨h1, h2, ys, h3, h4⟩ := E.ow i _ h
  refine ⟨_, h2, ad i, ys, rfl, .inl ⟨SqL.of h3, fun c hc => ?_⟩⟩
  have g : Ex H (upd H c (.tup ys)) := Ex.new hc
  refine k _ _ (E.grow g) (hid_ex g) (fun z => g) ⟨c, ys, rfl, ?_, RpL.mono ((hid_ex g).trans (hid_le mk_le)) _ _ h4⟩
  rw [hid_out (fresh_mk E hc), upd_same]
/-- an item of one's own list -/
theorem ev_ixOw {ds : List D} {n : Int} (h : env[i]? = some (.ow (.lst ds))) (hb : EvD K l p tb env env (.int n)) (hd : atI ds n = some d) : EvD K l' p (tOp (rIxL K) (tVar i) tb) env env d := fun X a0 H0 M ad σ H Q E k => by
  obtain ⟨_, h2, _⟩ := E.ow i _ h
  refine ⟨_, h2, hb X a0 H0 M ad σ H _ E fun y H1 E1 e1 p1 r1 => ?_⟩
  obtain ⟨_, _, xs, h3, h4⟩ := E1.ow i _ h
  unfold atI at hd
  obtain ⟨j, hj, hd⟩ := Option.bind_eq_some_iff.mp hd
  obtain ⟨v, g1, g2⟩ := h4.get hd
  refine ⟨ad i, xs, n, v, rfl, r1, SqL.of h3, ?_, k v H1 E1 e1 p1 (Rp.mono (hid_le mk_le) _ _ g2)⟩
  unfold atI
  rw [h4.length, hj]
  exact g1
theorem ev_ixMu {ds : List D} {n : Int} (h : env[i]? = some (.mu (.lst ds))) (hb : EvD K l p tb env env (.int n)) (hd : atI ds n = some d) : EvD K l' p (tOp (rIxL K) (tVar i) tb) env env d := fun X a0 H0 M ad σ H Q E k => by
  obtain ⟨_, h2, _⟩ := E.mu i _ h
  refine ⟨_, h2, hb X a0 H0 M ad σ H _ E fun y H1 E1 e1 p1 r1 => ?_⟩
  obtain ⟨_, _, xs, h3, h4⟩ := E1.mu i _ h
  unfold atI at hd
  obtain ⟨j, hj, hd⟩ := Option.bind_eq_some_iff.mp hd
  obtain ⟨v, g1, g2⟩ := h4.get hd
  refine ⟨a0, xs, n, v, rfl, r1, SqL.of h3, ?_, k v H1 E1 e1 p1 (Rp.mono (hid_le mk_le) _ _ g2)⟩
  unfold atI
  rw [h4.length, hj]
  exact g1
end

/-! ### statements -/
inductive Out where
  | nx (env : List Bd) | bk (env : List Bd) | ct (env : List Bd) | rx (d : D) | rm (d d' : D) | rf (d : D)
def Out.ret : Out → Bool
  | .rx _ => true
  | .rm _ _ => true
  | .rf _ => true
  | _ => false
section
variable {K : PySem.W.Frag} {X : Addr → Prop} {a0 : Addr} {H0 : Hp} {M : Msk} {ad : Nat → Addr} {σ : St} {H H' : Hp} {env env' env'' : List Bd} {l l' : Lv} {p q : Bool} {d d' e : D} {ta tb te : TE} {t u : TT} {i j : Nat} {b c : Bool} {ts tu te' : TS} {o : Out} {Dn : Ends}
def OK (K : PySem.W.Frag) (X : Addr → Prop) (a0 : Addr) (H0 : Hp) (Dn : Ends) : Out → Prop
  | .nx env => ∀ M ad σ H, ER K X a0 H0 M ad σ H env → Dn.nx σ H
  | .bk env => ∀ M ad σ H, ER K X a0 H0 M ad σ H env → Dn.bk σ H
  | .ct env => ∀ M ad σ H, ER K X a0 H0 M ad σ H env → Dn.ct σ H
  | .rx d => ∀ env M ad σ v H, ER K X a0 H0 M ad σ H env → Rp K (hid X H) d v → Dn.rt v H
  | .rm d d' => ∀ env M ad σ v H, env[0]? = some (.mu d') → ER K X a0 H0 M ad σ H env → Rp K (hid X H) d v → Dn.rt v H
  | .rf d => ∀ env M ad σ a H H', H a = none → ER K X a0 H0 M ad σ H env → Ex H H' → Cell K (hid X H) H' a d → Dn.rt (.ref a) H'
def SD (K : PySem.W.Frag) (ts : TS) (env : List Bd) (o : Out) : Prop :=
  ∀ X a0 H0 M ad σ H Dn, ER K X a0 H0 M ad σ H env → OK K X a0 H0 Dn o → ts Dn σ H
def Out.nxt : Out → Bool
  | .nx _ => true
  | _ => false
theorem sd_seq (h1 : SD K ts env (.nx env')) (h2 : SD K tu env' o) : SD K (tSeq ts tu) env o := fun X a0 H0 M ad σ H Dn E k =>
  h1 X a0 H0 M ad σ H { Dn with nx := tu Dn } E fun M' ad' σ' H' E' => h2 X a0 H0 M' ad' σ' H' Dn E' k
theorem sd_out (h1 : SD K ts env o) (ho : o.nxt = false) : SD K (tSeq ts tu) env o := fun X a0 H0 M ad σ H Dn E k =>
  h1 X a0 H0 M ad σ H { Dn with nx := tu Dn } E (by cases o <;> first | exact k | cases ho)
theorem sd_next : SD K tNext env (.nx env) := fun X a0 H0 M ad σ H Dn E k => k M ad σ H E
theorem sd_break : SD K tBreak env (.bk env) := fun X a0 H0 M ad σ H Dn E k => k M ad σ H E
theorem sd_cont : SD K tCont env (.ct env) := fun X a0 H0 M ad σ H Dn E k => k M ad σ H E
theorem sd_drop (h : EvD K l p te env env' d) : SD K (tDrop te) env (.nx env') := fun X a0 H0 M ad σ H Dn E k =>
  h X a0 H0 M ad σ H _ E fun v H' E' _ _ _ => k M ad σ H' E'
theorem sd_ret (h : EvD K .l3 p te env env' d) : SD K (tRet te) env (.rx d) := fun X a0 H0 M ad σ H Dn E k =>
  h X a0 H0 M ad σ H _ E fun v H' E' _ _ r => k env' M ad σ v H' E' r
theorem sd_retM (h : EvD K .l3 p te env env' d) (hm : env'[0]? = some (.mu d')) : SD K (tRet te) env (.rm d d') := fun X a0 H0 M ad σ H Dn E k =>
  h X a0 H0 M ad σ H _ E fun v H' E' _ _ r => k env' M ad σ v H' hm E' r
theorem sd_retN : SD K tRetN env (.rx .non) := fun X a0 H0 M ad σ H Dn E k => k env M ad σ _ H E rfl
theorem sd_retF (h : EvF K p te env env' d) : SD K (tRet te) env (.rf d) := fun X a0 H0 M ad σ H Dn E k =>
  h X a0 H0 M ad σ H _ E fun a H1 H' ha _ E1 g _ _ r => k env' M ad σ a H1 H' ha E1 g (r.mono (hid_le fun _ z => .inr z) rfl)
theorem sd_if (h : EvB K p t env env' b) (h1 : b = true → SD K ts env' o) (h2 : b = false → SD K tu env' o) : SD K (tIfS t ts tu) env o := fun X a0 H0 M ad σ H Dn E k =>
  h X a0 H0 M ad σ H _ E fun H1 E1 _ _ => by
    cases b with
    | true => exact h1 rfl X a0 H0 M ad σ H1 Dn E1 k
    | false => exact h2 rfl X a0 H0 M ad σ H1 Dn E1 k
/-- an if whose ways leave, ahead of more -/
theorem sd_ifs (h : EvB K p t env env' b) (h1 : b = true → SD K (tSeq ts te') env' o) (h2 : b = false → SD K (tSeq tu te') env' o) : SD K (tSeq (tIfS t ts tu) te') env o := fun X a0 H0 M ad σ H Dn E k =>
  h X a0 H0 M ad σ H _ E fun H1 E1 _ _ => by
    cases b with
    | true => exact h1 rfl X a0 H0 M ad σ H1 Dn E1 k
    | false => exact h2 rfl X a0 H0 M ad σ H1 Dn E1 k
theorem sd_seqNext (h : SD K te' env o) : SD K (tSeq tNext te') env o := h
theorem sd_o {o' : Out} (h : SD K ts env o) (e : o = o') : SD K ts env o' := e ▸ h

/-- a slot given data -/
theorem ER.setIm (E : ER K X a0 H0 M ad σ H env) {v : V} (hm : isMu env[i]? = false) (r : Rp K (hid (fun a => M.m a ∨ X a) H) d v) : ER K X a0 H0 M ad (σ.set i (some v)) H (env.set i (.im d)) := by
  have ne : ∀ (j : Nat) b, (env.set i (.im d))[j]? = some b → (j = i ∧ b = .im d ∧ i < env.length) ∨ (j ≠ i ∧ env[j]? = some b) := fun j b h => by
    by_cases e : j = i
    · subst e
      have hl : j < env.length := by
        have := (List.getElem?_eq_some_iff.mp h).1
        simpa using this
      rw [List.getElem?_set_self hl] at h
      exact .inl ⟨rfl, (Option.some.inj h).symm, hl⟩
    · rw [List.getElem?_set_ne (Ne.symm e)] at h
      exact .inr ⟨e, h⟩
  have σo : ∀ j : Nat, j ≠ i → (σ.set i (some v))[j]? = σ[j]? := fun j e => List.getElem?_set_ne (Ne.symm e)
  have muk : ∀ j : Nat, isMu (env.set i (.im d))[j]? = true → isMu env[j]? = true := fun j h => by
    by_cases e : j = i
    · subst e
      cases q : (env.set j (.im d))[j]? with
      | none => rw [q] at h; cases h
      | some b =>
        rcases ne j b q with ⟨_, rfl, _⟩ | ⟨z, _⟩
        · rw [q] at h; cases h
        · exact absurd rfl z
    · rw [List.getElem?_set_ne (Ne.symm e)] at h; exact h
  refine ⟨by simp [E.len], E.ex, fun a ha => ?_, E.min, E.mout, fun j e h => ?_, fun j e h => ?_, fun j e h => ?_, fun j e h => ?_, fun j k e f h1 h2 => ?_, fun j k e h1 h2 => ?_, fun j k h1 h2 => E.mu1 j k (muk j h1) (muk k h2)⟩
  · rcases E.xin a ha with q | ⟨q, j, hj⟩
    · exact .inl q
    · refine .inr ⟨q, j, ?_⟩
      have : j ≠ i := fun z => by subst z; rw [hm] at hj; cases hj
      rw [List.getElem?_set_ne (Ne.symm this)]; exact hj
  · rcases ne j _ h with ⟨rfl, z, hl⟩ | ⟨z, h⟩
    · cases z
      exact ⟨v, List.getElem?_set_self (by rw [E.len]; exact hl), r⟩
    · obtain ⟨w, h1, h2⟩ := E.im j e h
      exact ⟨w, by rw [σo j z]; exact h1, h2⟩
  · rcases ne j _ h with ⟨_, z, _⟩ | ⟨z, h⟩
    · cases z
    · obtain ⟨w, h1, h2⟩ := E.rd j e h
      exact ⟨w, by rw [σo j z]; exact h1, h2⟩
  · rcases ne j _ h with ⟨_, z, _⟩ | ⟨z, h⟩
    · cases z
    · obtain ⟨h1, h2, h3⟩ := E.ow j e h
      exact ⟨h1, by rw [σo j z]; exact h2, h3⟩
  · rcases ne j _ h with ⟨_, z, _⟩ | ⟨z, h⟩
    · cases z
    · obtain ⟨h1, h2, h3⟩ := E.mu j e h
      exact ⟨h1, by rw [σo j z]; exact h2, h3⟩
  · rcases ne j _ h1 with ⟨_, z, _⟩ | ⟨z, h1⟩
    · cases z
    · rcases ne k _ h2 with ⟨_, z, _⟩ | ⟨z, h2⟩
      · cases z
      · exact E.inj j k e f h1 h2
  · rcases ne j _ h1 with ⟨_, z, _⟩ | ⟨z, h1⟩
    · cases z
    · exact E.nmu j k e h1 (muk k h2)
end
end Pw
namespace Pw
open PySem L2

section
variable {K : PySem.W.Frag} {X : Addr → Prop} {a0 : Addr} {H0 : Hp} {M : Msk} {ad : Nat → Addr} {σ : St} {H H' H1 : Hp} {env env' env'' : List Bd} {l l' : Lv} {p q : Bool} {d d' e : D} {ta tb te ti : TE} {t u : TT} {i j : Nat} {b c : Bool} {ts tu : TS} {o : Out} {Dn : Ends}
theorem set_cases {x : Bd} {j : Nat} {b : Bd} (h : (env.set i x)[j]? = some b) : (j = i ∧ b = x ∧ i < env.length) ∨ (j ≠ i ∧ env[j]? = some b) := by
  by_cases e : j = i
  · subst e
    have hl : j < env.length := by
      have := (List.getElem?_eq_some_iff.mp h).1
      simpa using this
    rw [List.getElem?_set_self hl] at h
    exact .inl ⟨rfl, (Option.some.inj h).symm, hl⟩
  · rw [List.getElem?_set_ne (Ne.symm e)] at h
    exact .inr ⟨e, h⟩
theorem set_mu {x : Bd} {j : Nat} (hx : isMu (some x) = false) (h : isMu (env.set i x)[j]? = true) : j ≠ i ∧ isMu env[j]? = true := by
  cases q : (env.set i x)[j]? with
  | none => rw [q] at h; cases h
  | some b =>
    rcases set_cases q with ⟨_, rfl, _⟩ | ⟨z, e⟩
    · rw [q, hx] at h; cases h
    · rw [q] at h; exact ⟨z, by rw [e]; exact h⟩
theorem mu_set {x : Bd} {j : Nat} (hm : isMu env[i]? = false) (hj : isMu env[j]? = true) : isMu (env.set i x)[j]? = true := by
  have : j ≠ i := fun z => by subst z; rw [hm] at hj; cases hj
  rw [List.getElem?_set_ne (Ne.symm this)]; exact hj
/-- .. and one object more -/
def Msk.plus (M : Msk) (a : Addr) : Msk := ⟨fun b => M.n b ∨ b = a, fun b => M.m b ∨ b = a, fun b h => h.imp (M.le b) id⟩
def Msk.hide (M : Msk) (a : Addr) : Msk := ⟨M.n, fun b => M.m b ∨ b = a, fun b h => .inl (M.le b h)⟩
/-- a slot given an object of one's own -/
theorem ER.setOw (E : ER K X a0 H0 M ad σ H1 env) {a : Addr} (hm : isMu env[i]? = false) (ha : H1 a = none) (g : Ex H1 H') (r : Cell K (hid (fun b => M.m b ∨ X b) H1) H' a d) :
    ER K X a0 H0 (M.plus a) (fun j => if j = i then a else ad j) (σ.set i (some (.ref a))) H' (env.set i (.ow d)) := by
  have σo : ∀ j : Nat, j ≠ i → (σ.set i (some (V.ref a)))[j]? = σ[j]? := fun j e => List.getElem?_set_ne (Ne.symm e)
  have na : ∀ b o, H1 b = some o → b ≠ a := fun b o h z => by subst z; rw [ha] at h; cases h
  have up : Ex (hid (fun b => M.m b ∨ X b) H1) (hid (fun b => (M.plus a).m b ∨ X b) H') := hid_two fun b o h1 h2 => ⟨fun z => by
    rcases z with (z | z) | z
    · exact h1 (.inl z)
    · exact na b o h2 z
    · exact h1 (.inr z), g b o h2⟩
  have up1 : Ex (hid M.m H1) (hid (M.plus a).m H') := hid_two fun b o h1 h2 => ⟨fun z => z.elim h1 (na b o h2), g b o h2⟩
  have keep : ∀ b, H1 b ≠ none → H' b = H1 b := fun b h => by
    cases q : H1 b with
    | none => exact absurd q h
    | some o => exact g b o q
  refine ⟨by simp [E.len], E.ex.trans g, fun b hb => ?_, fun b hb => ?_, fun b hb => ?_, fun j e h => ?_, fun j e h => ?_, fun j e h => ?_, fun j e h => ?_, fun j k e f h1 h2 hjk => ?_, fun j k e h1 h2 => ?_, fun j k h1 h2 => E.mu1 j k (set_mu rfl h1).2 (set_mu rfl h2).2⟩
  · rcases E.xin b hb with q | ⟨q, j, hj⟩
    · exact .inl q
    · exact .inr ⟨q, j, mu_set hm hj⟩
  · rcases hb with hb | hb
    · rw [keep b (E.min b hb).1]; exact E.min b hb
    · subst hb; exact r.some
  · rcases hb with hb | hb
    · exact E.mout b hb
    · subst hb
      cases q : H0 b with
      | none => rfl
      | some o => rw [E.ex b o q] at ha; cases ha
  · rcases set_cases h with ⟨_, z, _⟩ | ⟨z, h⟩
    · cases z
    · obtain ⟨w, h1, h2⟩ := E.im j e h
      exact ⟨w, by rw [σo j z]; exact h1, Rp.mono up _ _ h2⟩
  · rcases set_cases h with ⟨_, z, _⟩ | ⟨z, h⟩
    · cases z
    · obtain ⟨w, h1, h2⟩ := E.rd j e h
      exact ⟨w, by rw [σo j z]; exact h1, Rp.mono up1 _ _ h2⟩
  · rcases set_cases h with ⟨z, z', hl⟩ | ⟨z, h⟩
    · cases z'
      subst z
      rw [if_pos rfl]
      exact ⟨.inr rfl, List.getElem?_set_self (by rw [E.len]; exact hl), r.mono up rfl⟩
    · obtain ⟨h1, h2, h3⟩ := E.ow j e h
      rw [if_neg z]
      exact ⟨.inl h1, by rw [σo j z]; exact h2, h3.mono up (keep _ (E.min _ (M.le _ h1)).1)⟩
  · rcases set_cases h with ⟨_, z, _⟩ | ⟨z, h⟩
    · cases z
    · obtain ⟨h1, h2, h3⟩ := E.mu j e h
      exact ⟨.inl h1, by rw [σo j z]; exact h2, h3.mono up (keep _ (E.min _ (M.le _ h1)).1)⟩
  · rcases set_cases h1 with ⟨z, _, _⟩ | ⟨z, h1⟩
    · rcases set_cases h2 with ⟨z2, _, _⟩ | ⟨z2, h2⟩
      · rw [z, z2]
      · rw [if_pos z, if_neg z2] at hjk
        exact absurd ha (hjk ▸ (E.min _ (M.le _ (E.ow k f h2).1)).1)
    · rcases set_cases h2 with ⟨z2, _, _⟩ | ⟨z2, h2⟩
      · rw [if_neg z, if_pos z2] at hjk
        exact absurd ha (hjk ▸ (E.min _ (M.le _ (E.ow j e h1).1)).1)
      · rw [if_neg z, if_neg z2] at hjk
        exact E.inj j k e f h1 h2 hjk
  · obtain ⟨_, hk⟩ := set_mu rfl h2
    rcases set_cases h1 with ⟨z, _, _⟩ | ⟨z, h1⟩
    · rw [if_pos z]
      intro q
      cases q2 : env[k]? with
      | none => rw [q2] at hk; cases hk
      | some b =>
        cases b with
        | mu f => exact (E.min _ (M.le _ (E.mu k f q2).1)).1 (q ▸ ha)
        | _ => rw [q2] at hk; cases hk
    · rw [if_neg z]
      exact E.nmu j k e h1 hk
/-- an own object written -/
theorem ER.cellOw (E : ER K X a0 H0 M ad σ H env) {o : HO} (h : env[i]? = some (.ow d)) (r : Cell K (hid (fun b => M.m b ∨ X b) H) (upd H (ad i) o) (ad i) d') :
    ER K X a0 H0 M ad σ (upd H (ad i) o) (env.set i (.ow d')) := by
  have hMi : M.m (ad i) := M.le _ (E.ow i d h).1
  have h1 : hid (fun b => M.m b ∨ X b) (upd H (ad i) o) = hid (fun b => M.m b ∨ X b) H := hid_upd (.inl hMi)
  have h2 : hid M.m (upd H (ad i) o) = hid M.m H := hid_upd hMi
  have hm : isMu env[i]? = false := by rw [h]; rfl
  refine ⟨by simp [E.len], fun b u hb => ?_, fun b hb => ?_, fun b hb => ?_, E.mout, fun j e q => ?_, fun j e q => ?_, fun j e q => ?_, fun j e q => ?_, fun j k e f q1 q2 hjk => ?_, fun j k e q1 q2 => ?_, fun j k h1 h2 => E.mu1 j k (set_mu rfl h1).2 (set_mu rfl h2).2⟩
  · have : b ≠ ad i := fun z => by rw [z, E.mout _ hMi] at hb; cases hb
    rw [upd_ne this]; exact E.ex b u hb
  · rcases E.xin b hb with q | ⟨q, j, hj⟩
    · exact .inl q
    · exact .inr ⟨q, j, mu_set hm hj⟩
  · by_cases z : b = ad i
    · subst z; exact r.some
    · rw [upd_ne z]; exact E.min b hb
  · rcases set_cases q with ⟨_, z, _⟩ | ⟨z, q⟩
    · cases z
    · rw [h1]; exact E.im j e q
  · rcases set_cases q with ⟨_, z, _⟩ | ⟨z, q⟩
    · cases z
    · rw [h2]; exact E.rd j e q
  · rw [h1]
    rcases set_cases q with ⟨z, z', _⟩ | ⟨z, q⟩
    · cases z'
      subst z
      exact ⟨(E.ow j d h).1, (E.ow j d h).2.1, r⟩
    · obtain ⟨g1, g2, g3⟩ := E.ow j e q
      exact ⟨g1, g2, g3.mono (Ex.refl _) (upd_ne fun y => z (E.inj j i e d q h y))⟩
  · rw [h1]
    rcases set_cases q with ⟨_, z, _⟩ | ⟨z, q⟩
    · cases z
    · obtain ⟨g1, g2, g3⟩ := E.mu j e q
      exact ⟨g1, g2, g3.mono (Ex.refl _) (upd_ne (Ne.symm (E.nmu i j d h (by rw [q]; rfl))))⟩
  · have w : ∀ (j : Nat) e, (env.set i (.ow d'))[j]? = some (.ow e) → ∃ e', env[j]? = some (.ow e') := fun j e q => by
      rcases set_cases q with ⟨z, _, _⟩ | ⟨_, q⟩
      · exact ⟨d, by rw [z]; exact h⟩
      · exact ⟨e, q⟩
    obtain ⟨e1, z1⟩ := w j e q1
    obtain ⟨e2, z2⟩ := w k f q2
    exact E.inj j k e1 e2 z1 z2 hjk
  · obtain ⟨_, hk⟩ := set_mu rfl q2
    rcases set_cases q1 with ⟨z, _, _⟩ | ⟨_, q1⟩
    · rw [z]; exact E.nmu i k d h hk
    · exact E.nmu j k e q1 hk
/-- .. the one that was handed in -/
theorem ER.cellMu (E : ER K X a0 H0 M ad σ H env) {o : HO} (h : env[i]? = some (.mu d)) (r : Cell K (hid (fun b => M.m b ∨ X b) H) (upd H a0 o) a0 d') :
    ER K X a0 H0 M ad σ (upd H a0 o) (env.set i (.mu d')) := by
  have hMi : M.m a0 := M.le _ (E.mu i d h).1
  have h1 : hid (fun b => M.m b ∨ X b) (upd H a0 o) = hid (fun b => M.m b ∨ X b) H := hid_upd (.inl hMi)
  have h2 : hid M.m (upd H a0 o) = hid M.m H := hid_upd hMi
  have hl : i < env.length := (List.getElem?_eq_some_iff.mp h).1
  have muE : ∀ j : Nat, isMu env[j]? = true → isMu (env.set i (.mu d'))[j]? = true := fun j hj => by
    by_cases z : j = i
    · subst z; rw [List.getElem?_set_self hl]; rfl
    · rw [List.getElem?_set_ne (Ne.symm z)]; exact hj
  have muF : ∀ j : Nat, isMu (env.set i (.mu d'))[j]? = true → isMu env[j]? = true := fun j hj => by
    by_cases z : j = i
    · subst z; rw [h]; rfl
    · rw [List.getElem?_set_ne (Ne.symm z)] at hj; exact hj
  refine ⟨by simp [E.len], fun b u hb => ?_, fun b hb => ?_, fun b hb => ?_, E.mout, fun j e q => ?_, fun j e q => ?_, fun j e q => ?_, fun j e q => ?_, fun j k e f q1 q2 hjk => ?_, fun j k e q1 q2 => ?_, fun j k h1 h2 => E.mu1 j k (muF j h1) (muF k h2)⟩
  · have : b ≠ a0 := fun z => by rw [z, E.mout _ hMi] at hb; cases hb
    rw [upd_ne this]; exact E.ex b u hb
  · rcases E.xin b hb with q | ⟨q, j, hj⟩
    · exact .inl q
    · exact .inr ⟨q, j, muE j hj⟩
  · by_cases z : b = a0
    · subst z; exact r.some
    · rw [upd_ne z]; exact E.min b hb
  · rcases set_cases q with ⟨_, z, _⟩ | ⟨z, q⟩
    · cases z
    · rw [h1]; exact E.im j e q
  · rcases set_cases q with ⟨_, z, _⟩ | ⟨z, q⟩
    · cases z
    · rw [h2]; exact E.rd j e q
  · rw [h1]
    rcases set_cases q with ⟨_, z, _⟩ | ⟨z, q⟩
    · cases z
    · obtain ⟨g1, g2, g3⟩ := E.ow j e q
      exact ⟨g1, g2, g3.mono (Ex.refl _) (upd_ne (E.nmu j i e q (by rw [h]; rfl)))⟩
  · rw [h1]
    rcases set_cases q with ⟨z, z', _⟩ | ⟨z, q⟩
    · cases z'
      subst z
      exact ⟨(E.mu j d h).1, (E.mu j d h).2.1, r⟩
    · exact absurd (E.mu1 j i (by rw [q]; rfl) (by rw [h]; rfl)) z
  · rcases set_cases q1 with ⟨_, z, _⟩ | ⟨_, q1⟩
    · cases z
    · rcases set_cases q2 with ⟨_, z, _⟩ | ⟨_, q2⟩
      · cases z
      · exact E.inj j k e f q1 q2 hjk
  · rcases set_cases q1 with ⟨_, z, _⟩ | ⟨_, q1⟩
    · cases z
    · exact E.nmu j i e q1 (by rw [h]; rfl)
/-! ### statements that store -/
theorem sd_asg (hm : isMu env'[i]? = false) (h : EvD K .l2 p te env env' d) : SD K (tAsg te (gName i)) env (.nx (env'.set i (.im d))) := fun X a0 H0 M ad σ H Dn E k =>
  h X a0 H0 M ad σ H _ E fun v H' E' _ _ r => k M ad (σ.set i (some v)) H' (E'.setIm hm r)
theorem sd_asgF (hm : isMu env'[i]? = false) (h : EvF K p te env env' d) : SD K (tAsg te (gName i)) env (.nx (env'.set i (.ow d))) := fun X a0 H0 M ad σ H Dn E k =>
  h X a0 H0 M ad σ H _ E fun a H1 H' ha _ E1 g _ _ r => k _ _ _ H' (E1.setOw hm ha g r)
theorem sd_append {ds : List D} (h : env'[i]? = some (.ow (.lst ds))) (h0 : env[i]? = some (.ow (.lst ds))) (he : EvD K .l2 p te env env' d) (hn : ds.length < 100000) :
    SD K (tDrop (tBM K "list" rAppend (tVar i) (tCons te tNil))) env (.nx (env'.set i (.ow (.lst (ds ++ [d]))))) := fun X a0 H0 M ad σ H Dn E k => by
  obtain ⟨_, h2, xs0, h3, _⟩ := E.ow i _ h0
  refine ⟨_, h2, .inl ⟨rfl, xs0, SqL.of h3⟩, he X a0 H0 M ad σ H _ E fun v H1 E1 _ _ r => ?_⟩
  obtain ⟨_, _, xs, h4, h5⟩ := E1.ow i _ h
  have hz : xs.length < sizeLine := by rw [h5.length]; exact Nat.lt_of_lt_of_le hn (by decide)
  exact ⟨ad i, xs, v, rfl, rfl, h4, hz, k M ad σ _ (E1.cellOw h ⟨_, upd_same, RpL.append h5 (RpL.one r)⟩)⟩
theorem sd_setOw {ds : List D} {n : Int} (h : env''[i]? = some (.ow (.lst ds))) (h0 : env'[i]? = some (.ow (.lst ds))) (he : EvD K .l2 p te env env' d) (hi : EvD K l true ti env' env'' (.int n)) (hj : ixN ds.length n = some j) :
    SD K (tAsg te (gSub (tVar i) ti rSetL)) env (.nx (env''.set i (.ow (.lst (ds.set j d))))) := fun X a0 H0 M ad σ H Dn E k =>
  he X a0 H0 M ad σ H _ E fun v H1 E1 _ _ r => by
    obtain ⟨_, h2, _⟩ := E1.ow i _ h0
    refine ⟨_, h2, hi X a0 H0 M ad σ H1 _ E1 fun y H2 E2 e2 p2 r2 => ?_⟩
    obtain ⟨_, _, xs, h4, h5⟩ := E2.ow i _ h
    exact ⟨ad i, xs, n, j, rfl, r2, h4, by rw [h5.length]; exact hj, k M ad σ _ (E2.cellOw h ⟨_, upd_same, RpL.set h5 (Rp.mono (hid_ex (p2 rfl)) _ _ r)⟩)⟩
theorem sd_setMu {ds : List D} {n : Int} (h : env''[i]? = some (.mu (.lst ds))) (h0 : env'[i]? = some (.mu (.lst ds))) (he : EvD K .l2 p te env env' d) (hi : EvD K l true ti env' env'' (.int n)) (hj : ixN ds.length n = some j) :
    SD K (tAsg te (gSub (tVar i) ti rSetL)) env (.nx (env''.set i (.mu (.lst (ds.set j d))))) := fun X a0 H0 M ad σ H Dn E k =>
  he X a0 H0 M ad σ H _ E fun v H1 E1 _ _ r => by
    obtain ⟨_, h2, _⟩ := E1.mu i _ h0
    refine ⟨_, h2, hi X a0 H0 M ad σ H1 _ E1 fun y H2 E2 e2 p2 r2 => ?_⟩
    obtain ⟨_, _, xs, h4, h5⟩ := E2.mu i _ h
    exact ⟨a0, xs, n, j, rfl, r2, h4, by rw [h5.length]; exact hj, k M ad σ _ (E2.cellMu h ⟨_, upd_same, RpL.set h5 (Rp.mono (hid_ex (p2 rfl)) _ _ r)⟩)⟩
end
end Pw
namespace Pw
open PySem L2

section
variable {K : PySem.W.Frag} {X : Addr → Prop} {a0 : Addr} {H0 : Hp} {M M' : Msk} {ad ad' : Nat → Addr} {σ σ' : St} {H H' H1 : Hp} {env env' env'' : List Bd} {l l' : Lv} {p q : Bool} {d d' e : D} {ta tb te ti : TE} {t u : TT} {i j : Nat} {b c : Bool} {ts tu : TS} {o : Out} {Dn : Ends}
/-! ### targets -/
def TgD (K : PySem.W.Frag) (l : Lv) (g : TG) (d : D) (env env' : List Bd) : Prop :=
  ∀ X a0 H0 M ad σ H v (Q : St → Hp → Prop), ER K X a0 H0 M ad σ H env → Rp K (hid (mk l M X) H) d v → (∀ σ', ER K X a0 H0 M ad σ' H env' → Q σ' H) → g v σ H Q
def TgsD (K : PySem.W.Frag) (l : Lv) (g : TGs) (ds : List D) (env env' : List Bd) : Prop :=
  ∀ X a0 H0 M ad σ H vs (Q : St → Hp → Prop), ER K X a0 H0 M ad σ H env → RpL K (hid (mk l M X) H) ds vs → (∀ σ', ER K X a0 H0 M ad σ' H env' → Q σ' H) → g vs σ H Q
theorem tg_name (hm : isMu env[i]? = false) : TgD K .l2 (gName i) d env (env.set i (.im d)) := fun X a0 H0 M ad σ H v Q E r k => k _ (E.setIm hm r)
theorem tg_nameS (hm : isMu env[i]? = false) (hs : scl d = true) : TgD K l (gName i) d env (env.set i (.im d)) := fun X a0 H0 M ad σ H v Q E r k => k _ (E.setIm hm (r.scl hs))
theorem tgs_nil : TgsD K l gNil [] env env := fun X a0 H0 M ad σ H vs Q E r k => ⟨r, k σ E⟩
theorem tgs_cons {g : TG} {gs : TGs} {ds : List D} (h : TgD K l g d env env') (hs : TgsD K l gs ds env' env'') : TgsD K l (gCons g gs) (d :: ds) env env'' := fun X a0 H0 M ad σ H vs Q E r k => by
  obtain ⟨x, xs, h1, h2, h3⟩ := r
  exact ⟨x, xs, h1, h X a0 H0 M ad σ H x _ E h2 fun σ' E' => hs X a0 H0 M ad σ' H xs Q E' h3 k⟩
theorem tg_tup {gs : TGs} {ds : List D} {n : Nat} (hn : ds.length = n) (h : TgsD K l gs ds env env') : TgD K l (gTup K n gs) (.tup ds) env env' := fun X a0 H0 M ad σ H v Q E r k => by
  obtain ⟨a, xs, h1, h2, h3⟩ := r
  exact ⟨a, xs, h1, ex_s hid_all h2, h3.length.trans hn, h X a0 H0 M ad σ H xs Q E h3 k⟩
theorem sd_asgG {g : TG} (h : EvD K l p te env env' d) (hg : TgD K l g d env' env'') : SD K (tAsg te g) env (.nx env'') := fun X a0 H0 M ad σ H Dn E k =>
  h X a0 H0 M ad σ H _ E fun v H' E' _ _ r => hg X a0 H0 M ad σ H' v _ E' r fun σ' E'' => k M ad σ' H' E''

/-! ### several stores at once -/
theorem ER.mask0 (E : ER K X a0 H0 M ad σ H1 env) {a : Addr} (N : Addr → Prop) (hN : ∀ b, M.n b → N b) (le : ∀ b, N b → M.m b ∨ b = a) (ha : H1 a = none) (g : Ex H1 H') (hs : Nt (H' a)) : ER K X a0 H0 ⟨N, fun b => M.m b ∨ b = a, le⟩ ad σ H' env := by
  have na : ∀ b o, H1 b = some o → b ≠ a := fun b o h z => by subst z; rw [ha] at h; cases h
  have up : Ex (hid (fun b => M.m b ∨ X b) H1) (hid (fun b => (M.m b ∨ b = a) ∨ X b) H') := hid_two fun b o h1 h2 => ⟨fun z => by
    rcases z with (z | z) | z
    · exact h1 (.inl z)
    · exact na b o h2 z
    · exact h1 (.inr z), g b o h2⟩
  have up1 : Ex (hid M.m H1) (hid (fun b => M.m b ∨ b = a) H') := hid_two fun b o h1 h2 => ⟨fun z => z.elim h1 (na b o h2), g b o h2⟩
  have keep : ∀ b, H1 b ≠ none → H' b = H1 b := fun b h => by
    cases q : H1 b with
    | none => exact absurd q h
    | some o => exact g b o q
  refine ⟨E.len, E.ex.trans g, E.xin, fun b hb => ?_, fun b hb => ?_, fun j e h => ?_, fun j e h => ?_, fun j e h => ?_, fun j e h => ?_, E.inj, E.nmu, E.mu1⟩
  · rcases hb with hb | hb
    · rw [keep b (E.min b hb).1]; exact E.min b hb
    · subst hb; exact hs
  · rcases hb with hb | hb
    · exact E.mout b hb
    · subst hb
      cases q : H0 b with
      | none => rfl
      | some o => rw [E.ex b o q] at ha; cases ha
  · obtain ⟨w, h1, h2⟩ := E.im j e h
    exact ⟨w, h1, Rp.mono up _ _ h2⟩
  · obtain ⟨w, h1, h2⟩ := E.rd j e h
    exact ⟨w, h1, Rp.mono up1 _ _ h2⟩
  · obtain ⟨h1, h2, h3⟩ := E.ow j e h
    exact ⟨hN _ h1, h2, h3.mono up (keep _ (E.min _ (M.le _ h1)).1)⟩
  · obtain ⟨h1, h2, h3⟩ := E.mu j e h
    exact ⟨hN _ h1, h2, h3.mono up (keep _ (E.min _ (M.le _ h1)).1)⟩
theorem ER.maskN (E : ER K X a0 H0 M ad σ H1 env) {a : Addr} (ha : H1 a = none) (g : Ex H1 H') (hs : Nt (H' a)) : ER K X a0 H0 (M.plus a) ad σ H' env := E.mask0 (fun b => M.n b ∨ b = a) (fun _ h => .inl h) (fun b h => h.imp (M.le b) id) ha g hs
theorem ER.mask (E : ER K X a0 H0 M ad σ H1 env) {a : Addr} (ha : H1 a = none) (g : Ex H1 H') (hs : Nt (H' a)) : ER K X a0 H0 (M.hide a) ad σ H' env := E.mask0 M.n (fun _ h => h) (fun b h => .inl (M.le b h)) ha g hs
def PF (K : PySem.W.Frag) (ta : TA) (gs : TGs) (env envA envB : List Bd) : Prop :=
  ∀ X a0 H0 M ad0 ad σ τ H (Q : List V → Hp → Prop), ER K X a0 H0 M ad0 σ H env → ER K X a0 H0 M ad τ H envA →
    (∀ vs M' ad' τ' H', ER K X a0 H0 M' ad' τ' H' envB → Ex H H' → (∀ H'' (R : St → Hp → Prop), R τ' H'' → gs vs τ H'' R) → Q vs H') → ta σ H Q
theorem pf_nil {envA : List Bd} : PF K tNil gNil env envA envA := fun X a0 H0 M ad0 ad σ τ H Q E E' k => k [] M ad τ H E' (Ex.refl _) fun H'' R r => ⟨rfl, r⟩
theorem pf_im {ts : TA} {gs : TGs} {envA envB : List Bd} (hm : isMu envA[i]? = false) (h : EvD K .l2 true te env env d) (hr : PF K ts gs env (envA.set i (.im d)) envB) : PF K (tCons te ts) (gCons (gName i) gs) env envA envB :=
  fun X a0 H0 M ad0 ad σ τ H Q E E' k => h X a0 H0 M ad0 σ H _ E fun v H1 E1 e1 p1 r1 => hr X a0 H0 M ad0 ad σ _ H1 _ E1 ((E'.grow (p1 rfl)).setIm hm r1) fun vs M' ad' τ' H' E2 g f =>
    k (v :: vs) M' ad' τ' H' E2 ((p1 rfl).trans g) fun H'' R r => ⟨v, vs, rfl, f H'' R r⟩
theorem pf_ow {ts : TA} {gs : TGs} {envA envB : List Bd} (hm : isMu envA[i]? = false) (h : EvF K true te env env d) (hr : PF K ts gs env (envA.set i (.ow d)) envB) : PF K (tCons te ts) (gCons (gName i) gs) env envA envB :=
  fun X a0 H0 M ad0 ad σ τ H Q E E' k => h X a0 H0 M ad0 σ H _ E fun a H1 H2 ha _ E1 g e1 p1 r1 => hr X a0 H0 (M.plus a) ad0 _ σ _ H2 _ (E1.maskN ha g r1.some) ((E'.grow (p1 rfl)).setOw hm ha g r1) fun vs M' ad' τ' H' E2 g' f =>
    k (.ref a :: vs) M' ad' τ' H' E2 (((p1 rfl).trans g).trans g') fun H'' R r => ⟨.ref a, vs, rfl, f H'' R r⟩
theorem sd_parT {tA : TA} {gs : TGs} {n : Nat} (h : PF K tA gs env env env') (hl : ∀ vs τ H (R : St → Hp → Prop), gs vs τ H R → vs.length = n) (hn : n ≤ 1000) : SD K (tAsg (tTup tA) (gTup K n gs)) env (.nx env') := fun X a0 H0 M ad σ H Dn E k =>
  h X a0 H0 M ad ad σ σ H _ E E fun vs M' ad' τ' H' E' g f => by
    have hvs : vs.length = n := hl vs σ H' (fun _ _ => True) (f H' _ trivial)
    refine ⟨by rw [hvs]; exact Nat.le_trans hn (by decide), fun a ha => ⟨a, vs, rfl, SqT.of upd_same, hvs, f _ _ (k M' ad' τ' _ (E'.grow (Ex.new ha)))⟩⟩
theorem sd_par {tA : TA} {x y : Nat} (h : PF K tA (gCons (gName x) (gCons (gName y) gNil)) env env env') : SD K (tPar x y tA) env (.nx env') := fun X a0 H0 M ad σ H Dn E k =>
  h X a0 H0 M ad ad σ σ H _ E E fun vs M' ad' τ' H' E' g f => by
    obtain ⟨v, r, h1, w, r', h2, h3, h4⟩ := f H' (fun s _ => s = τ') rfl
    subst h2 h3
    exact ⟨v, w, h1, by rw [h4]; exact k M' ad' τ' H' E'⟩
/-- a, b = e1, []: the first may change what is one's own -/
theorem sd_par_io (hmi : isMu env'[i]? = false) (hmj : isMu (env'.set i (.im d))[j]? = false) (h1 : EvD K .l2 p ta env env' d) (h2 : EvF K true tb env' env' d') : SD K (tPar i j (tCons ta (tCons tb tNil))) env (.nx ((env'.set i (.im d)).set j (.ow d'))) := fun X a0 H0 M ad σ H Dn E k =>
  h1 X a0 H0 M ad σ H _ E fun v H1 E1 e1 p1 r1 => h2 X a0 H0 M ad σ H1 _ E1 fun a H2 H3 ha _ E2 g e2 p2 r2 =>
    ⟨v, .ref a, rfl, k _ _ _ H3 ((E2.setIm hmi (Rp.mono (hid_ex (p2 rfl)) _ _ r1)).setOw hmj ha g r2)⟩
theorem sd_par_ii (hmi : isMu env''[i]? = false) (hmj : isMu (env''.set i (.im d))[j]? = false) (h1 : EvD K .l2 p ta env env' d) (h2 : EvD K .l2 q tb env' env'' d') : SD K (tPar i j (tCons ta (tCons tb tNil))) env (.nx ((env''.set i (.im d)).set j (.im d'))) := fun X a0 H0 M ad σ H Dn E k =>
  h1 X a0 H0 M ad σ H _ E fun v H1 E1 e1 p1 r1 => h2 X a0 H0 M ad σ H1 _ E1 fun w H2 E2 e2 p2 r2 =>
    ⟨v, w, rfl, k _ _ _ H2 ((E2.setIm hmi (Rp.mono (keepL (l := .l2) rfl e2 p2) _ _ r1)).setIm hmj r2)⟩

/-! ### defs: promises, entry, call -/
def ArgOk (K : PySem.W.Frag) (X : Addr → Prop) (H : Hp) : List Bool → List D → List V → Prop
  | [], [], [] => True
  | k :: ks, d :: ds, v :: vs => Rp K (hid (fun a => k = true ∧ X a) H) d v ∧ ArgOk K X H ks ds vs
  | _, _, _ => False
theorem ArgOk.mono : ∀ {ks : List Bool} {ds : List D} {vs : List V}, Ex H H' → ArgOk K X H ks ds vs → ArgOk K X H' ks ds vs
  | [], [], [], _, _ => trivial
  | k :: ks, d :: ds, v :: vs, e, ⟨h1, h2⟩ => ⟨Rp.mono (hid_ex e) _ _ h1, ArgOk.mono e h2⟩
  | [], [], _ :: _, _, h => h.elim
  | [], _ :: _, _, _, h => h.elim
  | _ :: _, [], _, _, h => h.elim
  | _ :: _, _ :: _, [], _, h => h.elim
theorem ArgOk.length : ∀ {ks : List Bool} {ds : List D} {vs : List V}, ArgOk K X H ks ds vs → vs.length = ks.length ∧ ds.length = ks.length
  | [], [], [], _ => ⟨rfl, rfl⟩
  | k :: ks, d :: ds, v :: vs, ⟨h1, h2⟩ => by simp [h2.length.1, h2.length.2]
  | [], [], _ :: _, h => h.elim
  | [], _ :: _, _, h => h.elim
  | _ :: _, [], _, h => h.elim
  | _ :: _, _ :: _, [], h => h.elim
def argEnv : List Bool → List D → List Bd
  | k :: ks, d :: ds => (if k then .im d else .rd d) :: argEnv ks ds
  | _, _ => []
theorem argEnv_length : ∀ {ks : List Bool} {ds : List D}, ds.length = ks.length → (argEnv ks ds).length = ks.length
  | [], [], _ => rfl
  | [], _ :: _, h => by simp at h
  | _ :: _, [], h => by simp at h
  | _ :: ks, _ :: ds, h => by
    have h' : ds.length = ks.length := by simpa using h
    simp [argEnv, argEnv_length h']
theorem argEnv_mu : ∀ {ks : List Bool} {ds : List D} {j : Nat}, isMu (argEnv ks ds)[j]? = false
  | [], _, _ => by simp [argEnv, isMu]
  | _ :: _, [], _ => by simp [argEnv, isMu]
  | k :: ks, d :: ds, 0 => by cases k <;> rfl
  | k :: ks, d :: ds, j + 1 => by
    have := argEnv_mu (ks := ks) (ds := ds) (j := j)
    simpa [argEnv] using this
theorem argEnv_get : ∀ {ks : List Bool} {ds : List D} {vs : List V} {j : Nat} {b : Bd}, ArgOk K X H ks ds vs → (argEnv ks ds)[j]? = some b → ∃ d v, vs[j]? = some v ∧ ((b = .im d ∧ Rp K (hid X H) d v) ∨ (b = .rd d ∧ Rp K H d v))
  | [], _, _, _, _, _, h => by simp [argEnv] at h
  | _ :: _, [], _, _, _, _, h => by simp [argEnv] at h
  | _ :: _, _ :: _, [], _, _, h, _ => h.elim
  | k :: ks, d :: ds, v :: vs, 0, b, ⟨h1, _⟩, e => by
    simp [argEnv] at e
    subst e
    refine ⟨d, v, rfl, ?_⟩
    cases k with
    | true => exact .inl ⟨rfl, Rp.mono (hid_le fun a z => ⟨rfl, z⟩) _ _ h1⟩
    | false => exact .inr ⟨rfl, Rp.mono hid_all _ _ h1⟩
  | k :: ks, d :: ds, v :: vs, j + 1, b, ⟨_, h2⟩, e => by
    obtain ⟨d', v', g1, g2⟩ := argEnv_get (j := j) (b := b) h2 (by simpa [argEnv] using e)
    exact ⟨d', v', by simpa using g1, g2⟩
def SpP (K : PySem.W.Frag) (ks : List Bool) (R : List D → D → Prop) : Sp := fun vs H Q _ => ∃ (X : Addr → Prop) (ds : List D) (r : D), R ds r ∧ (∀ a, X a → Nt (H a)) ∧ ArgOk K X H ks ds vs ∧ ∀ v H', Ex H H' → Rp K (hid X H') r v → Q v H'
def SpF (K : PySem.W.Frag) (ks : List Bool) (R : List D → D → Prop) : Sp := fun vs H Q _ => ∃ (X : Addr → Prop) (ds : List D) (r : D), R ds r ∧ (∀ a, X a → Nt (H a)) ∧ ArgOk K X H ks ds vs ∧
  ∀ a H1 H', H1 a = none → Ex H H1 → Ex H1 H' → Cell K (hid X H1) H' a r → Q (.ref a) H'
def SpM (K : PySem.W.Frag) (ks : List Bool) (R : D → List D → D → D → Prop) : Sp := fun vs H Q _ => ∃ (X : Addr → Prop) (a : Addr) (d : D) (ds : List D) (vs' : List V) (r d' : D), vs = .ref a :: vs' ∧ R d ds r d' ∧ (∀ a, X a → Nt (H a)) ∧ X a ∧
  Cell K (hid X H) H a d ∧ ArgOk K X H ks ds vs' ∧ ks.all id = true ∧ ∀ v H', Ex (hid (fun b => b = a) H) H' → Cell K (hid X H') H' a d' → Rp K (hid X H') r v → Q v H'
theorem SpP.len {ks : List Bool} {R : List D → D → Prop} {n : Nat} (hk : ks.length = n) : ∀ vs H Q E, SpP K ks R vs H Q E → vs.length = n := fun vs H Q E ⟨_, _, _, _, _, h, _⟩ => h.length.1.trans hk
theorem SpF.len {ks : List Bool} {R : List D → D → Prop} {n : Nat} (hk : ks.length = n) : ∀ vs H Q E, SpF K ks R vs H Q E → vs.length = n := fun vs H Q E ⟨_, _, _, _, _, h, _⟩ => h.length.1.trans hk
theorem SpM.len {ks : List Bool} {R : D → List D → D → D → Prop} {n : Nat} (hk : ks.length + 1 = n) : ∀ vs H Q E, SpM K ks R vs H Q E → vs.length = n := fun vs H Q E ⟨_, _, _, _, _, _, _, e, _, _, _, _, h, _⟩ => by
  rw [e, List.length_cons, h.length.1, hk]
theorem ER.entry {ks : List Bool} {ds : List D} {vs : List V} {n : Nat} (hX : ∀ a, X a → Nt (H a)) (h : ArgOk K X H ks ds vs) : ER K X 0 H ⟨fun _ => False, fun _ => False, fun _ h => h⟩ (fun _ => 0) (vs.map some ++ List.replicate n none) H (argEnv ks ds ++ List.replicate n .an) := by
  have hl := h.length
  have le := argEnv_length hl.2
  have get : ∀ (j : Nat) b, (argEnv ks ds ++ List.replicate n Bd.an)[j]? = some b → b = .an ∨ ∃ d v, (vs.map some ++ List.replicate n none)[j]? = some (some v) ∧ ((b = .im d ∧ Rp K (hid X H) d v) ∨ (b = .rd d ∧ Rp K H d v)) := fun j b e => by
    by_cases hj : j < (argEnv ks ds).length
    · rw [List.getElem?_append_left hj] at e
      obtain ⟨d, v, g1, g2⟩ := argEnv_get h e
      refine .inr ⟨d, v, ?_, g2⟩
      rw [List.getElem?_append_left (by simp; omega)]
      simp [g1]
    · rw [List.getElem?_append_right (by omega)] at e
      have := (List.getElem?_replicate ..).symm.trans e
      split at this
      · exact .inl (Option.some.inj this).symm
      · cases this
  have nomu : ∀ (j : Nat), isMu (argEnv ks ds ++ List.replicate n Bd.an)[j]? = true → False := fun j e => by
    cases q : (argEnv ks ds ++ List.replicate n Bd.an)[j]? with
    | none => rw [q] at e; cases e
    | some b =>
      rcases get j b q with z | ⟨d, v, _, z⟩
      · rw [q, z] at e; cases e
      · rcases z with ⟨z, _⟩ | ⟨z, _⟩ <;> (rw [q, z] at e; cases e)
  refine ⟨by simp [le, hl.1], Ex.refl _, fun a ha => .inl (hX a ha), fun a ha => ha.elim, fun a ha => ha.elim, fun j e q => ?_, fun j e q => ?_, fun j e q => ?_, fun j e q => ?_, fun j k e f q1 q2 _ => ?_, fun j k e q1 q2 => (nomu k q2).elim, fun j k q1 q2 => (nomu j q1).elim⟩
  · rcases get j _ q with z | ⟨d, v, g, z⟩
    · cases z
    · rcases z with ⟨z, r⟩ | ⟨z, r⟩
      · cases z; exact ⟨v, g, Rp.mono (hid_le fun a z => by rcases z with z | z; exact z.elim; exact z) _ _ r⟩
      · cases z
  · rcases get j _ q with z | ⟨d, v, g, z⟩
    · cases z
    · rcases z with ⟨z, r⟩ | ⟨z, r⟩
      · cases z
      · cases z; exact ⟨v, g, by rw [hid_no]; exact r⟩
  · rcases get j _ q with z | ⟨d, v, g, z⟩
    · cases z
    · rcases z with ⟨z, r⟩ | ⟨z, r⟩ <;> cases z
  · rcases get j _ q with z | ⟨d, v, g, z⟩
    · cases z
    · rcases z with ⟨z, r⟩ | ⟨z, r⟩ <;> cases z
  · rcases get j _ q1 with z | ⟨d, v, g, z⟩
    · cases z
    · rcases z with ⟨z, r⟩ | ⟨z, r⟩ <;> cases z
theorem start_of {N : List Str} {vs : List V} {n : Nat} (h : vs.length + n = N.length) : L2.start N vs = vs.map some ++ List.replicate n none := by
  unfold L2.start
  rw [show N.length - vs.length = n by omega]
/-- the def's body, at its entry -/
theorem run_P {ks : List Bool} {R : List D → D → Prop} {N : List Str} {n : Nat} {vs : List V} {Q : VK} {E : XK} (hn : ks.length + n = N.length) (h : SpP K ks R vs H Q E)
    (hb : ∀ ds r, R ds r → SD K ts (argEnv ks ds ++ List.replicate n .an) (.rx r)) : ts { nx := fun _ H' => Q .non H', rt := Q } (L2.start N vs) H := by
  obtain ⟨X, ds, r, hR, hX, ha, hQ⟩ := h
  rw [start_of (n := n) (by rw [ha.length.1]; exact hn)]
  exact hb ds r hR X 0 H _ _ _ H _ (ER.entry hX ha) fun env' M ad σ v H' E' rv => hQ v H' E'.ex rv
theorem run_N {ks : List Bool} {R : List D → D → Prop} {N : List Str} {n : Nat} {vs : List V} {Q : VK} {E : XK} (hn : ks.length + n = N.length) (h : SpP K ks R vs H Q E)
    (hb : ∀ ds r, R ds r → r = .non ∧ ∃ env', SD K ts (argEnv ks ds ++ List.replicate n .an) (.nx env')) : ts { nx := fun _ H' => Q .non H', rt := Q } (L2.start N vs) H := by
  obtain ⟨X, ds, r, hR, hX, ha, hQ⟩ := h
  obtain ⟨rfl, env', hs⟩ := hb ds r hR
  rw [start_of (n := n) (by rw [ha.length.1]; exact hn)]
  exact hs X 0 H _ _ _ H _ (ER.entry hX ha) fun M ad σ H' E' => hQ .non H' E'.ex rfl
theorem run_F {ks : List Bool} {R : List D → D → Prop} {N : List Str} {n : Nat} {vs : List V} {Q : VK} {E : XK} (hn : ks.length + n = N.length) (h : SpF K ks R vs H Q E)
    (hb : ∀ ds r, R ds r → SD K ts (argEnv ks ds ++ List.replicate n .an) (.rf r)) : ts { nx := fun _ H' => Q .non H', rt := Q } (L2.start N vs) H := by
  obtain ⟨X, ds, r, hR, hX, ha, hQ⟩ := h
  rw [start_of (n := n) (by rw [ha.length.1]; exact hn)]
  exact hb ds r hR X 0 H _ _ _ H _ (ER.entry hX ha) fun env' M ad σ a H1 H' h0 E' g rv => hQ a H1 H' h0 E'.ex g rv
end
end Pw
namespace Pw
open PySem L2

section
variable {K : PySem.W.Frag} {X : Addr → Prop} {a0 : Addr} {H0 : Hp} {M M' : Msk} {ad ad' : Nat → Addr} {σ σ' : St} {H H' H1 : Hp} {env env' env'' : List Bd} {l l' : Lv} {p q : Bool} {d d' e : D} {ta tb te ti : TE} {t u : TT} {i j : Nat} {b c : Bool} {ts tu : TS} {o : Out} {Dn : Ends}
/-! ### a def that changes its first argument's object -/
theorem ER.entryM {ks : List Bool} {ds : List D} {vs : List V} {n : Nat} {a : Addr} (hX : ∀ a, X a → Nt (H a)) (hc : Cell K (hid X H) H a d) (ha : X a) (h : ArgOk K X H ks ds vs) (hk : ks.all id = true) :
    ER K X a (hid (fun b => b = a) H) ⟨fun b => b = a, fun b => b = a, fun _ h => h⟩ (fun _ => 0) (some (V.ref a) :: (vs.map some ++ List.replicate n none)) H (.mu d :: (argEnv ks ds ++ List.replicate n .an)) := by
  have hl := h.length
  have le := argEnv_length hl.2
  have allT : ∀ {ks : List Bool} {ds : List D} {j : Nat} {e}, ks.all id = true → (argEnv ks ds)[j]? = some (.rd e) → False := fun {ks} => by
    induction ks with
    | nil => intro ds j e _ h; simp [argEnv] at h
    | cons k ks ih =>
      intro ds j e hk h
      cases ds with
      | nil => simp [argEnv] at h
      | cons d ds =>
        have hk' : k = true ∧ ks.all id = true := by simpa using hk
        cases j with
        | zero => rw [hk'.1] at h; simp [argEnv] at h
        | succ j => exact ih (ds := ds) (j := j) (e := e) hk'.2 (by simpa [argEnv] using h)
  have get : ∀ (j : Nat) b, (argEnv ks ds ++ List.replicate n Bd.an)[j]? = some b → b = .an ∨ ∃ d v, (vs.map some ++ List.replicate n none)[j]? = some (some v) ∧ (b = .im d ∧ Rp K (hid X H) d v) := fun j b e => by
    by_cases hj : j < (argEnv ks ds).length
    · rw [List.getElem?_append_left hj] at e
      obtain ⟨d, v, g1, g2⟩ := argEnv_get h e
      refine .inr ⟨d, v, ?_, ?_⟩
      · rw [List.getElem?_append_left (by simp; omega)]
        simp [g1]
      · rcases g2 with g2 | ⟨z, _⟩
        · exact g2
        · rw [z] at e; exact (allT hk e).elim
    · rw [List.getElem?_append_right (by omega)] at e
      have := (List.getElem?_replicate ..).symm.trans e
      split at this
      · exact .inl (Option.some.inj this).symm
      · cases this
  have at0 : ∀ (j : Nat) b, (Bd.mu d :: (argEnv ks ds ++ List.replicate n .an))[j]? = some b → (j = 0 ∧ b = .mu d) ∨ ∃ i, j = i + 1 ∧ (argEnv ks ds ++ List.replicate n .an)[i]? = some b := fun j b e => by
    cases j with
    | zero => simp at e; exact .inl ⟨rfl, e.symm⟩
    | succ i => exact .inr ⟨i, rfl, by simpa using e⟩
  have nomu : ∀ (j : Nat), isMu (Bd.mu d :: (argEnv ks ds ++ List.replicate n Bd.an))[j]? = true → j = 0 := fun j e => by
    cases q : (Bd.mu d :: (argEnv ks ds ++ List.replicate n Bd.an))[j]? with
    | none => rw [q] at e; cases e
    | some b =>
      rcases at0 j b q with ⟨z, _⟩ | ⟨i, z, g⟩
      · exact z
      · rcases get i b g with z | ⟨d, v, _, z, _⟩ <;> (rw [q, z] at e; cases e)
  have noow : ∀ (j : Nat) e, (Bd.mu d :: (argEnv ks ds ++ List.replicate n Bd.an))[j]? = some (.ow e) → False := fun j e q => by
    rcases at0 j _ q with ⟨_, z⟩ | ⟨i, z, g⟩
    · cases z
    · rcases get i _ g with z | ⟨d, v, _, z, _⟩ <;> cases z
  have mX : ∀ b, (b = a ∨ X b) → X b := fun b z => z.elim (fun z => z ▸ ha) id
  refine ⟨by simp [le, hl.1], hid_all, fun b hb => ?_, fun b hb => ?_, fun b hb => hid_in hb, fun j e q => ?_, fun j e q => ?_, fun j e q => (noow j e q).elim, fun j e q => ?_, fun j k e f q1 q2 _ => (noow j e q1).elim, fun j k e q1 q2 => (noow j e q1).elim, fun j k q1 q2 => (nomu j q1).trans (nomu k q2).symm⟩
  · by_cases z : b = a
    · exact .inr ⟨z, 0, rfl⟩
    · exact .inl (by rw [hid1 z]; exact hX b hb)
  · have hb : b = a := hb
    subst hb; exact hc.some
  · rcases at0 j _ q with ⟨_, z⟩ | ⟨i, rfl, g⟩
    · cases z
    · rcases get i _ g with z | ⟨d, v, g, z, r⟩
      · cases z
      · cases z; exact ⟨v, by simpa using g, Rp.mono (hid_le mX) _ _ r⟩
  · rcases at0 j _ q with ⟨_, z⟩ | ⟨i, rfl, g⟩
    · cases z
    · rcases get i _ g with z | ⟨d, v, g, z, r⟩ <;> cases z
  · rcases at0 j _ q with ⟨z, z'⟩ | ⟨i, rfl, g⟩
    · cases z'
      subst z
      exact ⟨rfl, rfl, hc.mono (hid_le mX) rfl⟩
    · rcases get i _ g with z | ⟨d, v, g, z, r⟩ <;> cases z
theorem run_M {ks : List Bool} {R : D → List D → D → D → Prop} {N : List Str} {n : Nat} {vs : List V} {Q : VK} {E : XK} (hn : ks.length + 1 + n = N.length) (h : SpM K ks R vs H Q E)
    (hb : ∀ d ds r d', R d ds r d' → SD K ts (.mu d :: (argEnv ks ds ++ List.replicate n .an)) (.rm r d')) : ts { nx := fun _ H' => Q .non H', rt := Q } (L2.start N vs) H := by
  obtain ⟨X, a, d, ds, vs', r, d', rfl, hR, hX, hXa, hc, ha, hk, hQ⟩ := h
  have hl := ha.length
  rw [start_of (n := n) (by rw [List.length_cons, hl.1]; exact hn)]
  refine hb d ds r d' hR X a _ _ _ _ H _ (ER.entryM hX hc hXa ha hk) fun env' M ad σ v H' he E' rv => hQ v H' E'.ex ?_ rv
  exact (E'.mu 0 d' he).2.2.mono (hid_le fun b z => .inr z) rfl

/-! ### calls -/
def EvK (K : PySem.W.Frag) (l : Lv) (ta : TA) (env : List Bd) (ks : List Bool) (ds : List D) : Prop :=
  ∀ X a0 H0 M ad σ H (Q : List V → Hp → Prop), ER K X a0 H0 M ad σ H env → (∀ vs H', ER K X a0 H0 M ad σ H' env → Ex H H' → ArgOk K (mk l M X) H' ks ds vs → Q vs H') → ta σ H Q
theorem ek_nil : EvK K l tNil env [] [] := fun X a0 H0 M ad σ H Q E k => k [] H E (Ex.refl _) trivial
theorem ek_A {ts : TA} {ks : List Bool} {ds : List D} (h : EvD K l true te env env d) (hs : EvK K l ts env ks ds) : EvK K l (tCons te ts) env (true :: ks) (d :: ds) := fun X a0 H0 M ad σ H Q E k =>
  h X a0 H0 M ad σ H _ E fun v H1 E1 e1 p1 r1 => hs X a0 H0 M ad σ H1 _ E1 fun vs H2 E2 g a => k (v :: vs) H2 E2 ((p1 rfl).trans g) ⟨Rp.mono ((hid_ex g).trans (hid_le fun _ z => z.2)) _ _ r1, a⟩
theorem ek_R {ts : TA} {ks : List Bool} {ds : List D} (h : EvD K .l0 true te env env d) (hs : EvK K l ts env ks ds) : EvK K l (tCons te ts) env (false :: ks) (d :: ds) := fun X a0 H0 M ad σ H Q E k =>
  h X a0 H0 M ad σ H _ E fun v H1 E1 e1 p1 r1 => hs X a0 H0 M ad σ H1 _ E1 fun vs H2 E2 g a => k (v :: vs) H2 E2 ((p1 rfl).trans g) ⟨Rp.mono ((hid_ex g).trans (hid_le fun _ z => by cases z.1)) _ _ r1, a⟩
theorem ArgOk.ofL : ∀ {ks : List Bool} {ds : List D} {vs : List V} {m : Addr → Prop}, ks.length = ds.length → RpL K (hid m H) ds vs → ArgOk K m H ks ds vs
  | [], [], _, m, _, h => by cases h; trivial
  | k :: ks, d :: ds, _, m, hl, ⟨x, r, h1, h2, h3⟩ => by
    subst h1
    exact ⟨Rp.mono (hid_le fun a z => z.2) _ _ h2, ArgOk.ofL (by simpa using hl) h3⟩
  | [], _ :: _, _, _, hl, _ => by simp at hl
  | _ :: _, [], _, _, hl, _ => by simp at hl
theorem mk_dom (E : ER K X a0 H0 M ad σ H env) : ∀ a, mk l M X a → Nt (H a) := fun a h => by
  rcases mk_le a h with z | z
  · exact E.min a z
  · exact E.has z
theorem ev_callK {ta : TA} {ks : List Bool} {ds : List D} {R : List D → D → Prop} {r : D} {EK : XK} (h : EvK K l ta env ks ds) (hR : R ds r) : EvD K l true (tCall (SpP K ks R) [] EK ta) env env r := fun X a0 H0 M ad σ H Q E k =>
  h X a0 H0 M ad σ H _ E fun vs H1 E1 g a => ⟨mk l M X, ds, r, hR, mk_dom E1, by rw [List.append_nil]; exact a, fun v H' g' rv => k v H' (E1.grow g') (hid_ex (g.trans g')) (fun _ => g.trans g') rv⟩
theorem ev_callA {ta : TA} {ks : List Bool} {ds : List D} {R : List D → D → Prop} {r : D} {EK : XK} (hk : ks.length = ds.length) (h : EvA K l p ta env env' ds) (hR : R ds r) : EvD K l p (tCall (SpP K ks R) [] EK ta) env env' r := fun X a0 H0 M ad σ H Q E k =>
  h X a0 H0 M ad σ H _ E fun vs H1 E1 e1 p1 a => ⟨mk l M X, ds, r, hR, mk_dom E1, by rw [List.append_nil]; exact ArgOk.ofL hk a, fun v H' g' rv => k v H' (E1.grow g') (e1.trans (hid_ex g')) (fun z => (p1 z).trans g') rv⟩
theorem ef_callA {ta : TA} {ks : List Bool} {ds : List D} {R : List D → D → Prop} {r : D} {EK : XK} (hk : ks.length = ds.length) (h : EvA K .l2 p ta env env' ds) (hR : R ds r) : EvF K p (tCall (SpF K ks R) [] EK ta) env env' r := fun X a0 H0 M ad σ H Q E k =>
  h X a0 H0 M ad σ H _ E fun vs H1 E1 e1 p1 a => ⟨mk .l2 M X, ds, r, hR, mk_dom E1, by rw [List.append_nil]; exact ArgOk.ofL hk a, fun a H2 H' h0 g1 g2 rc =>
    k a H2 H' h0 (fun b o hb => by
      have := stays E E1 e1 b o hb
      cases q : H1 b with
      | none => exact absurd q this
      | some u => rw [g1 b u q]; simp) (E1.grow g1) g2 (e1.trans (hid_ex g1)) (fun z => (p1 z).trans g1) rc⟩
theorem ER.afterM {a : Addr} (E : ER K X a0 H0 M ad σ H env) (hM : M.n a) (g : Ex (hid (fun b => b = a) H) H') (hc : Cell K (hid (fun b => M.m b ∨ X b) H') H' a d') (hw : (∃ d, env[i]? = some (.ow d) ∧ ad i = a)) : ER K X a0 H0 M ad σ H' (env.set i (.ow d')) := by
  obtain ⟨d, hi, rfl⟩ := hw
  have k : ∀ b, b ≠ ad i → H b ≠ none → H' b = H b := fun b hb h => by
    cases q : H b with
    | none => exact absurd q h
    | some o => exact g b o (by rw [hid1 hb]; exact q)
  have up : Ex (hid (fun b => M.m b ∨ X b) H) (hid (fun b => M.m b ∨ X b) H') := hid_two fun b o h1 h2 => ⟨h1, g b o (by rw [hid1 fun z => h1 (.inl (by rw [z]; exact M.le _ hM))]; exact h2)⟩
  have up1 : Ex (hid M.m H) (hid M.m H') := hid_two fun b o h1 h2 => ⟨h1, g b o (by rw [hid1 fun z => h1 (by rw [z]; exact M.le _ hM)]; exact h2)⟩
  have hm : isMu env[i]? = false := by rw [hi]; rfl
  refine ⟨by simp [E.len], fun b o hb => ?_, fun b hb => ?_, fun b hb => ?_, E.mout, fun j e q => ?_, fun j e q => ?_, fun j e q => ?_, fun j e q => ?_, fun j k e f q1 q2 hjk => ?_, fun j k e q1 q2 => ?_, fun j k h1 h2 => E.mu1 j k (set_mu rfl h1).2 (set_mu rfl h2).2⟩
  · have : b ≠ ad i := fun z => by rw [z, E.mout _ (M.le _ hM)] at hb; cases hb
    exact g b o (by rw [hid1 this]; exact E.ex b o hb)
  · rcases E.xin b hb with q | ⟨q, j, hj⟩
    · exact .inl q
    · exact .inr ⟨q, j, mu_set hm hj⟩
  · by_cases z : b = ad i
    · subst z; exact hc.some
    · rw [k b z (E.min b hb).1]; exact E.min b hb
  · rcases set_cases q with ⟨_, z, _⟩ | ⟨z, q⟩
    · cases z
    · obtain ⟨w, h1, h2⟩ := E.im j e q
      exact ⟨w, h1, Rp.mono up _ _ h2⟩
  · rcases set_cases q with ⟨_, z, _⟩ | ⟨z, q⟩
    · cases z
    · obtain ⟨w, h1, h2⟩ := E.rd j e q
      exact ⟨w, h1, Rp.mono up1 _ _ h2⟩
  · rcases set_cases q with ⟨z, z', _⟩ | ⟨z, q⟩
    · cases z'
      subst z
      exact ⟨hM, (E.ow j d hi).2.1, hc⟩
    · obtain ⟨g1, g2, g3⟩ := E.ow j e q
      exact ⟨g1, g2, g3.mono up (k _ (fun y => z (E.inj j i e d q hi y)) g3.some.1)⟩
  · rcases set_cases q with ⟨_, z, _⟩ | ⟨z, q⟩
    · cases z
    · obtain ⟨g1, g2, g3⟩ := E.mu j e q
      exact ⟨g1, g2, g3.mono up (k _ (Ne.symm (E.nmu i j d hi (by rw [q]; rfl))) g3.some.1)⟩
  · have w : ∀ (j : Nat) e, (env.set i (.ow d'))[j]? = some (.ow e) → ∃ e', env[j]? = some (.ow e') := fun j e q => by
      rcases set_cases q with ⟨z, _, _⟩ | ⟨_, q⟩
      · exact ⟨d, by rw [z]; exact hi⟩
      · exact ⟨e, q⟩
    obtain ⟨e1, z1⟩ := w j e q1
    obtain ⟨e2, z2⟩ := w k f q2
    exact E.inj j k e1 e2 z1 z2 hjk
  · obtain ⟨_, hk⟩ := set_mu rfl q2
    rcases set_cases q1 with ⟨z, _, _⟩ | ⟨_, q1⟩
    · rw [z]; exact E.nmu i k d hi hk
    · exact E.nmu j k e q1 hk
theorem ER.afterMu (E : ER K X a0 H0 M ad σ H env) (hM : M.n a0) (g : Ex (hid (fun b => b = a0) H) H') (hc : Cell K (hid (fun b => M.m b ∨ X b) H') H' a0 d') (hi : env[i]? = some (.mu d)) : ER K X a0 H0 M ad σ H' (env.set i (.mu d')) := by
  have k : ∀ b, b ≠ a0 → H b ≠ none → H' b = H b := fun b hb h => by
    cases q : H b with
    | none => exact absurd q h
    | some o => exact g b o (by rw [hid1 hb]; exact q)
  have up : Ex (hid (fun b => M.m b ∨ X b) H) (hid (fun b => M.m b ∨ X b) H') := hid_two fun b o h1 h2 => ⟨h1, g b o (by rw [hid1 fun z => h1 (.inl (by rw [z]; exact M.le _ hM))]; exact h2)⟩
  have up1 : Ex (hid M.m H) (hid M.m H') := hid_two fun b o h1 h2 => ⟨h1, g b o (by rw [hid1 fun z => h1 (by rw [z]; exact M.le _ hM)]; exact h2)⟩
  have hl : i < env.length := (List.getElem?_eq_some_iff.mp hi).1
  have muE : ∀ j : Nat, isMu env[j]? = true → isMu (env.set i (.mu d'))[j]? = true := fun j hj => by
    by_cases z : j = i
    · subst z; rw [List.getElem?_set_self hl]; rfl
    · rw [List.getElem?_set_ne (Ne.symm z)]; exact hj
  have muF : ∀ j : Nat, isMu (env.set i (.mu d'))[j]? = true → isMu env[j]? = true := fun j hj => by
    by_cases z : j = i
    · subst z; rw [hi]; rfl
    · rw [List.getElem?_set_ne (Ne.symm z)] at hj; exact hj
  refine ⟨by simp [E.len], fun b o hb => ?_, fun b hb => ?_, fun b hb => ?_, E.mout, fun j e q => ?_, fun j e q => ?_, fun j e q => ?_, fun j e q => ?_, fun j k e f q1 q2 hjk => ?_, fun j k e q1 q2 => ?_, fun j k h1 h2 => E.mu1 j k (muF j h1) (muF k h2)⟩
  · have : b ≠ a0 := fun z => by rw [z, E.mout _ (M.le _ hM)] at hb; cases hb
    exact g b o (by rw [hid1 this]; exact E.ex b o hb)
  · rcases E.xin b hb with q | ⟨q, j, hj⟩
    · exact .inl q
    · exact .inr ⟨q, j, muE j hj⟩
  · by_cases z : b = a0
    · subst z; exact hc.some
    · rw [k b z (E.min b hb).1]; exact E.min b hb
  · rcases set_cases q with ⟨_, z, _⟩ | ⟨z, q⟩
    · cases z
    · obtain ⟨w, h1, h2⟩ := E.im j e q
      exact ⟨w, h1, Rp.mono up _ _ h2⟩
  · rcases set_cases q with ⟨_, z, _⟩ | ⟨z, q⟩
    · cases z
    · obtain ⟨w, h1, h2⟩ := E.rd j e q
      exact ⟨w, h1, Rp.mono up1 _ _ h2⟩
  · rcases set_cases q with ⟨_, z, _⟩ | ⟨z, q⟩
    · cases z
    · obtain ⟨g1, g2, g3⟩ := E.ow j e q
      exact ⟨g1, g2, g3.mono up (k _ (E.nmu j i e q (by rw [hi]; rfl)) g3.some.1)⟩
  · rcases set_cases q with ⟨z, z', _⟩ | ⟨z, q⟩
    · cases z'
      subst z
      exact ⟨hM, (E.mu j d hi).2.1, hc⟩
    · exact absurd (E.mu1 j i (by rw [q]; rfl) (by rw [hi]; rfl)) z
  · rcases set_cases q1 with ⟨_, z, _⟩ | ⟨_, q1⟩
    · cases z
    · rcases set_cases q2 with ⟨_, z, _⟩ | ⟨_, q2⟩
      · cases z
      · exact E.inj j k e f q1 q2 hjk
  · rcases set_cases q1 with ⟨_, z, _⟩ | ⟨_, q1⟩
    · cases z
    · exact E.nmu j i e q1 (by rw [hi]; rfl)
/-- a call that changes one's own object at slot i -/
theorem ev_callMo {ta : TA} {ks : List Bool} {ds : List D} {R : D → List D → D → D → Prop} {r : D} {EK : XK} (hk : ks.length = ds.length) (hk1 : ks.all id = true) (h0 : ∃ d0, env[i]? = some (.ow d0)) (h : EvA K .l2 p ta env env' ds) (hi : env'[i]? = some (.ow d)) (hR : R d ds r d') :
    EvD K .l2 false (tCall (SpM K ks R) [] EK (tCons (tVar i) ta)) env (env'.set i (.ow d')) r := fun X a0 H0 M ad σ H Q E k => by
  obtain ⟨d0, h0⟩ := h0
  refine ⟨_, (E.ow i d0 h0).2.1, h X a0 H0 M ad σ H _ E fun vs H1 E1 e1 p1 a => ?_⟩
  obtain ⟨g1, g2, g3⟩ := E1.ow i d hi
  refine ⟨fun b => M.m b ∨ X b, ad i, d, ds, vs, r, d', by rw [List.append_nil], hR, mk_dom (l := .l2) E1, .inl (M.le _ g1), g3, ArgOk.ofL hk a, hk1, fun v H' g hc rv => ?_⟩
  exact k v H' (E1.afterM g1 g hc ⟨d, hi, rfl⟩) (e1.trans (hid_two fun b o h1 h2 => ⟨h1, g b o (by rw [hid1 fun z => h1 (by rw [z]; exact g1)]; exact h2)⟩)) (fun z => by cases z) rv
theorem ev_callMm {ta : TA} {ks : List Bool} {ds : List D} {R : D → List D → D → D → Prop} {r : D} {EK : XK} (hk : ks.length = ds.length) (hk1 : ks.all id = true) (h0 : ∃ d0, env[i]? = some (.mu d0)) (h : EvA K .l2 p ta env env' ds) (hi : env'[i]? = some (.mu d)) (hR : R d ds r d') :
    EvD K .l2 false (tCall (SpM K ks R) [] EK (tCons (tVar i) ta)) env (env'.set i (.mu d')) r := fun X a0 H0 M ad σ H Q E k => by
  obtain ⟨d0, h0⟩ := h0
  refine ⟨_, (E.mu i d0 h0).2.1, h X a0 H0 M ad σ H _ E fun vs H1 E1 e1 p1 a => ?_⟩
  obtain ⟨g1, g2, g3⟩ := E1.mu i d hi
  refine ⟨fun b => M.m b ∨ X b, a0, d, ds, vs, r, d', by rw [List.append_nil], hR, mk_dom (l := .l2) E1, .inl (M.le _ g1), g3, ArgOk.ofL hk a, hk1, fun v H' g hc rv => ?_⟩
  exact k v H' (E1.afterMu g1 g hc hi) (e1.trans (hid_two fun b o h1 h2 => ⟨h1, g b o (by rw [hid1 fun z => h1 (by rw [z]; exact g1)]; exact h2)⟩)) (fun z => by cases z) rv
end
end Pw
namespace Pw
open PySem L2

section
variable {K : PySem.W.Frag} {X : Addr → Prop} {a0 : Addr} {H0 : Hp} {M M' : Msk} {ad ad' : Nat → Addr} {σ σ' : St} {H H' H1 : Hp} {env env' env'' : List Bd} {l l' : Lv} {p q : Bool} {d d' e : D} {ta tb te ti : TE} {t u : TT} {i j : Nat} {b c : Bool} {ts tu : TS} {o : Out} {Dn : Ends}
/-! ### the entry moved -/
theorem ER.rebase (E : ER K X a0 H0 M ad σ H env) : ER K X a0 (hid M.m H) M ad σ H env := by
  refine ⟨E.len, hid_all, fun a ha => ?_, E.min, fun a ha => hid_in ha, E.im, E.rd, E.ow, E.mu, E.inj, E.nmu, E.mu1⟩
  rcases E.xin a ha with z | z
  · by_cases m : M.m a
    · exact absurd (E.mout a m) z.1
    · refine .inl ?_
      rw [hid_out m]
      exact E.has ha
  · exact .inr z
theorem ER.back (E : ER K X a0 H0 M ad σ H env) (E' : ER K X a0 (hid M.m H) M' ad' σ' H' env') : ER K X a0 H0 M' ad' σ' H' env' := by
  have up : Ex H0 (hid M.m H) := fun a o h => by
    have m : ¬ M.m a := fun z => by rw [E.mout a z] at h; cases h
    rw [hid_out m]; exact E.ex a o h
  refine ⟨E'.len, up.trans E'.ex, fun a ha => ?_, E'.min, fun a ha => ?_, E'.im, E'.rd, E'.ow, E'.mu, E'.inj, E'.nmu, E'.mu1⟩
  · rcases E.xin a ha with z | ⟨z, i, hi⟩
    · exact .inl z
    · subst z
      rcases E'.xin a ha with w | w
      · refine absurd (hid_in ?_) w.1
        cases q : env[i]? with
        | none => rw [q] at hi; cases hi
        | some b =>
          cases b with
          | mu d => exact M.le _ (E.mu i d q).1
          | _ => rw [q] at hi; cases hi
      · exact .inr w
  · have := E'.mout a ha
    cases q : H0 a with
    | none => rfl
    | some o => rw [up a o q] at this; cases this
theorem OK.rebase (E : ER K X a0 H0 M ad σ H env) (k : OK K X a0 H0 Dn o) : OK K X a0 (hid M.m H) Dn o := by
  cases o with
  | nx env1 => exact fun M' ad' σ' H' E' => k M' ad' σ' H' (E.back E')
  | bk env1 => exact fun M' ad' σ' H' E' => k M' ad' σ' H' (E.back E')
  | ct env1 => exact fun M' ad' σ' H' E' => k M' ad' σ' H' (E.back E')
  | rx d => exact fun env1 M' ad' σ' v H' E' r => k env1 M' ad' σ' v H' (E.back E') r
  | rm d d' => exact fun env1 M' ad' σ' v H' h E' r => k env1 M' ad' σ' v H' h (E.back E') r
  | rf d => exact fun env1 M' ad' σ' a H1 H' h E' g r => k env1 M' ad' σ' a H1 H' h (E.back E') g r

theorem OK.ret {D1 D2 : Ends} (h : o.ret = true) (k : OK K X a0 H0 D1 o) (e : D2.rt = D1.rt := by rfl) : OK K X a0 H0 D2 o := by
  cases o with
  | rx d => exact fun env1 M' ad' σ' v H' E' r => by rw [e]; exact k env1 M' ad' σ' v H' E' r
  | rm d d' => exact fun env1 M' ad' σ' v H' h E' r => by rw [e]; exact k env1 M' ad' σ' v H' h E' r
  | rf d => exact fun env1 M' ad' σ' a H1 H' h E' g r => by rw [e]; exact k env1 M' ad' σ' a H1 H' h E' g r
  | _ => cases h

/-! ### what is walked -/
theorem mk_nt (E : ER K X a0 H0 M ad σ H env) : ∀ a, mk l M X a → Nt (H a) := fun a z => by
  rcases mk_le a z with z | z
  · exact E.min a z
  · exact E.has z
def mx (l : Lv) (X : Addr → Prop) : Addr → Prop := match l with
  | .l2 => X
  | _ => fun _ => False
def Lv.lp : Lv → Bool
  | .l1 => true
  | .l2 => true
  | _ => false
/-- a key that is a tuple of scalars, or a new pair of a key and data -/
def ItKey (K : PySem.W.Frag) (H H' : Hp) (x : V) (d : D) (B : Hp) : Prop :=
  (H' = H ∧ ∃ q xs es, x = .ref q ∧ H q = some (.tup xs) ∧ d = .tup es ∧ es.all scl = true ∧ ∀ B', RpL K B' es xs) ∨
  ∃ T k y dk dy, x = .ref T ∧ H T = none ∧ H' = upd H T (.tup [k, y]) ∧ d = .tup [dk, dy] ∧ (∀ B', Rp K B' dk k) ∧ Rp K B dy y
def ItOk (K : PySem.W.Frag) (J : It) (ds : List D) (m : Addr → Prop) (Hs : Hp) : Prop := ∀ (i : Nat) H, Ex Hs H →
  (∀ d, ds[i]? = some d → J.go i H ∧ ∀ x H', J.yld i H x H' → (H' = H ∧ Rp K (hid m Hs) d x) ∨
    (∃ T y dy, x = .ref T ∧ H T = none ∧ H' = upd H T (.tup [.int (i : Nat), y]) ∧ d = .tup [.int (i : Nat), dy] ∧ Rp K (hid m Hs) dy y) ∨ ItKey K H H' x d (hid m Hs)) ∧ (ds.length ≤ i → J.stop i H)
def EvI (K : PySem.W.Frag) (l : Lv) (p : Bool) (wi : TI) (env env' : List Bd) (ds : List D) : Prop :=
  ∀ X a0 H0 M ad σ H (R : It → Hp → Prop), ER K X a0 H0 M ad σ H env →
    (∀ J H', ER K X a0 H0 M ad σ H' env' → Ex (hid M.n H) (hid M.n H') → (p = true → Ex H H') → ItOk K J ds (mx l X) (hid M.m H') → R J H') → wi σ H R
theorem mk_mx (hl : l.lp = true) : ∀ a, mk l M X a ↔ M.m a ∨ mx l X a := fun a => by
  cases l with
  | l1 => exact ⟨.inl, fun h => h.elim id False.elim⟩
  | l2 => exact Iff.rfl
  | l0 => cases hl
  | l3 => cases hl
theorem hid_mx (hl : l.lp = true) : hid (mk l M X) H = hid (mx l X) (hid M.m H) := by
  funext a
  by_cases h1 : M.m a
  · rw [hid_in ((mk_mx hl a).mpr (.inl h1))]
    by_cases h2 : mx l X a
    · rw [hid_in h2]
    · rw [hid_out h2, hid_in h1]
  · by_cases h2 : mx l X a
    · rw [hid_in ((mk_mx hl a).mpr (.inr h2)), hid_in h2]
    · rw [hid_out fun z => ((mk_mx hl a).mp z).elim h1 h2, hid_out h2, hid_out h1]
theorem ei_list (hl : l.lp = true) {ds : List D} (h : EvD K l p te env env' (.lst ds)) : EvI K l p (iList K te) env env' ds := fun X a0 H0 M ad σ H R E k =>
  h X a0 H0 M ad σ H _ E fun x H1 E1 e1 p1 r1 => by
    obtain ⟨a, xs, rfl, h1, h2⟩ := r1
    refine ⟨a, rfl, ⟨xs, ex_l hid_all h1⟩, k _ H1 E1 e1 p1 fun i H2 g => ?_⟩
    have h3 : SqL K H2 a xs := ex_l ((by rw [hid_mx hl]; exact hid_all.trans g : Ex (hid (mk l M X) H1) H2)) h1
    refine ⟨fun d hd => ?_, fun hi => ⟨xs, h3, by rw [h2.length]; exact hi⟩⟩
    obtain ⟨v, hv, rv⟩ := h2.get hd
    refine ⟨⟨xs, v, h3, hv⟩, fun x H' y => .inl ⟨y.1, ?_⟩⟩
    have := y.2 xs h3
    rw [hv] at this
    cases this
    rw [← hid_mx hl]; exact rv
theorem ei_tup (hl : l.lp = true) {ds : List D} (h : EvD K l p te env env' (.tup ds)) : EvI K l p (iTup K te) env env' ds := fun X a0 H0 M ad σ H R E k =>
  h X a0 H0 M ad σ H _ E fun x H1 E1 e1 p1 r1 => by
    obtain ⟨a, xs, rfl, h1, h2⟩ := r1
    refine ⟨a, rfl, ⟨xs, ex_s hid_all h1⟩, k _ H1 E1 e1 p1 fun i H2 g => ?_⟩
    have h3 : SqT K H2 a xs := ex_s ((by rw [hid_mx hl]; exact hid_all.trans g : Ex (hid (mk l M X) H1) H2)) h1
    refine ⟨fun d hd => ?_, fun hi => ⟨xs, h3, by rw [h2.length]; exact hi⟩⟩
    obtain ⟨v, hv, rv⟩ := h2.get hd
    refine ⟨⟨xs, v, h3, hv⟩, fun x H' y => .inl ⟨y.1, ?_⟩⟩
    have := y.2 xs h3
    rw [hv] at this
    cases this
    rw [← hid_mx hl]; exact rv
def rng (lo : Int) (n : Nat) : List Int := (List.range n).map fun (i : Nat) => lo + (i : Int)
theorem rng_get {lo : Int} {n i : Nat} {d : D} (h : ((rng lo n).map D.int)[i]? = some d) : i < n ∧ d = .int (lo + (i : Int)) := by
  unfold rng at h
  rw [List.getElem?_map, List.getElem?_map] at h
  by_cases hi : i < n
  · rw [List.getElem?_range hi] at h
    exact ⟨hi, (Option.some.inj h).symm⟩
  · rw [List.getElem?_eq_none (by simp; omega)] at h
    cases h
theorem it_rng {lo : Int} {n : Nat} {m : Addr → Prop} {Hs : Hp} : ItOk K (Itr lo n) ((rng lo n).map D.int) m Hs := fun i H2 g => by
  refine ⟨fun d hd => ?_, fun hi => ?_⟩
  · obtain ⟨h1, h2⟩ := rng_get hd
    refine ⟨h1, fun x H' y => .inl ⟨y.1, ?_⟩⟩
    rw [h2, y.2]
    rfl
  · show n ≤ i
    unfold rng at hi
    simpa using hi
theorem ei_rng1 {ta : TA} {n : Int} (h : EvA K l' p ta env env' [.int n]) (hn : -(2 ^ 62) ≤ n ∧ n < 2 ^ 62) : EvI K l p (iRng1 ta) env env' ((rng 0 n.toNat).map D.int) := fun X a0 H0 M ad σ H R E k =>
  h X a0 H0 M ad σ H _ E fun xs H1 E1 e1 p1 r1 => by
    obtain ⟨x, rfl, hx⟩ := r1.one'
    have hx : x = V.int n := hx
    exact ⟨n, by rw [hx], hn.1, hn.2, k _ H1 E1 e1 p1 it_rng⟩
theorem ei_rng2 {ta : TA} {m n : Int} (h : EvA K l' p ta env env' [.int m, .int n]) (hm : -(2 ^ 62) ≤ m ∧ m < 2 ^ 62) (hn : -(2 ^ 62) ≤ n ∧ n < 2 ^ 62) : EvI K l p (iRng2 ta) env env' ((rng m (n - m).toNat).map D.int) := fun X a0 H0 M ad σ H R E k =>
  h X a0 H0 M ad σ H _ E fun xs H1 E1 e1 p1 r1 => by
    obtain ⟨x, r, h1, h2, h3⟩ := r1
    obtain ⟨y, h4, h5⟩ := h3.one'
    have h2 : x = V.int m := h2
    have h5 : y = V.int n := h5
    exact ⟨m, n, by rw [h1, h4, h2, h5], ⟨hm.1, hm.2, hn.1, hn.2⟩, k _ H1 E1 e1 p1 it_rng⟩
/-- i, x of each item -/
def enumD (ds : List D) : List D := ds.mapIdx fun i d => .tup [.int (i : Nat), d]
theorem ei_enumL (hl : l.lp = true) {ds : List D} {ts : TA} (h : EvA K l p ts env env' [.lst ds]) : EvI K l p (iEnum K ts) env env' (enumD ds) := fun X a0 H0 M ad σ H R E k =>
  h X a0 H0 M ad σ H _ E fun ys H1 E1 e1 p1 r1 => by
    obtain ⟨x, rfl, a, xs, rfl, h1, h2⟩ := r1.one'
    refine ⟨a, xs, rfl, ex_l hid_all h1, k _ H1 E1 e1 p1 fun i H2 g => ?_⟩
    have h3 : SqL K H2 a xs := ex_l ((by rw [hid_mx hl]; exact hid_all.trans g : Ex (hid (mk l M X) H1) H2)) h1
    refine ⟨fun d hd => ?_, fun hi => ⟨xs, h3, by rw [h2.length]; simpa [enumD] using hi⟩⟩
    unfold enumD at hd
    rw [List.getElem?_mapIdx] at hd
    obtain ⟨d0, hd0, rfl⟩ := Option.map_eq_some_iff.mp hd
    obtain ⟨v, hv, rv⟩ := h2.get hd0
    refine ⟨⟨xs, v, h3, hv⟩, fun x H' y => .inr ?_⟩
    obtain ⟨T, y', hx, hT, hH, hy⟩ := y
    have := hy xs h3
    rw [hv] at this
    cases this
    exact .inl ⟨T, v, d0, hx, hT, hH, rfl, by rw [← hid_mx hl]; exact rv⟩

/-! ### for -/
def SDt (K : PySem.W.Frag) (l : Lv) (g : TG) (tb : TS) (d : D) (env : List Bd) (o : Out) : Prop :=
  ∀ X a0 H0 M ad σ H Dn v, ER K X a0 H0 M ad σ H env → Rp K (hid (mk l M X) H) d v → OK K X a0 H0 Dn o → g v σ H fun σ2 H2 => tb Dn σ2 H2
theorem sdt {g : TG} (hg : TgD K l g d env env') (hb : SD K ts env' o) : SDt K l g ts d env o := fun X a0 H0 M ad σ H Dn v E r k =>
  hg X a0 H0 M ad σ H v _ E r fun σ' E' => hb X a0 H0 M ad σ' H Dn E' k
def Loop (B : D → List Bd → Out → Prop) : List D → List Bd → Out → Prop
  | [], env, o => o = .nx env
  | d :: ds, env, o => (∃ env1, (B d env (.nx env1) ∨ B d env (.ct env1)) ∧ Loop B ds env1 o) ∨ (∃ env1, B d env (.bk env1) ∧ o = .nx env1) ∨ (o.ret = true ∧ B d env o)
/-- an item met in a turn -/
theorem turn_in (hl : l.lp = true) {Hs : Hp} {x : V} {i : Nat} (E : ER K X a0 Hs M ad σ H env)
    (y : (H' = H ∧ Rp K (hid (mx l X) Hs) d x) ∨ (∃ T y dy, x = .ref T ∧ H T = none ∧ H' = upd H T (.tup [.int (i : Nat), y]) ∧ d = .tup [.int (i : Nat), dy] ∧ Rp K (hid (mx l X) Hs) dy y) ∨ ItKey K H H' x d (hid (mx l X) Hs)) :
    Ex H H' ∧ ER K X a0 Hs M ad σ H' env ∧ Rp K (hid (mk l M X) H') d x := by
  have up : Ex (hid (mx l X) Hs) (hid (mk l M X) H) := fun a o h => by
    obtain ⟨h1, h2⟩ := of_hid h
    have m : ¬ M.m a := fun z => by rw [E.mout a z] at h2; cases h2
    rw [hid_out fun z => ((mk_mx hl a).mp z).elim m h1]
    exact E.ex a o h2
  rcases y with ⟨rfl, r⟩ | ⟨T, y, dy, rfl, hT, rfl, rfl, r⟩ | (⟨rfl, q, xs, es, rfl, hq, rfl, hs, r⟩ | ⟨T, k, y, dk, dy, rfl, hT, rfl, rfl, rk, r⟩)
  · exact ⟨Ex.refl _, E, Rp.mono up _ _ r⟩
  · have g : Ex H (upd H T (.tup [.int (i : Nat), y])) := Ex.new hT
    refine ⟨g, E.grow g, T, _, rfl, ?_, ⟨_, _, rfl, rfl, _, _, rfl, Rp.mono (up.trans (hid_ex g)) _ _ r, rfl⟩⟩
    rw [hid_out (fresh_mk E hT), upd_same]
  · refine ⟨Ex.refl _, E, q, xs, rfl, ?_, r _⟩
    rw [hid_out fun z => (mk_nt E _ z).2 xs hq]; exact hq
  · have g : Ex H (upd H T (.tup [k, y])) := Ex.new hT
    refine ⟨g, E.grow g, T, _, rfl, ?_, ⟨_, _, rfl, rk _, _, _, rfl, Rp.mono (up.trans (hid_ex g)) _ _ r, rfl⟩⟩
    rw [hid_out (fresh_mk E hT), upd_same]
theorem sd_for (hl : l.lp = true) {wi : TI} {g : TG} {ds : List D} (hi : EvI K l p wi env env' ds) (h : Loop (SDt K l g ts) ds env' o) : SD K (tFor wi g ts) env o := fun X a0 H0 M ad σ H Dn E k =>
  hi X a0 H0 M ad σ H _ E fun J H1 E1 _ _ it => by
    have k' := OK.rebase E1 k
    refine ⟨fun i m σ' H' => m = ds.length - i ∧ i ≤ ds.length ∧ ∃ env M' ad', ER K X a0 (hid M.m H1) M' ad' σ' H' env ∧ Loop (SDt K l g ts) (ds.drop i) env o, ⟨ds.length, by simp, Nat.zero_le _, env', M, ad, E1.rebase, h⟩, ?_⟩
    rintro i m σ' H' ⟨rfl, hle, env, M', ad', E', L⟩
    obtain ⟨it1, it2⟩ := it i H' E'.ex
    by_cases hlt : i < ds.length
    · refine .inr ?_
      have hd : ds[i]? = some ds[i] := List.getElem?_eq_getElem hlt
      rw [List.drop_eq_getElem_cons hlt] at L
      obtain ⟨go, yl⟩ := it1 _ hd
      refine ⟨go, ?_⟩
      rcases L with ⟨env1, hB, L⟩ | ⟨env1, hB, ho⟩ | ⟨ho, hB⟩
      · refine ⟨fun σ2 H2 => ∃ env M' ad', ER K X a0 (hid M.m H1) M' ad' σ2 H2 env ∧ Loop (SDt K l g ts) (ds.drop (i + 1)) env o, fun σ2 H2 n => ⟨ds.length - (i + 1), by omega, rfl, hlt, n⟩, fun x H2 y => ?_⟩
        obtain ⟨_, E2, r2⟩ := turn_in hl E' (yl x H2 y)
        rcases hB with hB | hB
        · exact hB X a0 _ M' ad' σ' H2 _ x E2 r2 fun M3 ad3 σ3 H3 E3 => ⟨env1, M3, ad3, E3, L⟩
        · exact hB X a0 _ M' ad' σ' H2 _ x E2 r2 fun M3 ad3 σ3 H3 E3 => ⟨env1, M3, ad3, E3, L⟩
      · subst ho
        refine ⟨fun _ _ => False, fun _ _ z => z.elim, fun x H2 y => ?_⟩
        obtain ⟨_, E2, r2⟩ := turn_in hl E' (yl x H2 y)
        exact hB X a0 _ M' ad' σ' H2 _ x E2 r2 fun M3 ad3 σ3 H3 E3 => k' M3 ad3 σ3 H3 E3
      · refine ⟨fun _ _ => False, fun _ _ z => z.elim, fun x H2 y => ?_⟩
        obtain ⟨_, E2, r2⟩ := turn_in hl E' (yl x H2 y)
        exact hB X a0 _ M' ad' σ' H2 _ x E2 r2 (OK.ret ho k')
    · have e : i = ds.length := by omega
      subst e
      rw [List.drop_length] at L
      have L : o = .nx env := L
      subst L
      exact .inl ⟨it2 (Nat.le_refl _), k' M' ad' σ' H' E'⟩
theorem loop_fold {α S : Type} {B : D → List Bd → Out → Prop} {f : S → α → Option S} {en : α → D} {ev : S → List Bd} (h : ∀ x s s1, f s x = some s1 → B (en x) (ev s) (.nx (ev s1)) ∨ B (en x) (ev s) (.ct (ev s1))) :
    ∀ (xs : List α) s s', xs.foldlM f s = some s' → Loop B (xs.map en) (ev s) (.nx (ev s'))
  | [], s, s', q => by
    have q : some s = some s' := q
    cases q; rfl
  | x :: xs, s, s', q => by
    rw [List.foldlM_cons] at q
    obtain ⟨s1, h1, h2⟩ := Option.bind_eq_some_iff.mp q
    exact .inl ⟨ev s1, h x s s1 h1, loop_fold h xs s1 s' h2⟩

/-! ### while -/
def WLoop (C : List Bd → List Bd → Bool → Prop) (B : List Bd → Out → Prop) : Nat → List Bd → Out → Prop
  | 0, _, _ => False
  | n + 1, env, o => ∃ env1 b, C env env1 b ∧ (b = false → o = .nx env1) ∧ (b = true → (∃ env2, (B env1 (.nx env2) ∨ B env1 (.ct env2)) ∧ WLoop C B n env2 o) ∨ (∃ env2, B env1 (.bk env2) ∧ o = .nx env2) ∨ (o.ret = true ∧ B env1 o))
theorem sd_while {n : Nat} (h : WLoop (EvB K p t) (SD K ts) n env o) : SD K (tWhile t ts) env o := fun X a0 H0 M ad σ H Dn E k => by
  refine ⟨fun m σ' H' => ∃ env M' ad', ER K X a0 H0 M' ad' σ' H' env ∧ WLoop (EvB K p t) (SD K ts) m env o, ⟨n, env, M, ad, E, h⟩, ?_⟩
  rintro m σ' H' ⟨env, M', ad', E', L⟩
  cases m with
  | zero => exact L.elim
  | succ m =>
    obtain ⟨env1, b, hC, h0, h1⟩ := L
    refine hC X a0 H0 M' ad' σ' H' _ E' fun H2 E2 _ _ => ?_
    cases b with
    | false =>
      have := h0 rfl
      subst this
      exact k M' ad' σ' H2 E2
    | true =>
      show ∃ N : St → Hp → Prop, _
      rcases h1 rfl with ⟨env2, hB, L⟩ | ⟨env2, hB, ho⟩ | ⟨ho, hB⟩
      · refine ⟨fun σ3 H3 => ∃ env M' ad', ER K X a0 H0 M' ad' σ3 H3 env ∧ WLoop (EvB K p t) (SD K ts) m env o, fun σ3 H3 z => ⟨m, Nat.lt_succ_self _, z⟩, ?_⟩
        rcases hB with hB | hB
        · exact hB X a0 H0 M' ad' σ' H2 _ E2 fun M3 ad3 σ3 H3 E3 => ⟨env2, M3, ad3, E3, L⟩
        · exact hB X a0 H0 M' ad' σ' H2 _ E2 fun M3 ad3 σ3 H3 E3 => ⟨env2, M3, ad3, E3, L⟩
      · subst ho
        exact ⟨fun _ _ => False, fun _ _ z => z.elim, hB X a0 H0 M' ad' σ' H2 _ E2 fun M3 ad3 σ3 H3 E3 => k M3 ad3 σ3 H3 E3⟩
      · exact ⟨fun _ _ => False, fun _ _ z => z.elim, hB X a0 H0 M' ad' σ' H2 _ E2 (OK.ret ho k)⟩
end
end Pw
/-! PwJ: enumerate(tuple) walked; tuple * 1. -/
namespace Pw
open PySem PySem.Spec PyProof.Rows L2
open AutoSeq1 (wpAny_loadPart')
theorem enum_new_tup (l : Addr) (items : Array Value) (n : Nat) (dct : Option Addr) (sl : Array (Option Value)) :
    Meets (Builtin.«enumerate.__new__» ⟨[.type "enumerate", .ref l], []⟩) (fun _ R s => s.heap.get? l = some { cls := .type "tuple", dict := dct, data := .seq items n, slots := sl } ∧
      R (.ok (.ret (.ref (s.heap.push { cls := .type "tuple_iterator", data := .fields #[.ref l, .int 0 0] }).objs.size)))
        { s with heap := (s.heap.push { cls := .type "tuple_iterator", data := .fields #[.ref l, .int 0 0] }).push { cls := .type "enumerate", data := .fields #[.none, .bool false, .ref s.heap.objs.size, rawInt 0, .none, .none] } }) :=
  .of_wp fun prog w A R s h => by
    obtain ⟨hp, g, d, tk, os⟩ := s
    obtain ⟨hl, h⟩ := h
    have hsub := sub_enumerate
    have isT : Heap.IsTuple (Shared.heap ⟨hp, g, d, tk, os⟩) l items := ⟨_, hl, rfl, n, rfl⟩
    wp_walk using wpAny_loadPart' hl
    refine wpAny_stack_any fun st => wpAny_pure ?_
    split
    · rename_i c _ _ _ _ _
      cases (c == Value.type "enumerate") <;> (wp_walk using wpAny_loadPart' hl, wpAny_pyIter_tuple isT; exact ⟨_, rfl, h⟩)
    · wp_walk using wpAny_loadPart' hl, wpAny_pyIter_tuple isT
      exact ⟨_, rfl, h⟩
section
variable {prog : Program} {w : World} {A : Around} {E : Value → Shared → Prop} {s : Shared}
theorem enum_of_tup {l : Addr} {items : Array Value} {Q : Value → Shared → Prop} (hL : s.heap.IsTuple l items)
    (k : ∀ h', IsEnum h' (s.heap.objs.size + 1) s.heap.objs.size 0 .none → h'.IsTupleIter s.heap.objs.size l 0 → h'.objs.size = s.heap.objs.size + 2 → (∀ b o, s.heap.get? b = some o → h'.get? b = some o) → Q (.ref (s.heap.objs.size + 1)) { s with heap := h' }) :
    wpAny (model prog w) A (call (.type "enumerate") [.ref l]) Q E s := by
  obtain ⟨⟨c, dct, dt, sl⟩, hl, hc, n, hd⟩ := hL
  have hc : c = .type "tuple" := hc
  have hd : dt = .seq items n := hd
  subst hc hd
  refine callType_new F.called_enumerate (by decide) (F.typeCall_enumerate_1 _) (F.newCall_enumerate_1 _) (fun obj => F.args_object_init_2 obj _) F.entry_enumerate_new (enum_new_tup l items n dct sl) ⟨hl, ?_⟩
  have sz : (s.heap.push { cls := .type "tuple_iterator", data := .fields #[.ref l, .int 0 0] }).objs.size = s.heap.objs.size + 1 := Heap.size_push ..
  show _ ∧ _
  have he := Heap.get?_push_size (s.heap.push { cls := .type "tuple_iterator", data := .fields #[.ref l, .int 0 0] }) (o := { cls := .type "enumerate", data := .fields #[.none, .bool false, .ref s.heap.objs.size, rawInt 0, .none, .none] }) rfl
  rw [sz] at he ⊢
  exact ⟨⟨_, he, rfl⟩, k _ he ⟨_, Heap.get?_push_of_some _ (Heap.get?_push_size _ rfl), rfl, rfl⟩ (by rw [Heap.size_push, sz]) fun b o x => Heap.get?_push_of_some _ (Heap.get?_push_of_some _ x)⟩
theorem enum_end_tup {e it l : Addr} {i : Nat} {items : Array Value} {old : Value} {Q : Option Value → Shared → Prop} (hh : A.handled = none) (he : IsEnum s.heap e it i old) (hit : s.heap.IsTupleIter it l i) (hl : s.heap.IsTuple l items) (hx : items[i]? = none)
    (k : ∀ h', Heap.ExtBut it s.heap h' → Q none { s with heap := h' }) : wpAny (model prog w) A (pyNext (.ref e)) Q E s := by
  have ty : s.TypeIs (.ref e) "enumerate" := ⟨_, he, rfl⟩
  unfold pyNext
  refine wpAny_bind (wpAny_attempt (wpAny_callSpecial?_slot (name := Str.ofString "__next__") ty F.slot_enumerate_next (wpAny_call_entry F.slot_enumerate_next ty F.entry_enumerate_next ?_ (F.args_enumerate_next_1 _))))
  show wpAny _ _ (field (.ref e) 2 >>= _) _ _ _
  refine wpAny_bind (wpAny_field he rfl (x := .ref it) rfl (wpAny_bind (wpAny_nextOf_tuple_end hh hit hl hx fun h' x he' ⟨o, ho, hc⟩ => ?_)))
  refine wpAny_bind (wpAny_isInstance (T := "StopIteration") (b := true) ⟨o, ho, hc⟩ isSubtype_stop ?_)
  exact wpAny_pure (k _ he')
end
/-- the tuple at a, each item in a new pair with its place -/
def ItEnT (K : PySem.W.Frag) (a : Addr) : It where
  go := fun i H => ∃ (xs : List V) (x : V), SqT K H a xs ∧ xs[i]? = some x
  yld := fun i H v H' => ∃ T x, v = .ref T ∧ H T = none ∧ H' = upd H T (.tup [.int (i : Nat), x]) ∧ ∀ xs, SqT K H a xs → xs[i]? = some x
  stop := fun i H => ∃ xs : List V, SqT K H a xs ∧ xs.length ≤ i
theorem turn_enT {P : Program} {w : World} {K : PySem.W.Frag} {elts : List Expr} {kk : Nat} {tpos : Pos} (a e it : Addr) :
    Turn P w K (.Tuple elts kk tpos) (ItEnT K a) [e, it] e (fun i h => (∃ old, IsEnum h e it ((i : Nat) : Int) old) ∧ h.IsTupleIter it a i ∧ e ≠ it ∧ a ≠ it ∧ e ≠ a) where
  mem := by simp
  obj := fun i h st b hb => by
    obtain ⟨⟨old, he⟩, ⟨o, ho, hc, hd⟩, _⟩ := st
    rcases (by simpa using hb : b = e ∨ b = it) with z | z
    · rw [z]; exact ⟨_, he, fun v q => nomatch q⟩
    · rw [z]; exact ⟨o, ho, fun v q => by rw [hd] at q; cases q⟩
  keep := fun i h h' st k => let ⟨⟨old, he⟩, hi, hne⟩ := st; ⟨⟨old, k e (by simp) _ he⟩, hi.at fun o q => k it (by simp) o q, hne⟩
  item := by
    intro X hP hw hK hc i pins s σ H E I hf st hg
    subst hP hw hK
    obtain ⟨⟨old, he⟩, hit, hne, hai, hea⟩ := st
    obtain ⟨xs, x, hq, hx⟩ := hg
    obtain ⟨its, rv, p, hz⟩ := I.tuple hq
    obtain ⟨u, hu, ru⟩ := rv.get hx
    have isT : s.heap.IsTuple a its.toArray := p
    have hil : i < its.toArray.size := by
      rw [List.size_toArray]
      exact (List.getElem?_eq_some_iff.mp hu).1
    have hel : e < s.heap.objs.size := Heap.lt_size he
    have hitl : it < s.heap.objs.size := by obtain ⟨_, q, _⟩ := hit; exact Heap.lt_size q
    refine wpAny_pyNext_enum_itemD (Draws.tuple (A := X.A.in1) (show X.A.in1.handled = none from I.ok.hd hc) it a hai its.toArray) he ⟨hit, isT⟩ hil hne (by simp [hne, hea]) fun u' h' tk hP ho hs' hT hsz hk => ?_
    have hu' : u' = u := by
      have : its[i]? = some u' := by simpa using hP
      rw [hu] at this
      exact (Option.some.inj this).symm
    subst hu'
    obtain ⟨hit', isT'⟩ := hs'
    refine ⟨_, rfl, wpAny_letOwnedTupleGo_enum (s := { s with heap := h', toks := tk + 1 }) ho fun h'' he' sb => ?_⟩
    have hT2 : h''.get? s.heap.objs.size = some { cls := .type "tuple", data := .seq #[.int i tk, u'] } := (sb.2 _ (Nat.ne_of_gt hel)).trans hT
    have new : ObjOk X.prog X.w (upd H s.heap.objs.size (.tup [.int (i : Nat), x])) h'' s.heap.objs.size (.tup [.int (i : Nat), x]) :=
      ⟨by show 2 ≤ sizeLine; decide, [.int i tk, u'], .cons ⟨_, rfl⟩ (.cons ru .nil), ⟨_, hT2, rfl, _, rfl⟩⟩
    have I1 : L2.Inv X pins σ (upd H s.heap.objs.size (.tup [.int (i : Nat), x])) { s with heap := h'', toks := tk + 1 } :=
      I.turnedNew (ch := [e, it]) (fun b ob hb q => (sb.2 b (fun z => hb (by simp [z]))).trans (hk b ob (fun z => hb (by simp [z])) (fun z => hb (by simp [z])) q)) hf (Nat.le_refl _) new
    refine ⟨.ref s.heap.objs.size, _, I1, rfl, ⟨_, x, rfl, I.hok.fresh (Nat.le_refl _), rfl, fun ys hy => by rw [I.tuple_inj hy hq]; exact hx⟩, ⟨⟨u', ?_⟩, hit'.at fun o q => (sb.2 it (Ne.symm hne)).trans q, hne, hai, hea⟩, fun b hb => ?_⟩
    · rw [show ((i + 1 : Nat) : Int) = (i : Int) + 1 by omega]
      exact he'
    · have hb' : b < s.heap.objs.size := by
        rcases (by simpa using hb : b = e ∨ b = it) with z | z
        · rw [z]; exact hel
        · rw [z]; exact hitl
      rw [upd_ne (Nat.ne_of_lt hb')]
      exact (hf b hb).1
  done := by
    intro X hP hw hK hc i pins s σ H E I hf st hg
    subst hP hw hK
    obtain ⟨⟨old, he⟩, hit, hne, hai, hea⟩ := st
    obtain ⟨xs, hq, hx⟩ := hg
    obtain ⟨its, rv, p, hz⟩ := I.tuple hq
    obtain ⟨f0, f1, f2, f3, f4, f5⟩ := hf it (by simp)
    have hl := rv.length
    have hiN : its.toArray.size ≤ i := by rw [List.size_toArray]; omega
    exact enum_end_tup (I.ok.hd hc) he hit (show s.heap.IsTuple a its.toArray from p) (by simp; omega) fun h' eb => ⟨rfl, I.turned (t' := s.toks) (fun b o hb e => eb b o hb e) f0 f1 f3 f4 f5⟩
  self := fun A i s Q E st h => let ⟨⟨_, he⟩, _⟩ := st; wpAny_pyIter_enum he h
def iEnT (K : PySem.W.Frag) (ta : TA) : TI := fun σ H R => ta σ H fun vs H1 => ∃ a xs, vs = [.ref a] ∧ SqT K H1 a xs ∧ R (ItEnT K a) H1
theorem pi_enT {X : Cx} {e : Expr} {ta : TA} {p pos tpos : Pos} {elts : List Expr} {kk : Nat} (hg : Gl X "enumerate") (hm : X.mg "enumerate" = none) (ha : PA X [e] ta) (hs : starEach [e] X.env = [(false, eval e X.env)] := by rfl) :
    PI X (.Tuple elts kk tpos) (.Call (.Name "enumerate" p) [e] [] pos) (iEnT X.K ta) := by
  refine ⟨fun pins s σ H R I h => Call_ (ld_blt I hg hm boot_enumerate (PyProof.Rows.callWith_type1 (thn (ha.run pos pins s σ H _ I h) fun us s1 ⟨vs, H1, I1, r1, q1⟩ => ?_) hs rfl))⟩
  obtain ⟨a, xs, ex, hq, q⟩ := q1
  subst ex
  cases r1 with
  | cons r rr =>
    cases rr
    cases r
    obtain ⟨its, rv, p', hz⟩ := I1.tuple hq
    have isT : s1.heap.IsTuple a its.toArray := p'
    have al : a < s1.heap.objs.size := by obtain ⟨_, z, _⟩ := isT; exact Heap.lt_size z
    refine enum_of_tup isT fun h' he hit hsz hk => wpAny_pyIter_enum he ?_
    have I2 : L2.Inv X pins σ H1 { s1 with heap := h' } := I1.kept (t' := s1.toks) hk
    refine ⟨s1.heap.objs.size + 1, [s1.heap.objs.size + 1, s1.heap.objs.size], _, _, H1, rfl, I2, turn_enT a _ _, ⟨⟨_, he⟩, hit, Nat.succ_ne_self _, Nat.ne_of_lt al, Nat.ne_of_gt (Nat.lt_succ_of_lt al)⟩, fun b hb => ?_, q⟩
    have hb' : s1.heap.objs.size ≤ b := by
      rcases (by simpa using hb : b = s1.heap.objs.size + 1 ∨ b = s1.heap.objs.size) with z | z
      · rw [z]; exact Nat.le_succ _
      · rw [z]; exact Nat.le_refl _
    exact I1.fpOk hb' (I1.hok.fresh hb')

/-! ### t * 1 is t -/
theorem tup_mul_one (l : Addr) (items : Array Value) (n : Nat) (dd : Option Addr) (sl : Array (Option Value)) (u : Tok) :
    Meets (Builtin.«tuple.__mul__» ⟨[.ref l, .int 1 u], []⟩) (fun _ R s => s.heap.get? l = some { cls := .type "tuple", dict := dd, data := .seq items n, slots := sl } ∧ R (.ok (.ret (Value.ref l))) s) :=
  .of_wp fun prog w A R s h => by
    obtain ⟨hp, g, d, tk, os⟩ := s
    obtain ⟨hl, h⟩ := h
    have f1 := AutoSeq1.idx_int
    have c1 : (items.isEmpty || (1 : Int) == 1) = true := by simp
    wp_walk using wpAny_loadPart' hl
    repeat (first
      | (refine wpAny_ite_false (by decide) ?_; wp_walk using wpAny_loadPart' hl)
      | (refine wpAny_ite_true (by simp) ?_; wp_walk using wpAny_loadPart' hl))
    exact ⟨_, rfl, h⟩
def rRepT1 (K : PySem.W.Frag) : R2 := fun x y H Q => ∃ l xs, x = .ref l ∧ y = .int 1 ∧ SqT K H l xs ∧ Q (.ref l) H
theorem op_repT1 {X : Cx} : OpR X (binaryOp .Mult) (rRepT1 X.K) := by
  intro pins s σ H x y v u Q I rx ry h
  obtain ⟨l, xs, rfl, rfl, hT, q⟩ := h
  cases rx
  obtain ⟨t, rfl⟩ := ry
  obtain ⟨its, r, ⟨⟨cls, dd, data, sl⟩, ho, hc, n, hd⟩, hs⟩ := I.tuple hT
  simp only at hc hd
  subst hc hd
  refine wpAny_binaryOp_repeat_ref (T := "tuple") (U := "int") (by decide) ⟨_, ho, rfl⟩ (fun s' => typeIs_int s' 1 t) noFill_tuple_mul F.fills_int_mul F.slot_int_rmul repeat_tuple F.slot_int_index.lookup ?_
  refine call_meets F.slot_int_rmul (typeIs_int s 1 t) F.entry_int_rmul (F.args_int_rmul_2 _ _) (int_rmul_tuple 1 t l its.toArray n dd sl) ⟨ho, rfl, ⟨_, ho, rfl⟩, ?_⟩
  exact call_meets F.slot_tuple_mul ⟨_, ho, rfl⟩ F.entry_tuple_mul (F.args_tuple_mul_2 _ _) (tup_mul_one l its.toArray n dd sl t) ⟨ho, .ref l, H, I, rfl, q⟩
end Pw
namespace Pw
open PySem L2

section
variable {K : PySem.W.Frag} {X : Addr → Prop} {a0 : Addr} {H0 : Hp} {M M' : Msk} {ad ad' : Nat → Addr} {σ σ' : St} {H H' H1 : Hp} {env env' env'' : List Bd} {l l' : Lv} {p q : Bool} {d d' e : D} {ta tb te ti : TE} {t u : TT} {i j : Nat} {b c : Bool} {ts tu : TS} {o : Out} {Dn : Ends}
/-! ### comprehensions -/
def wipeE (env : List Bd) : List Nat → List Bd
  | [] => env
  | v :: vs => (wipeE env vs).set v .an
theorem wipeE_len : ∀ {vs : List Nat}, (wipeE env vs).length = env.length
  | [] => rfl
  | v :: vs => by unfold wipeE; rw [List.length_set, wipeE_len]
theorem wipeE_at : ∀ {vs : List Nat} {j : Nat}, j ∈ vs → j < env.length → (wipeE env vs)[j]? = some .an
  | v :: vs, j, h, hl => by
    unfold wipeE
    by_cases e : j = v
    · subst e; rw [List.getElem?_set_self (by rw [wipeE_len]; exact hl)]
    · rw [List.getElem?_set_ne (Ne.symm e)]
      exact wipeE_at ((List.mem_cons.mp h).resolve_left e) hl
theorem ER.setAn (E : ER K X a0 H0 M ad σ H env) {x : Option V} (hm : isMu env[i]? = false) : ER K X a0 H0 M ad (σ.set i x) H (env.set i .an) := by
  have σo : ∀ j : Nat, j ≠ i → (σ.set i x)[j]? = σ[j]? := fun j e => List.getElem?_set_ne (Ne.symm e)
  refine ⟨by simp [E.len], E.ex, fun a ha => ?_, E.min, E.mout, fun j e h => ?_, fun j e h => ?_, fun j e h => ?_, fun j e h => ?_, fun j k e f h1 h2 => ?_, fun j k e h1 h2 => ?_, fun j k h1 h2 => E.mu1 j k (set_mu rfl h1).2 (set_mu rfl h2).2⟩
  · rcases E.xin a ha with q | ⟨q, j, hj⟩
    · exact .inl q
    · exact .inr ⟨q, j, mu_set hm hj⟩
  · rcases set_cases h with ⟨_, z, _⟩ | ⟨z, h⟩
    · cases z
    · obtain ⟨w, h1, h2⟩ := E.im j e h
      exact ⟨w, by rw [σo j z]; exact h1, h2⟩
  · rcases set_cases h with ⟨_, z, _⟩ | ⟨z, h⟩
    · cases z
    · obtain ⟨w, h1, h2⟩ := E.rd j e h
      exact ⟨w, by rw [σo j z]; exact h1, h2⟩
  · rcases set_cases h with ⟨_, z, _⟩ | ⟨z, h⟩
    · cases z
    · obtain ⟨h1, h2, h3⟩ := E.ow j e h
      exact ⟨h1, by rw [σo j z]; exact h2, h3⟩
  · rcases set_cases h with ⟨_, z, _⟩ | ⟨z, h⟩
    · cases z
    · obtain ⟨h1, h2, h3⟩ := E.mu j e h
      exact ⟨h1, by rw [σo j z]; exact h2, h3⟩
  · rcases set_cases h1 with ⟨_, z, _⟩ | ⟨z, h1⟩
    · cases z
    · rcases set_cases h2 with ⟨_, z, _⟩ | ⟨z, h2⟩
      · cases z
      · exact E.inj j k e f h1 h2
  · rcases set_cases h1 with ⟨_, z, _⟩ | ⟨z, h1⟩
    · cases z
    · exact E.nmu j k e h1 (set_mu rfl h2).2
/-- slots where nothing is known may hold anything -/
theorem ER.anyAt (E : ER K X a0 H0 M ad σ H env) (hl : σ'.length = σ.length) (h : ∀ (j : Nat) b, env[j]? = some b → b = .an ∨ σ'[j]? = σ[j]?) : ER K X a0 H0 M ad σ' H env := by
  refine ⟨hl.trans E.len, E.ex, E.xin, E.min, E.mout, fun j e q => ?_, fun j e q => ?_, fun j e q => ?_, fun j e q => ?_, E.inj, E.nmu, E.mu1⟩
  · rcases h j _ q with z | z
    · cases z
    · rw [z]; exact E.im j e q
  · rcases h j _ q with z | z
    · cases z
    · rw [z]; exact E.rd j e q
  · rcases h j _ q with z | z
    · cases z
    · rw [z]; exact E.ow j e q
  · rcases h j _ q with z | z
    · cases z
    · rw [z]; exact E.mu j e q
theorem nomus : ∀ {vs : List Nat} {v : Nat}, (vs.all fun v => !isMu env[v]?) = true → v ∈ vs → isMu env[v]? = false := fun {vs v} h hv => by
  have := List.all_eq_true.mp h v hv
  simpa using this
theorem ER.wipe (E : ER K X a0 H0 M ad σ H env) : ∀ {vs : List Nat}, (vs.all fun v => !isMu env[v]?) = true → ER K X a0 H0 M ad (wipe σ vs) H (wipeE env vs) ∧ ∀ j : Nat, isMu env[j]? = false → isMu (wipeE env vs)[j]? = false
  | [], _ => ⟨E, fun _ h => h⟩
  | v :: vs, h => by
    have h' : (!isMu env[v]?) = true ∧ (vs.all fun v => !isMu env[v]?) = true := by simpa using h
    obtain ⟨E1, h1⟩ := ER.wipe E h'.2
    have hv : isMu env[v]? = false := by simpa using h'.1
    refine ⟨E1.setAn (h1 v hv), fun j hj => ?_⟩
    cases q : isMu (wipeE env (v :: vs))[j]? with
    | false => rfl
    | true =>
      have := (set_mu (env := wipeE env vs) rfl q).2
      rw [h1 j hj] at this; cases this
theorem wipe_get {vs : List Nat} {j : Nat} : (wipe σ vs)[j]? = if j ∈ vs ∧ j < σ.length then some none else σ[j]? := by
  induction vs with
  | nil => simp [L2.wipe]
  | cons v vs ih =>
    unfold L2.wipe
    by_cases e : j = v
    · subst e
      by_cases hl : j < σ.length
      · rw [List.getElem?_set_self (by rw [wipe_length]; exact hl), if_pos ⟨List.mem_cons_self, hl⟩]
      · rw [List.getElem?_eq_none (by simp [wipe_length]; omega), if_neg fun z => hl z.2, List.getElem?_eq_none (by omega)]
    · rw [List.getElem?_set_ne (Ne.symm e), ih]
      by_cases hl : j ∈ vs ∧ j < σ.length
      · rw [if_pos hl, if_pos ⟨List.mem_cons_of_mem _ hl.1, hl.2⟩]
      · rw [if_neg hl, if_neg fun z => hl ⟨(List.mem_cons.mp z.1).resolve_left e, z.2⟩]
theorem wipe_set {vs : List Nat} {x : Option V} (h : i ∈ vs) : wipe (σ.set i x) vs = wipe σ vs := by
  apply List.ext_getElem?
  intro j
  rw [wipe_get, wipe_get, List.length_set]
  by_cases hl : j ∈ vs ∧ j < σ.length
  · rw [if_pos hl, if_pos hl]
  · rw [if_neg hl, if_neg hl]
    by_cases e : j = i
    · subst e
      have : ¬ j < σ.length := fun z => hl ⟨h, z⟩
      rw [List.getElem?_eq_none (by simp; omega), List.getElem?_eq_none (by omega)]
    · rw [List.getElem?_set_ne (Ne.symm e)]
theorem wipe_wipe {vs : List Nat} : wipe (wipe σ vs) vs = wipe σ vs := by
  apply List.ext_getElem?
  intro j
  rw [wipe_get, wipe_length]
  by_cases hl : j ∈ vs ∧ j < σ.length
  · rw [if_pos hl, wipe_get, if_pos hl]
  · rw [if_neg hl]
structure TgW (g : TG) (vs : List Nat) : Prop where
  mono : ∀ v σ H (Q Q' : St → Hp → Prop), (∀ s h, Q s h → Q' s h) → g v σ H Q → g v σ H Q'
  w : ∀ v σ H (Q : St → Hp → Prop), g v σ H Q → g v σ H fun σ2 H2 => wipe σ2 vs = wipe σ vs ∧ Q σ2 H2
structure TgsW (g : TGs) (vs : List Nat) : Prop where
  mono : ∀ v σ H (Q Q' : St → Hp → Prop), (∀ s h, Q s h → Q' s h) → g v σ H Q → g v σ H Q'
  w : ∀ v σ H (Q : St → Hp → Prop), g v σ H Q → g v σ H fun σ2 H2 => wipe σ2 vs = wipe σ vs ∧ Q σ2 H2
theorem tw_name {vs : List Nat} (h : i ∈ vs) : TgW (gName i) vs := ⟨fun v σ H Q Q' k q => k _ _ q, fun v σ H Q q => ⟨wipe_set h, q⟩⟩
theorem tws_nil {vs : List Nat} : TgsW gNil vs := ⟨fun v σ H Q Q' k q => ⟨q.1, k _ _ q.2⟩, fun v σ H Q q => ⟨q.1, rfl, q.2⟩⟩
theorem tws_cons {vs : List Nat} {g : TG} {gs : TGs} (h : TgW g vs) (hs : TgsW gs vs) : TgsW (gCons g gs) vs := by
  refine ⟨fun v σ H Q Q' k ⟨x, r, e, q⟩ => ⟨x, r, e, h.mono _ _ _ _ _ (fun s h z => hs.mono _ _ _ _ _ k z) q⟩, fun v σ H Q q => ?_⟩
  obtain ⟨x, r, e, q⟩ := q
  refine ⟨x, r, e, h.mono _ _ _ _ _ (fun s1 h1 z => ?_) (h.w _ _ _ _ q)⟩
  exact hs.mono _ _ _ _ _ (fun s2 h2 y => ⟨y.1.trans z.1, y.2⟩) (hs.w _ _ _ _ z.2)
theorem tw_tup {vs : List Nat} {gs : TGs} {n : Nat} (h : TgsW gs vs) : TgW (gTup K n gs) vs :=
  ⟨fun v σ H Q Q' k ⟨a, xs, h1, h2, h3, q⟩ => ⟨a, xs, h1, h2, h3, h.mono _ _ _ _ _ k q⟩, fun v σ H Q ⟨a, xs, h1, h2, h3, q⟩ => ⟨a, xs, h1, h2, h3, h.w _ _ _ _ q⟩⟩

/-- one turn: the item, what is known, the new item or none, what is known behind -/
structure Turn (K : PySem.W.Frag) (l : Lv) (p : Bool) (g : TG) (tt : TT) (te : TE) (vs : List Nat) (d : D) (env : List Bd) (r : Option D) (env' : List Bd) : Prop where
  an : ∀ v ∈ vs, env'[v]? = some .an ∨ env'[v]? = none
  go : ∃ envt env1, TgD K l g d env envt ∧ ∃ b, EvB K p tt envt env1 b ∧ (vs.all fun v => !isMu env1[v]?) = true ∧
    (b = true → ∃ env2 y, EvD K .l2 p te env1 env2 y ∧ (vs.all fun v => !isMu env2[v]?) = true ∧ r = some y ∧ env' = wipeE env2 vs) ∧ (b = false → r = none ∧ env' = wipeE env1 vs)
def CLoop (B : D → List Bd → Option D → List Bd → Prop) : List D → List Bd → List D → List Bd → Prop
  | [], env, out, env' => out = [] ∧ env' = env
  | d :: ds, env, out, env' => ∃ r env1 out', B d env r env1 ∧ out = r.toList ++ out' ∧ CLoop B ds env1 out' env'
theorem CLoop.len {B : D → List Bd → Option D → List Bd → Prop} : ∀ {ds : List D} {env env' : List Bd} {out : List D}, CLoop B ds env out env' → out.length ≤ ds.length
  | [], _, _, _, h => by rw [h.1]; exact Nat.le_refl _
  | d :: ds, _, _, _, ⟨r, env1, out', _, h2, h3⟩ => by
    have := h3.len
    rw [h2]
    cases r <;> simp <;> omega
theorem ef_lc (hl : l.lp = true) {wi : TI} {g : TG} {tt : TT} {vs : List Nat} {ds out : List D} (hi : EvI K l p wi env env' ds) (hw : TgW g vs) (han : ∀ v ∈ vs, env'[v]? = some .an) (hn : ds.length ≤ 100000)
    (h : CLoop (Turn K l p g tt te vs) ds env' out env'') : EvF K p (tLc wi g tt te vs) env env'' (.lst out) := fun X a0 H0 M ad σ H Q E k =>
  hi X a0 H0 M ad σ H _ E fun J H1 E1 e1 p1 it => fun Dl hD => by
    have g0 : Ex H1 (upd H1 Dl (.lst [])) := Ex.new hD
    have nM : ¬ M.m Dl := fun z => (E1.min _ z).1 hD
    have nX : ¬ X Dl := fun z => (E1.has z).1 hD
    have σan : ∀ (j : Nat) b, env'[j]? = some b → b = .an ∨ (wipe σ vs)[j]? = σ[j]? := fun j b hb => by
      by_cases m : j ∈ vs
      · rw [han j m] at hb; exact .inl (Option.some.inj hb).symm
      · rw [wipe_get, if_neg fun z => m z.1]; exact .inr rfl
    have E1w : ER K X a0 (hid M.m H1) M ad (wipe σ vs) H1 env' := (E1.rebase).anyAt (wipe_length _ _) σan
    have ES : ER K X a0 (hid M.m H1) (M.hide Dl) ad (wipe σ vs) (upd H1 Dl (.lst [])) env' := E1w.mask hD g0 (by rw [upd_same]; exact ⟨by simp, by simp⟩)
    have ne1 : ∀ b o, H1 b = some o → b ≠ Dl := fun b o h z => by rw [z, hD] at h; cases h
    have keepD : ∀ {H2 H3 : Hp} {xs : List V}, Ex (hid M.n H2) (hid M.n H3) → H2 Dl = some (.lst xs) → H3 Dl = some (.lst xs) := fun {H2 H3 xs} e h => (of_hid (e Dl _ (by rw [hid_out fun z => nM (M.le _ z)]; exact h))).2
    have updE : ∀ {H2 : Hp} {env2 : List Bd} {o : HO}, (∀ xs, o ≠ .tup xs) → ER K X a0 (hid M.m H1) (M.hide Dl) ad (wipe σ vs) H2 env2 → ER K X a0 (hid M.m H1) (M.hide Dl) ad (wipe σ vs) (upd H2 Dl o) env2 := fun {H2 env2 o} ho E2 => by
      have hm1 : hid (fun b => (M.hide Dl).m b ∨ X b) (upd H2 Dl o) = hid (fun b => (M.hide Dl).m b ∨ X b) H2 := hid_upd (.inl (.inr rfl))
      have hm2 : hid (M.hide Dl).m (upd H2 Dl o) = hid (M.hide Dl).m H2 := hid_upd (.inr rfl)
      refine ⟨E2.len, fun b u hb => ?_, E2.xin, fun b hb => ?_, E2.mout, fun j e q => ?_, fun j e q => ?_, fun j e q => ?_, fun j e q => ?_, E2.inj, E2.nmu, E2.mu1⟩
      · rw [upd_ne (ne1 b u (of_hid hb).2)]; exact E2.ex b u hb
      · by_cases z : b = Dl
        · rw [z, upd_same]; exact ⟨by simp, fun xs e => ho xs (Option.some.inj e)⟩
        · rw [upd_ne z]; exact E2.min b hb
      · rw [hm1]; exact E2.im j e q
      · rw [hm2]; exact E2.rd j e q
      · obtain ⟨g1, g2, g3⟩ := E2.ow j e q
        rw [hm1]
        exact ⟨g1, g2, g3.mono (Ex.refl _) (upd_ne fun z => nM (M.le _ (by rw [← z]; exact g1)))⟩
      · obtain ⟨g1, g2, g3⟩ := E2.mu j e q
        rw [hm1]
        exact ⟨g1, g2, g3.mono (Ex.refl _) (upd_ne fun z => nM (M.le _ (by rw [← z]; exact g1)))⟩
    refine ⟨fun i m H' => m = ds.length - i ∧ i ≤ ds.length ∧ ∃ envi acc xs rest, ER K X a0 (hid M.m H1) (M.hide Dl) ad (wipe σ vs) H' envi ∧ (p = true → Ex H1 H') ∧ (∀ b o, ¬ M.n b → H1 b = some o → H' b = some o) ∧ H' Dl = some (.lst xs) ∧
      RpL K (hid (fun b => (M.hide Dl).m b ∨ X b) H') acc xs ∧ CLoop (Turn K l p g tt te vs) (ds.drop i) envi rest env'' ∧ out = acc ++ rest ∧ (∀ v ∈ vs, envi[v]? = some .an ∨ envi[v]? = none),
      ⟨ds.length, by simp, Nat.zero_le _, env', [], [], out, ES, fun _ => g0, fun b o _ hb => g0 b o hb, upd_same, rfl, h, rfl, fun v hv => .inl (han v hv)⟩, ?_⟩
    rintro i m H' ⟨rfl, hle, envi, acc, xs, rest, E', pe, un', hDl, hacc, L, hout, hani⟩
    obtain ⟨it1, it2⟩ := it i H' E'.ex
    by_cases hlt : i < ds.length
    · refine .inr ?_
      have hd : ds[i]? = some ds[i] := List.getElem?_eq_getElem hlt
      rw [List.drop_eq_getElem_cons hlt] at L
      obtain ⟨go, yl⟩ := it1 _ hd
      obtain ⟨r, env1, out', hB, hr, L⟩ := L
      obtain ⟨han1, envt, env2, hT, b, hC, hmu, hyes, hno⟩ := hB
      refine ⟨go, fun H2 => ∃ envi acc xs rest, ER K X a0 (hid M.m H1) (M.hide Dl) ad (wipe σ vs) H2 envi ∧ (p = true → Ex H1 H2) ∧ (∀ b o, ¬ M.n b → H1 b = some o → H2 b = some o) ∧ H2 Dl = some (.lst xs) ∧
        RpL K (hid (fun b => (M.hide Dl).m b ∨ X b) H2) acc xs ∧ CLoop (Turn K l p g tt te vs) (ds.drop (i + 1)) envi rest env'' ∧ out = acc ++ rest ∧ (∀ v ∈ vs, envi[v]? = some .an ∨ envi[v]? = none), fun H2 n => ⟨ds.length - (i + 1), by omega, rfl, hlt, n⟩, fun x H2 y => ?_⟩
      obtain ⟨gx, E2, r2⟩ := turn_in hl E' (yl x H2 y)
      have hDl2 : H2 Dl = some (.lst xs) := gx _ _ hDl
      have hlen : acc.length ≤ 100000 := by
        have a2 : out.length ≤ ds.length := h.len
        rw [hout] at a2
        simp at a2
        omega
      refine hw.mono _ _ _ _ _ (fun σ3 H3 z => ⟨z.1.trans wipe_wipe, z.2 (z.1.trans wipe_wipe)⟩) (hw.w x (L2.wipe σ vs) H2 (fun σ3 H3 => L2.wipe σ3 vs = L2.wipe σ vs → _) ?_)
      refine hT X a0 _ _ ad _ H2 x _ E2 r2 fun σ3 E3 hσ => ?_
      refine hC X a0 _ _ ad σ3 H2 _ E3 fun H3 E4 e4 p4 => ?_
      have hDl3 : H3 Dl = some (.lst xs) := keepD e4 hDl2
      have up3 : Ex (hid (fun b => (M.hide Dl).m b ∨ X b) H') (hid (fun b => (M.hide Dl).m b ∨ X b) H3) := (hid_ex gx).trans (keepL (l := .l2) (M := M.hide Dl) (q := false) rfl e4 fun z => by cases z)
      cases b with
      | true =>
        obtain ⟨env3, y0, hE, hmu3, hr1, henv⟩ := hyes rfl
        refine hE X a0 _ _ ad σ3 H3 _ E4 fun v H4 E5 e5 p5 r5 => ?_
        have up4 : Ex (hid (fun b => (M.hide Dl).m b ∨ X b) H3) (hid (fun b => (M.hide Dl).m b ∨ X b) H4) := keepL (l := .l2) (M := M.hide Dl) (q := false) rfl e5 fun z => by cases z
        have hDl4 : H4 Dl = some (.lst xs) := keepD e5 hDl3
        have E6 := (E5.wipe hmu3).1
        rw [hσ, ← henv] at E6
        have hm1 : ∀ o, hid (fun b => (M.hide Dl).m b ∨ X b) (upd H4 Dl o) = hid (fun b => (M.hide Dl).m b ∨ X b) H4 := fun o => hid_upd (.inl (.inr rfl))
        have hlx : xs.length < sizeLine := by
          rw [hacc.length]
          exact Nat.lt_of_le_of_lt hlen (by decide)
        refine ⟨xs, hDl4, hlx, env1, acc ++ [y0], xs ++ [v], out', updE (fun _ z => nomatch z) E6, fun z b o hb => ?_, fun b o hnb hb => ?_, upd_same, ?_, L, ?_, han1⟩
        · rw [upd_ne (ne1 b o hb)]
          exact p5 z b o (p4 z b o (gx b o (pe z b o hb)))
        · rw [upd_ne (ne1 b o hb)]
          have w3 := (of_hid (e4 b o (by rw [hid_out (m := (M.hide Dl).n) hnb]; exact gx b o (un' b o hnb hb)))).2
          exact (of_hid (e5 b o (by rw [hid_out (m := (M.hide Dl).n) hnb]; exact w3))).2
        · rw [hm1]
          exact RpL.append (RpL.mono (up3.trans up4) _ _ hacc) (RpL.one r5)
        · rw [hout, hr, hr1]; simp
      | false =>
        obtain ⟨hr1, henv⟩ := hno rfl
        have E6 := (E4.wipe hmu).1
        rw [hσ, ← henv] at E6
        refine ⟨env1, acc, xs, out', E6, fun z => (pe z).trans (gx.trans (p4 z)), fun b o hnb hb => (of_hid (e4 b o (by rw [hid_out (m := (M.hide Dl).n) hnb]; exact gx b o (un' b o hnb hb)))).2, hDl3, RpL.mono up3 _ _ hacc, L, ?_, han1⟩
        rw [hout, hr, hr1]; rfl
    · have e : i = ds.length := by omega
      subst e
      rw [List.drop_length] at L
      obtain ⟨hL1, hL2⟩ := L
      subst hL1 hL2
      refine .inl ⟨it2 (Nat.le_refl _), ?_⟩
      have hacc' : acc = out := by rw [hout]; simp
      subst hacc'
      have hh : hid (fun b => (M.hide Dl).m b ∨ X b) H' = hid (fun b => M.m b ∨ X b) (hid (fun b => b = Dl) H') := by
        funext a
        by_cases h1 : a = Dl
        · subst h1
          rw [hid_in (.inl (.inr rfl)), hid_out (m := fun b => M.m b ∨ X b) (fun z => z.elim nM nX), hid_in (m := fun b => b = a) rfl]
        · by_cases h2 : M.m a ∨ X a
          · rw [hid_in (m := fun b => M.m b ∨ X b) h2, hid_in (m := fun b => (M.hide Dl).m b ∨ X b) (h2.imp .inl id)]
          · rw [hid_out (m := fun b => M.m b ∨ X b) h2, hid1 h1, hid_out (m := fun b => (M.hide Dl).m b ∨ X b) fun z => by
              rcases z with (z | z) | z
              · exact h2 (.inl z)
              · exact h1 z
              · exact h2 (.inr z)]
      have hh1 : hid (M.hide Dl).m H' = hid M.m (hid (fun b => b = Dl) H') := by
        funext a
        by_cases h1 : a = Dl
        · subst h1
          rw [hid_in (m := (M.hide a).m) (.inr rfl), hid_out (m := M.m) nM, hid_in (m := fun b => b = a) rfl]
        · by_cases h2 : M.m a
          · rw [hid_in (m := M.m) h2, hid_in (m := (M.hide Dl).m) (.inl h2)]
          · rw [hid_out (m := M.m) h2, hid1 h1, hid_out (m := (M.hide Dl).m) fun z => z.elim h2 h1]
      have nD : ∀ b, M.m b → b ≠ Dl := fun b hb z => nM (z ▸ hb)
      have up1 : Ex (hid M.m H1) (hid (fun b => b = Dl) H') := fun b o hb => by
        rw [hid1 (ne1 b o (of_hid hb).2)]; exact E'.ex b o hb
      have EF : ER K X a0 (hid M.m H1) M ad σ (hid (fun b => b = Dl) H') env'' := by
        have back : ER K X a0 (hid M.m H1) M ad (wipe σ vs) (hid (fun b => b = Dl) H') env'' := by
          refine ⟨E'.len, up1, E'.xin, fun b hb => ?_, fun b hb => hid_in hb, fun j e q => ?_, fun j e q => ?_, fun j e q => ?_, fun j e q => ?_, E'.inj, E'.nmu, E'.mu1⟩
          · rw [hid1 (nD b hb)]; exact E'.min b (.inl hb)
          · rw [← hh]; exact E'.im j e q
          · rw [← hh1]; exact E'.rd j e q
          · obtain ⟨g1, g2, g3⟩ := E'.ow j e q
            rw [← hh]
            exact ⟨g1, g2, g3.mono (Ex.refl _) (hid1 (nD _ (M.le _ g1)))⟩
          · obtain ⟨g1, g2, g3⟩ := E'.mu j e q
            rw [← hh]
            exact ⟨g1, g2, g3.mono (Ex.refl _) (hid1 (nD _ (M.le _ g1)))⟩
        refine back.anyAt (wipe_length _ _).symm fun j b hb => ?_
        by_cases m : j ∈ vs
        · rcases hani j m with z | z
          · rw [z] at hb; exact .inl (Option.some.inj hb).symm
          · rw [z] at hb; cases hb
        · rw [wipe_get, if_neg fun z => m z.1]; exact .inr rfl
      have un : Ex (hid M.n H1) (hid M.n (hid (fun b => b = Dl) H')) := fun b o hb => by
        obtain ⟨h1, h2⟩ := of_hid hb
        rw [hid_out h1, hid1 (ne1 b o h2)]
        exact un' b o h1 h2
      refine k Dl (hid (fun b => b = Dl) H') H' (hid_in (m := fun b => b = Dl) rfl) (fun b o hb => ?_) (E1.back EF) hid_all (e1.trans un) (fun z b o hb => ?_) ⟨xs, hDl, by rw [← hh]; exact hacc⟩
      · exact stays E (E1.back EF) (e1.trans un) b o hb
      · have := p1 z b o hb
        rw [hid1 (ne1 b o this)]; exact pe z b o this
end
end Pw
/-! PwI: set(xs) of a list of whole numbers, as a set that can be walked. -/
namespace Pw
open PySem PySem.Spec PyProof.Rows L2
/-- the set before its first member -/
def set0 (w : World) : Obj := { cls := .type "set", dict := none, data := .set #[] 0 (.fresh 0 0 (!w.params.followText "set-order")) }
section
variable {P : Program} {w : World} {A : Around} {E : Value → Shared → Prop} {s : Shared}
theorem set_of_list {l : Addr} {items : Array Value} (ns : List Int) {Q : Value → Shared → Prop} (hh : A.handled = none) (hl : s.heap.IsList l items) (hit : IntsAre items.toList ns) (hb : ns.length + 1 < scanBound)
    (k : ∀ (h' : Heap) (tk c : Nat), SetR w h' s.heap.objs.size (fun j => decide (j ∈ ns)) c → c ≤ ns.length → (∀ b o, s.heap.get? b = some o → h'.get? b = some o) → Q (.ref s.heap.objs.size) { s with heap := h', toks := tk }) :
    wpAny (model P w) A (call (.type "set") [.ref l]) Q E s := by
  have size : items.size = ns.length := by
    rw [← IntsAre.length hit, Array.length_toList]
  obtain ⟨c, tl, hmro⟩ := F.called_set.mro
  have m1 := F.called_set.made
  have m2 := F.called_set.sub
  have m3 := F.called_set.notType
  have m4 := F.called_set.canCreate
  have m5 := F.typeCall_set_1 (.ref l)
  refine wpAny_call (codeAny_of_tree ?_)
  show wpAny _ _ (callAny (.type "set") _) _ _ _
  refine wpAny_pure ⟨Code.quiet_builtin _ (by decide +kernel), codeAny_builtin F.entry_type_call ?_⟩
  rw [Around.under_plain (weight_type_call_type "set" [.ref l] []) rfl]
  repeat (any_goals (first | assumption | wp_step))
  refine codeAny_mono (code_set_led1 (.ref l) (E := E) (Q₁ := fun z s1 => z = .ref s.heap.objs.size ∧ s1 = { s with heap := s.heap.push (set0 w) }) ⟨rfl, rfl⟩) fun r s1 hr => ?_
  cases r with
  | error e => exact hr
  | ok fl =>
    cases fl with
    | ret z =>
      obtain ⟨rfl, rfl⟩ := hr
      have at0 : (s.heap.push (set0 w)).get? s.heap.objs.size = some (set0 w) := Heap.get?_push_size _ rfl
      have ty0 : Shared.TypeIs { s with heap := s.heap.push (set0 w) } (.ref s.heap.objs.size) "set" := ⟨_, at0, rfl⟩
      have m6 := F.called_set.init.lookup
      have m7 := F.called_set.init.bind (.ref s.heap.objs.size)
      repeat (any_goals (first | assumption | wp_step))
      refine codeAny_mono (codeAny_call_builtin (R := wants (fun v s2 => v = .none ∧ ∃ h' tk c, s2 = { s with heap := h', toks := tk } ∧ SetR w h' s.heap.objs.size (fun j => decide (j ∈ ns)) c ∧ c ≤ ns.length ∧ ∀ b o, s.heap.get? b = some o → h'.get? b = some o) E) F.called_set.init.plain F.entry_set_init (check_set_init_1 ty0 ?_)) fun r2 s2 hr2 => ?_
      · obtain ⟨⟨ocls, odict, odata, oslots⟩, hol, hcl, nl, hdl⟩ := hl
        simp only at hcl hdl
        subst hcl hdl
        have atL : (s.heap.push (set0 w)).get? l = some { cls := .type "list", dict := odict, data := .seq items nl, slots := oslots } := Heap.get?_push_of_some _ hol
        have n1 := F.sub_list_set
        have n2 := F.sub_list_frozenset
        have n3 : (Value.type "list" == Value.type "dict") = false := by decide
        have isL : (s.heap.push (set0 w)).IsList l items := ⟨_, atL, rfl, nl, rfl⟩
        have lt : l < s.heap.objs.size := Heap.lt_size hol
        have sz : (s.heap.push (set0 w)).objs.size = s.heap.objs.size + 1 := Heap.size_push ..
        unfold Builtin.«set.__init__» noKeywords Builtin.Frozenset.updateFrom
        generalize hPI : pyIter = PI
        wp_walk
        subst hPI
        refine wpAny_pyIter_list isL (wpAny_bind (wpAny_runValue ?_))
        have vals : ∀ (i : Nat) (v : Value), items[i]? = some v → ∃ z t, ns[i]? = some z ∧ v = .int z t := fun i v hv => by
          have hi : i < ns.length := size ▸ (Array.getElem?_eq_some_iff.mp hv).1
          obtain ⟨t, e⟩ := PyProof.Rows.IntsAre.int_at hit i v (by rw [Array.getElem?_toList]; exact hv)
          refine ⟨ns[i], t, List.getElem?_eq_getElem hi, e.trans ?_⟩
          rw [List.getD_eq_getElem?_getD, List.getElem?_eq_getElem hi] <;> rfl
        refine set_update_ints ((Walks.list (by simp [hh]) _ l (by rw [sz]; exact Nat.ne_of_lt (Nat.lt_succ_of_lt lt)) items).toS) s.heap.objs.size (by rw [sz]; simp only [List.mem_cons, List.not_mem_nil, or_false, not_or]; exact ⟨Nat.ne_of_lt (Nat.lt_succ_self _), Nat.ne_of_gt lt⟩) ns size hb vals (items.size - 0) 0 _ (by omega) (Nat.zero_le _)
          ⟨⟨_, Heap.get?_push_size _ rfl, rfl, rfl⟩, isL.push _⟩ ⟨0, Nat.le_refl 0, setR_new_at (Heap.get?_push_of_some _ at0)⟩ fun s' c' hm hc' hS' => ?_
        obtain ⟨h', g2, d', tk', os'⟩ := s'
        have e1 : g2 = s.gens := hm.gens
        have e2 : d' = s.drawn := hm.drawn
        have e3 : os' = s.os := hm.os
        subst e1 e2 e3
        show wpAny _ _ _ _ _ _
        refine wpAny_pure ?_
        show wpAny _ _ (ret Value.none) _ _ _
        refine wpAny_pure ⟨rfl, h', tk', c', rfl, hS', size ▸ hc', fun b o e => ?_⟩
        have hb0 : b < s.heap.objs.size := Heap.lt_size e
        exact hm.heap b o (by rw [sz]; simp only [List.mem_cons, List.not_mem_nil, or_false, not_or]; exact ⟨Nat.ne_of_lt hb0, Nat.ne_of_lt (Nat.lt_succ_of_lt hb0)⟩) (Heap.get?_push_of_some _ (Heap.get?_push_of_some _ e))
      · cases r2 with
        | error e => exact hr2
        | ok fl2 =>
          cases fl2 with
          | ret z =>
            obtain ⟨rfl, h', tk, c', rfl, g1, g2, g3⟩ := hr2
            repeat (any_goals (first | assumption | wp_step))
            exact k _ _ _ g1 g2 g3
          | _ => exact hr2.elim
    | _ => exact hr.elim
end
end Pw
/-! PwH: built-ins over data: max, min, sorted, set of ints, > of tuples, tuple * 1 (rules by values, over the layer). -/
namespace Pw
open PySem L2
section
variable {X : Cx}
/-- max(xs), min(xs) over data -/
def rMaxD (K : PySem.W.Frag) : List V → Hp → VK → Prop := fun vs H Q => ∃ (a : Addr) (xs : List V) (x : PyData) (ds : List PyData), vs = [V.ref a] ∧ SqL K H a xs ∧ DpAll K H xs (x :: ds) ∧ PySem.W.AlikeAll (x :: ds) ∧ PyData.depthAll (x :: ds) ≤ 60 ∧
  (∀ d ∈ x :: ds, d.canLay0 = true) ∧ ∀ (i : Nat) v, xs[i]? = some v → (x :: ds)[i]? = some (PySem.W.maxD x ds) → Q v H
def rMinD (K : PySem.W.Frag) : List V → Hp → VK → Prop := fun vs H Q => ∃ (a : Addr) (xs : List V) (x : PyData) (ds : List PyData), vs = [V.ref a] ∧ SqL K H a xs ∧ DpAll K H xs (x :: ds) ∧ PySem.W.AlikeAll (x :: ds) ∧ PyData.depthAll (x :: ds) ≤ 60 ∧
  (∀ d ∈ x :: ds, d.canLay0 = true) ∧ ∀ (i : Nat) v, xs[i]? = some v → (x :: ds)[i]? = some (PySem.W.minD x ds) → Q v H
theorem dpall_get {K : PySem.W.Frag} {H : Hp} : ∀ {xs : List V} {ds : List PyData} {i : Nat} {v : V}, DpAll K H xs ds → xs[i]? = some v → ∃ d, ds[i]? = some d ∧ Dp K H v d
  | [], _, i, v, _, h => by simp at h
  | x :: xs, _, 0, v, .cons h1 h2, h => by simp at h; subst h; exact ⟨_, rfl, h1⟩
  | x :: xs, _, i + 1, v, .cons h1 h2, h => by
    obtain ⟨d, q1, q2⟩ := dpall_get (i := i) h2 (by simpa using h)
    exact ⟨d, by simpa using q1, q2⟩
theorem u62 {A : Around} (hu : A.units + 64 < cLine) {n : Nat} (h : n ≤ 60) : A.units + 1 + n < cLine := by omega
theorem cr_maxDt (hc : X.calm = true) (hu : X.A.units + 64 < cLine) : CallR X (.builtin "max") (rMaxD X.K) := by
  intro pins s σ H vs us Q I r h
  obtain ⟨a, xs, x, ds, rfl, hs, hd, hal, hdp, hcl, q⟩ := h
  obtain ⟨its, rv, hl, _⟩ := I.list hs
  rw [Vals.ref1 r]
  obtain ⟨as, hr⟩ := Dp.readsAll I _ _ _ hd rv
  refine PySem.W.max_list_data (I.ok.hd hc) hl.isList (by simpa using hr) hal (u62 hu hdp) fun i v h' tk bs hv rd hk => ?_
  have hv' : its[i]? = some v := by simpa using hv
  have hi : i < xs.length := by
    rw [rv.length]
    exact (List.getElem?_eq_some_iff.mp hv').1
  have hx : xs[i]? = some xs[i] := List.getElem?_eq_getElem hi
  obtain ⟨u, hu1, ru⟩ := rv.get hx
  rw [hv'] at hu1
  cases hu1
  obtain ⟨d, hd1, hd2⟩ := dpall_get hd hx
  obtain ⟨cs, hcs⟩ := Dp.reads I d _ _ hd2 ru
  have e := PySem.SeqAt.Reads.unique d _ v cs bs (hcl d (List.mem_of_getElem? hd1)) (PyProof.Rows.Reads.keeps hk hcs) rd
  subst e
  exact ⟨xs[i], H, I.kept hk, ru, q i _ hx hd1⟩
theorem cr_minDt (hc : X.calm = true) (hu : X.A.units + 64 < cLine) : CallR X (.builtin "min") (rMinD X.K) := by
  intro pins s σ H vs us Q I r h
  obtain ⟨a, xs, x, ds, rfl, hs, hd, hal, hdp, hcl, q⟩ := h
  obtain ⟨its, rv, hl, _⟩ := I.list hs
  rw [Vals.ref1 r]
  obtain ⟨as, hr⟩ := Dp.readsAll I _ _ _ hd rv
  refine PySem.W.min_list_data (I.ok.hd hc) hl.isList (by simpa using hr) hal (u62 hu hdp) fun i v h' tk bs hv rd hk => ?_
  have hv' : its[i]? = some v := by simpa using hv
  have hi : i < xs.length := by
    rw [rv.length]
    exact (List.getElem?_eq_some_iff.mp hv').1
  have hx : xs[i]? = some xs[i] := List.getElem?_eq_getElem hi
  obtain ⟨u, hu1, ru⟩ := rv.get hx
  rw [hv'] at hu1
  cases hu1
  obtain ⟨d, hd1, hd2⟩ := dpall_get hd hx
  obtain ⟨cs, hcs⟩ := Dp.reads I d _ _ hd2 ru
  have e := PySem.SeqAt.Reads.unique d _ v cs bs (hcl d (List.mem_of_getElem? hd1)) (PyProof.Rows.Reads.keeps hk hcs) rd
  subst e
  exact ⟨xs[i], H, I.kept hk, ru, q i _ hx hd1⟩
/-- t > u of alike data -/
def rGtD (K : PySem.W.Frag) : R2 := fun x y H Q => ∃ d e, Dp K H x d ∧ Dp K H y e ∧ PySem.W.alike d e = true ∧ d ≠ .none ∧ d.depth ≤ 60 ∧ Q (.bl (PySem.W.dataLt e d)) H
theorem op_gtD (hu : X.A.units + 64 < cLine) : OpR X (compareOp .Gt) (rGtD X.K) := by
  intro pins s σ H x y v u Q I rx ry h
  obtain ⟨d, e, hd, he, hal, hn, hdp, q⟩ := h
  obtain ⟨as, r1⟩ := Dp.reads I d x v hd rx
  obtain ⟨bs, r2⟩ := Dp.reads I e y u he ry
  exact PySem.W.gt_data r1 r2 hal hn (by have := Nat.min_le_left d.depth e.depth; omega) ⟨.bl _, H, I, rfl, q⟩
def rLtD (K : PySem.W.Frag) : R2 := fun x y H Q => ∃ d e, Dp K H x d ∧ Dp K H y e ∧ PySem.W.alike d e = true ∧ d ≠ .none ∧ d.depth ≤ 60 ∧ Q (.bl (PySem.W.dataLt d e)) H
theorem op_ltD (hu : X.A.units + 64 < cLine) : OpR X (compareOp .Lt) (rLtD X.K) := by
  intro pins s σ H x y v u Q I rx ry h
  obtain ⟨d, e, hd, he, hal, hn, hdp, q⟩ := h
  obtain ⟨as, r1⟩ := Dp.reads I d x v hd rx
  obtain ⟨bs, r2⟩ := Dp.reads I e y u he ry
  exact PySem.W.lt_data r1 r2 hal hn (by have := Nat.min_le_left d.depth e.depth; omega) ⟨.bl _, H, I, rfl, q⟩
/-- sorted(xs) over data -/
def rSortD (K : PySem.W.Frag) : List V → Hp → VK → Prop := fun vs H Q => ∃ (a : Addr) (xs : List V) (ds : List PyData), vs = [V.ref a] ∧ SqL K H a xs ∧ DpAll K H xs ds ∧ PySem.W.AllAlike ds ∧ PySem.W.Sortable ds ∧ (∀ d ∈ ds, d.depth ≤ 60) ∧ ds.length ≤ 100000 ∧
  ∀ p, H p = none → Q (.ref p) (upd H p (.lst (((xs.zip ds).mergeSort (PySem.W.dataLe false (·.2))).map (·.1))))
theorem eachV {xs : List V} {ds : List PyData} {its : List Value} (r : Vals xs its) (hl : xs.length = ds.length) : PySem.W.EachIs (fun (v : Value) (b : V × PyData) => RelV b.1 v) its (xs.zip ds) := by
  induction r generalizing ds with
  | nil => exact .nil
  | cons h t ih =>
    cases ds with
    | nil => simp at hl
    | cons d ds => exact .cons h (ih (by simpa using hl))
theorem eachR {K : PySem.W.Frag} {H : Hp} {h : Heap} {pins : List (Addr × Obj)} {σ : St} {s : Shared} (I : Inv X pins σ H s) {xs : List V} {ds : List PyData} {its : List Value} (r : Vals xs its) (hd : DpAll X.K H xs ds) :
    PySem.W.EachIs (fun (v : Value) (b : V × PyData) => ∃ as, Reads s.heap v b.2 as) its (xs.zip ds) := by
  induction r generalizing ds with
  | nil => cases hd; exact .nil
  | cons h t ih =>
    cases hd with
    | cons h1 h2 => exact .cons (Dp.reads I _ _ _ h1 h) (ih h2)
theorem valsOf : ∀ {bs : List (V × PyData)} {out : List Value}, PySem.W.EachIs (fun (v : Value) (b : V × PyData) => RelV b.1 v) out bs → Vals (bs.map (·.1)) out
  | [], _, .nil => .nil
  | _ :: _, _, .cons h t => .cons h (valsOf t)
theorem dpall_len {K : PySem.W.Frag} {H : Hp} : ∀ {xs : List V} {ds : List PyData}, DpAll K H xs ds → xs.length = ds.length
  | _, _, .nil => rfl
  | _, _, .cons _ h => by simp [dpall_len h]
theorem cr_sortDt (hu : X.A.units + 64 < cLine) : CallR X (.builtin "sorted") (rSortD X.K) := by
  intro pins s σ H vs us Q I r h
  obtain ⟨a, xs, ds, rfl, hs, hd, hal, hk, hdp, hn, q⟩ := h
  obtain ⟨its, rv, hl, _⟩ := I.list hs
  rw [Vals.ref1 r]
  have hlen := dpall_len hd
  have e1 : (xs.zip ds).map (·.2) = ds := by
    rw [List.map_snd_zip]
    omega
  have hz : (xs.zip ds).length = ds.length := by simp [hlen]
  refine PySem.W.sorted_data (enc := (·.2)) hl.isList (eachV rv hlen) (eachR (K := X.K) (h := s.heap) I rv hd) (by rw [e1]; exact hal) (by rw [e1]; exact hk) (by rw [hz]; exact Nat.le_trans hn (by decide)) (fun b hb => ?_) fun out ho eo => ?_
  · have := hdp b.2 (by rw [← e1]; exact List.mem_map.mpr ⟨b, hb, rfl⟩)
    omega
  · obtain ⟨ep, he'⟩ := PyProof.Rows.sortedAll_at s.heap its out.toArray
    have hlo : (((xs.zip ds).mergeSort (PySem.W.dataLe false (·.2))).map (·.1)).length ≤ sizeLine := by
      rw [List.length_map, List.length_mergeSort, hz]
      exact Nat.le_trans hn (by decide)
    exact ⟨.ref _, upd H (s.heap.objs.size + 1) (.lst _), I.laid (t' := s.toks) (fun _ _ => PyProof.Rows.sortedAll_old) (Nat.le_succ _) ⟨hlo, out, ep, valsOf eo, he'⟩, rfl, q _ (I.hok.fresh (Nat.le_succ _))⟩
/-- set(xs) of a list of ints -/
def rSetLI (X : Cx) : List V → Hp → VK → Prop := fun vs H Q => ∃ (a : Addr) (ns : List Int), vs = [V.ref a] ∧ SqL X.K H a (ns.map V.int) ∧ ns.length ≤ 60 ∧
  ∀ p c, c ≤ ns.length → H p = none → Q (.ref p) (upd H p (SetO X.w p (fun j => decide (j ∈ ns)) c))
theorem cr_setLI (hc : X.calm = true) : CallR X (.type "set") (rSetLI X) := by
  intro pins s σ H vs us Q I r h
  obtain ⟨a, ns, rfl, hs, hn, q⟩ := h
  obtain ⟨its, rv, hl, _⟩ := I.list hs
  rw [Vals.ref1 r]
  refine set_of_list ns (I.ok.hd hc) hl.isList (by simpa using rv.ints) (by unfold scanBound; omega) fun h' tk c hS hc' hk => ?_
  exact ⟨.ref _, upd H s.heap.objs.size (SetO X.w s.heap.objs.size (fun j => decide (j ∈ ns)) c), I.laid (t' := tk) hk (Nat.le_refl _) (setO_new hS), rfl, q _ c hc' (I.hok.fresh (Nat.le_refl _))⟩
end
end Pw
/-! PwK: the built-ins' answers as data. -/
namespace Pw
open PySem L2
/-! ### order and equality of tuples of whole numbers -/
def lexI : List Int → List Int → Bool
  | [], [] => false
  | [], _ :: _ => true
  | _ :: _, [] => false
  | x :: xs, y :: ys => if x = y then lexI xs ys else decide (x < y)
def pI (k : List Int) : PyData := .tuple (k.map .int)
def tI (k : List Int) : D := .tup (k.map .int)
theorem toks_one (a b : Int) (r t : List (Int ⊕ List Nat)) : PyProof.Rows.lexLt PyProof.Rows.itemOrd (.inl a :: r) (.inl b :: t) = if a = b then PyProof.Rows.lexLt PyProof.Rows.itemOrd r t else decide (a < b) := by
  rw [PyProof.Rows.lex_cons]
  show (decide (a < b) || (!decide (b < a) && _)) = _
  by_cases e : a = b
  · subst e; simp
  · rw [if_neg e]
    by_cases h : a < b
    · simp [h]
    · have h2 : b < a := by omega
      simp [h, h2]
theorem toks_ints : ∀ xs ys : List Int, PyProof.Rows.lexLt PyProof.Rows.itemOrd (PySem.W.keyToksAll (xs.map .int)) (PySem.W.keyToksAll (ys.map .int)) = lexI xs ys
  | [], [] => by simp only [List.map_nil, PySem.W.keyToksAll]; rw [toks_one]; rfl
  | [], y :: ys => by simp only [List.map_nil, List.map_cons, PySem.W.keyToksAll]; rw [toks_one]; rfl
  | x :: xs, [] => by simp only [List.map_nil, List.map_cons, PySem.W.keyToksAll]; rw [toks_one]; rfl
  | x :: xs, y :: ys => by
    simp only [List.map_cons, PySem.W.keyToksAll, PySem.W.keyToks, List.singleton_append, List.cons_append, List.nil_append]
    rw [toks_one, if_pos rfl, toks_one, toks_ints xs ys]
    rfl
theorem dataLt_ints (xs ys : List Int) : PySem.W.dataLt (pI xs) (pI ys) = lexI xs ys := by
  unfold PySem.W.dataLt pI
  simp only [PySem.W.keyToks]
  exact toks_ints xs ys
theorem alike_pI (xs ys : List Int) : PySem.W.alike (pI xs) (pI ys) = true := by
  unfold pI
  rw [PySem.W.alike]
  exact PySem.W.alike_ints xs ys
theorem depth_ints : ∀ xs : List Int, PyData.depthAll (xs.map .int) ≤ 1
  | [] => by simp [PyData.depthAll]
  | x :: xs => by
    have := depth_ints xs
    simp only [List.map_cons, PyData.depthAll, PyData.depth]
    omega
theorem depth_pI (xs : List Int) : (pI xs).depth ≤ 2 := by
  have := depth_ints xs
  unfold pI
  simp only [PyData.depth]
  omega
theorem depth_pIs : ∀ ks : List (List Int), PyData.depthAll (ks.map pI) ≤ 3
  | [] => by simp [PyData.depthAll]
  | k :: ks => by
    have h1 := depth_pIs ks
    have h2 := depth_pI k
    simp only [List.map_cons, PyData.depthAll]
    omega
theorem lay_ints : ∀ xs : List Int, PyData.canLayAll0 (xs.map .int) = true
  | [] => rfl
  | x :: xs => by simp only [List.map_cons, PyData.canLayAll0, PyData.canLay0, lay_ints xs, Bool.and_self]
theorem lay_pI (xs : List Int) : (pI xs).canLay0 = true := lay_ints xs
theorem eqv_ints : ∀ xs ys : List Int, PyData.eqvAll (xs.map .int) (ys.map .int) = decide (xs = ys)
  | [], [] => by simp [PyData.eqvAll]
  | [], y :: ys => by simp [PyData.eqvAll]
  | x :: xs, [] => by simp [PyData.eqvAll]
  | x :: xs, y :: ys => by
    simp only [List.map_cons, PyData.eqvAll, PyData.eqv, eqv_ints xs ys]
    by_cases h : x = y <;> by_cases h2 : xs = ys <;> simp [h, h2]

section
variable {K : PySem.W.Frag} {X : Addr → Prop} {a0 : Addr} {H0 : Hp} {M : Msk} {ad : Nat → Addr} {σ : St} {H H' H1 : Hp} {env env' env'' : List Bd} {l l' : Lv} {p q : Bool} {d d' e : D} {ta tb te ti : TE} {t u : TT} {i j : Nat} {b c : Bool} {ts tu : TS} {o : Out} {Dn : Ends} {tsA : TA}
theorem dp_ints : ∀ {ns : List Int} {xs : List V}, RpL K H (ns.map D.int) xs → DpAll K H xs (ns.map .int)
  | [], _, h => by cases h; exact .nil
  | n :: ns, _, ⟨x, r, h1, h2, h3⟩ => by
    subst h1
    have h2 : x = V.int n := h2
    subst h2
    exact .cons (.int n) (dp_ints h3)
theorem dp_tI {k : List Int} {v : V} (h : Rp K H (tI k) v) : Dp K H v (pI k) := by
  obtain ⟨a, xs, rfl, h1, h2⟩ := h
  exact .tup (SqT.of h1) (dp_ints h2)
theorem dp_tIs : ∀ {ks : List (List Int)} {xs : List V}, RpL K H (ks.map tI) xs → DpAll K H xs (ks.map pI)
  | [], _, h => by cases h; exact .nil
  | n :: ns, _, ⟨x, r, h1, h2, h3⟩ => by
    subst h1
    exact .cons (dp_tI h2) (dp_tIs h3)
theorem DpM (e : Ex H H') : ∀ {v : V} {d : PyData}, Dp K H v d → Dp K H' v d := by
  intro v d h
  refine Dp.rec (motive_1 := fun v d _ => Dp K H' v d) (motive_2 := fun vs ds _ => DpAll K H' vs ds) ?_ ?_ ?_ ?_ ?_ ?_ ?_ ?_ h
  · exact .non
  · exact fun b => .bl b
  · exact fun i => .int i
  · exact fun x => .str x
  · exact fun h _ ih => .lst (ex_l e h) ih
  · exact fun h _ ih => .tup (ex_t e h) ih
  · exact .nil
  · exact fun _ _ h1 h2 => .cons h1 h2
theorem DpAM (e : Ex H H') : ∀ {vs : List V} {ds : List PyData}, DpAll K H vs ds → DpAll K H' vs ds
  | _, _, .nil => .nil
  | _, _, .cons h1 h2 => .cons (DpM e h1) (DpAM e h2)
/-- t > u, t < u of tuples of whole numbers -/
theorem rv_gtI {xs ys : List Int} : RV K l l' (rGtD K) (tI xs) (tI ys) (.bl (lexI ys xs)) := fun X a0 H0 M ad σ H env x y Q E rx ry k =>
  ⟨pI xs, pI ys, DpM hid_all (dp_tI rx), DpM hid_all (dp_tI ry), alike_pI _ _, (by unfold pI; simp), Nat.le_trans (depth_pI xs) (by decide), by rw [dataLt_ints]; exact k _ H E (Ex.refl _) rfl⟩
theorem rv_ltI {xs ys : List Int} : RV K l l' (rLtD K) (tI xs) (tI ys) (.bl (lexI xs ys)) := fun X a0 H0 M ad σ H env x y Q E rx ry k =>
  ⟨pI xs, pI ys, DpM hid_all (dp_tI rx), DpM hid_all (dp_tI ry), alike_pI _ _, (by unfold pI; simp), Nat.le_trans (depth_pI xs) (by decide), by rw [dataLt_ints]; exact k _ H E (Ex.refl _) rfl⟩
theorem rv_eqTI {xs ys : List Int} : RV K l l' (rEqD K) (tI xs) (tI ys) (.bl (decide (xs = ys))) := fun X a0 H0 M ad σ H env x y Q E rx ry k =>
  ⟨pI xs, pI ys, DpM hid_all (dp_tI rx), DpM hid_all (dp_tI ry), by unfold SeqAt.shaped; rw [lay_pI]; simpa using Nat.le_trans (depth_pI xs) (by decide), by unfold SeqAt.shaped; rw [lay_pI]; simpa using Nat.le_trans (depth_pI ys) (by decide), by
    show Q (.bl (PyData.eqvAll (xs.map .int) (ys.map .int))) H
    rw [eqv_ints]; exact k _ H E (Ex.refl _) rfl⟩
theorem rv_neTI {xs ys : List Int} : RV K l l' (rNeD K) (tI xs) (tI ys) (.bl (!decide (xs = ys))) := fun X a0 H0 M ad σ H env x y Q E rx ry k =>
  ⟨pI xs, pI ys, DpM hid_all (dp_tI rx), DpM hid_all (dp_tI ry), by unfold SeqAt.shaped; rw [lay_pI]; simpa using Nat.le_trans (depth_pI xs) (by decide), by unfold SeqAt.shaped; rw [lay_pI]; simpa using Nat.le_trans (depth_pI ys) (by decide), by
    show Q (.bl (!PyData.eqvAll (xs.map .int) (ys.map .int))) H
    rw [eqv_ints]; exact k _ H E (Ex.refl _) rfl⟩
/-- max, min of a list of such -/
def maxK (k : List Int) (r : List (List Int)) : List Int := r.foldl (fun a y => if lexI a y = true then y else a) k
def minK (k : List Int) (r : List (List Int)) : List Int := r.foldl (fun a y => if lexI y a = true then y else a) k
theorem maxD_tI : ∀ (r : List (List Int)) (k : List Int), PySem.W.maxD (pI k) (r.map pI) = pI (maxK k r)
  | [], k => rfl
  | y :: r, k => by
    unfold PySem.W.maxD maxK
    rw [List.map_cons, List.foldl_cons, List.foldl_cons, dataLt_ints]
    have e : (if lexI k y = true then pI y else pI k) = pI (if lexI k y = true then y else k) := by split <;> rfl
    rw [e]
    exact maxD_tI r _
theorem minD_tI : ∀ (r : List (List Int)) (k : List Int), PySem.W.minD (pI k) (r.map pI) = pI (minK k r)
  | [], k => rfl
  | y :: r, k => by
    unfold PySem.W.minD minK
    rw [List.map_cons, List.foldl_cons, List.foldl_cons, dataLt_ints]
    have e : (if lexI y k = true then pI y else pI k) = pI (if lexI y k = true then y else k) := by split <;> rfl
    rw [e]
    exact minD_tI r _
theorem pI_inj {x y : List Int} (h : pI x = pI y) : x = y := by
  unfold pI at h
  injection h with h
  exact List.map_inj_right (fun a b e => by injection e) |>.mp h
theorem alikes (ks : List (List Int)) : PySem.W.AlikeAll (ks.map pI) := ⟨fun x hx y hy => by
  obtain ⟨a, _, rfl⟩ := List.mem_map.mp hx
  obtain ⟨b, _, rfl⟩ := List.mem_map.mp hy
  exact alike_pI a b, fun x hx => by
  obtain ⟨a, _, rfl⟩ := List.mem_map.mp hx
  unfold pI; simp⟩
theorem rc_maxI {k0 : List Int} {r : List (List Int)} : RC K l l (rMaxD K) [.lst ((k0 :: r).map tI)] (tI (maxK k0 r)) := fun X a0 H0 M ad σ H env xs Q E rx k => by
  obtain ⟨x, rfl, a, ys, rfl, h1, h2⟩ := rx.one'
  refine ⟨a, ys, pI k0, r.map pI, rfl, ex_l hid_all h1, DpAM hid_all (dp_tIs h2), alikes (k0 :: r), Nat.le_trans (depth_pIs (k0 :: r)) (by decide), fun d hd => ?_, fun i v hv he => ?_⟩
  · obtain ⟨z, _, rfl⟩ := List.mem_map.mp (show d ∈ (k0 :: r).map pI from hd)
    exact lay_pI z
  · obtain ⟨d, hd1, hd2⟩ := h2.get' hv
    rw [List.getElem?_map] at hd1
    obtain ⟨z, hz, rfl⟩ := Option.map_eq_some_iff.mp hd1
    have he' : ((k0 :: r).map pI)[i]? = some (pI (maxK k0 r)) := by rw [← maxD_tI]; exact he
    rw [List.getElem?_map, hz] at he'
    have := pI_inj (Option.some.inj he')
    exact k v H E (Ex.refl _) (by rw [← this]; exact hd2)
theorem rc_minI {k0 : List Int} {r : List (List Int)} : RC K l l (rMinD K) [.lst ((k0 :: r).map tI)] (tI (minK k0 r)) := fun X a0 H0 M ad σ H env xs Q E rx k => by
  obtain ⟨x, rfl, a, ys, rfl, h1, h2⟩ := rx.one'
  refine ⟨a, ys, pI k0, r.map pI, rfl, ex_l hid_all h1, DpAM hid_all (dp_tIs h2), alikes (k0 :: r), Nat.le_trans (depth_pIs (k0 :: r)) (by decide), fun d hd => ?_, fun i v hv he => ?_⟩
  · obtain ⟨z, _, rfl⟩ := List.mem_map.mp (show d ∈ (k0 :: r).map pI from hd)
    exact lay_pI z
  · obtain ⟨d, hd1, hd2⟩ := h2.get' hv
    rw [List.getElem?_map] at hd1
    obtain ⟨z, hz, rfl⟩ := Option.map_eq_some_iff.mp hd1
    have he' : ((k0 :: r).map pI)[i]? = some (pI (minK k0 r)) := by rw [← minD_tI]; exact he
    rw [List.getElem?_map, hz] at he'
    have := pI_inj (Option.some.inj he')
    exact k v H E (Ex.refl _) (by rw [← this]; exact hd2)
/-- min of one's own list of such -/
theorem ev_minOw {k0 : List Int} {r : List (List Int)} (h : env[i]? = some (.ow (.lst ((k0 :: r).map tI)))) : EvD K l true (tCB (rMinD K) (tCons (tVar i) tNil)) env env (tI (minK k0 r)) := fun X a0 H0 M ad σ H Q E k => by
  obtain ⟨_, h2, ys, h3, h4⟩ := E.ow i _ h
  refine ⟨_, h2, ad i, ys, pI k0, r.map pI, rfl, SqL.of h3, DpAM hid_all (dp_tIs h4), alikes (k0 :: r), Nat.le_trans (depth_pIs (k0 :: r)) (by decide), fun d hd => ?_, fun j v hv he => ?_⟩
  · obtain ⟨z, _, rfl⟩ := List.mem_map.mp (show d ∈ (k0 :: r).map pI from hd)
    exact lay_pI z
  · obtain ⟨d, hd1, hd2⟩ := h4.get' hv
    rw [List.getElem?_map] at hd1
    obtain ⟨z, hz, rfl⟩ := Option.map_eq_some_iff.mp hd1
    have he' : ((k0 :: r).map pI)[j]? = some (pI (minK k0 r)) := by rw [← minD_tI]; exact he
    rw [List.getElem?_map, hz] at he'
    have := pI_inj (Option.some.inj he')
    exact k v H E (Ex.refl _) (fun _ => Ex.refl _) (Rp.mono (hid_le mk_le) _ _ (by rw [← this]; exact hd2))

/-! ### sorted -/
def leI (a b : List Int) : Bool := !lexI b a
theorem dataLe_pI (a b : List Int) : PySem.W.dataLe false (fun z : V × PyData => z.2) (V.non, pI a) (V.non, pI b) = leI a b := by
  show (!PyProof.Rows.lexLt PyProof.Rows.itemOrd (PySem.W.keyToks (pI b)) (PySem.W.keyToks (pI a))) = _
  unfold leI
  rw [← dataLt_ints]
  rfl
theorem rp_fst : ∀ (bs : List (V × List Int)), (∀ b ∈ bs, Rp K H (tI b.2) b.1) → RpL K H (bs.map fun b => tI b.2) (bs.map (·.1))
  | [], _ => rfl
  | b :: bs, h => ⟨b.1, bs.map (·.1), rfl, h b List.mem_cons_self, rp_fst bs fun c hc => h c (List.mem_cons_of_mem _ hc)⟩
theorem rp_zip : ∀ {ks : List (List Int)} {xs : List V}, RpL K H (ks.map tI) xs → ∀ b ∈ xs.zip ks, Rp K H (tI b.2) b.1
  | [], _, h, b, hb => by cases h; simp at hb
  | k :: ks, _, ⟨x, r, h1, h2, h3⟩, b, hb => by
    subst h1
    rw [List.zip_cons_cons] at hb
    rcases List.mem_cons.mp hb with rfl | hb
    · exact h2
    · exact rp_zip h3 b hb
theorem ef_sortI {ks : List (List Int)} (h : EvA K .l2 p tsA env env' [.lst (ks.map tI)]) (hn : ks.length ≤ 100000) (h0 : ∀ k ∈ ks, k ≠ []) : EvF K p (tCB (rSortD K) tsA) env env' (.lst ((ks.mergeSort leI).map tI)) := fun X a0 H0 M ad σ H Q E k =>
  h X a0 H0 M ad σ H _ E fun xs H1 E1 e1 p1 r1 => by
    obtain ⟨x, rfl, a, ys, rfl, h1, h2⟩ := r1.one'
    have hl : ys.length = ks.length := by rw [h2.length]; simp
    refine ⟨a, ys, ks.map pI, rfl, ex_l hid_all h1, DpAM hid_all (dp_tIs h2), ?_, .inl fun d hd => ?_, fun d hd => ?_, by simpa using hn, fun c hc => ?_⟩
    · intro x hx y hy
      obtain ⟨a, _, rfl⟩ := List.mem_map.mp hx
      obtain ⟨b, _, rfl⟩ := List.mem_map.mp hy
      exact alike_pI a b
    · obtain ⟨z, hz, rfl⟩ := List.mem_map.mp hd
      have := h0 z hz
      cases z with
      | nil => exact absurd rfl this
      | cons n z => exact ⟨_, _, rfl⟩
    · obtain ⟨z, _, rfl⟩ := List.mem_map.mp hd
      exact Nat.le_trans (depth_pI z) (by decide)
    · refine k c H1 _ hc (stays E E1 e1) E1 (Ex.new hc) e1 p1 ⟨_, upd_same, ?_⟩
      -- the pairs, sorted by what they hold
      have z1 : ys.zip (ks.map pI) = (ys.zip ks).map fun b => (b.1, pI b.2) := by
        rw [List.zip_map_right]
        rfl
      have s1 : ((ys.zip (ks.map pI)).mergeSort (PySem.W.dataLe false (·.2))) = ((ys.zip ks).mergeSort fun b c => leI b.2 c.2).map fun b => (b.1, pI b.2) := by
        rw [z1, List.map_mergeSort]
        intro b _ c _
        exact (dataLe_pI b.2 c.2).symm
      have s2 : ((ys.zip ks).mergeSort fun b c => leI b.2 c.2).map (·.2) = ks.mergeSort leI := by
        rw [List.map_mergeSort (s := leI) (fun b _ c _ => rfl), List.map_snd_zip (by omega)]
      have s3 : ((ys.zip (ks.map pI)).mergeSort (PySem.W.dataLe false (·.2))).map (·.1) = ((ys.zip ks).mergeSort fun b c => leI b.2 c.2).map (·.1) := by
        rw [s1, List.map_map]
        rfl
      have s4 : (ks.mergeSort leI).map tI = ((ys.zip ks).mergeSort fun b c => leI b.2 c.2).map fun b => tI b.2 := by
        rw [← s2, List.map_map]
        rfl
      rw [s3, s4]
      exact rp_fst _ fun b hb => rp_zip h2 b ((List.mergeSort_perm _ _).mem_iff.mp hb)
end
end Pw
/-! PwL: sets of ints sorted, in, dicts, isinstance, None, slices, lists joined. -/
namespace Pw
open PySem L2
/-! ### sorted(set(xs)) -/
def insI (k : Int) : List Int → List Int
  | [] => [k]
  | x :: xs => if k < x then k :: x :: xs else if k = x then x :: xs else x :: insI k xs
def ssetI : List Int → List Int
  | [] => []
  | x :: xs => insI x (ssetI xs)
theorem mem_ins (k j : Int) : ∀ xs : List Int, j ∈ insI k xs ↔ j = k ∨ j ∈ xs
  | [] => by simp [insI]
  | x :: xs => by
    unfold insI
    by_cases h : k < x
    · rw [if_pos h]; simp
    · rw [if_neg h]
      by_cases e : k = x
      · rw [if_pos e]; subst e; simp
      · rw [if_neg e, List.mem_cons, mem_ins k j xs, List.mem_cons]
        constructor
        · rintro (h | h | h)
          · exact .inr (.inl h)
          · exact .inl h
          · exact .inr (.inr h)
        · rintro (h | h | h)
          · exact .inr (.inl h)
          · exact .inl h
          · exact .inr (.inr h)
theorem up_ins (k : Int) : ∀ xs : List Int, xs.Pairwise (· < ·) → (insI k xs).Pairwise (· < ·)
  | [], _ => by simp [insI]
  | x :: xs, h => by
    obtain ⟨h1, h2⟩ := List.pairwise_cons.mp h
    unfold insI
    by_cases g : k < x
    · rw [if_pos g]
      refine List.pairwise_cons.mpr ⟨fun y hy => ?_, h⟩
      rcases List.mem_cons.mp hy with rfl | hy
      · exact g
      · exact Int.lt_trans g (h1 y hy)
    · rw [if_neg g]
      by_cases e : k = x
      · rw [if_pos e]; exact h
      · rw [if_neg e]
        refine List.pairwise_cons.mpr ⟨fun y hy => ?_, up_ins k xs h2⟩
        rcases (mem_ins k y xs).mp hy with rfl | hy
        · omega
        · exact h1 y hy
theorem mem_sset (j : Int) : ∀ xs : List Int, j ∈ ssetI xs ↔ j ∈ xs
  | [] => by simp [ssetI]
  | x :: xs => by rw [ssetI, mem_ins, mem_sset j xs, List.mem_cons]
theorem up_sset : ∀ xs : List Int, (ssetI xs).Pairwise (· < ·)
  | [] => by simp [ssetI]
  | x :: xs => up_ins x _ (up_sset xs)
theorem up_same : ∀ {xs ys : List Int}, xs.Pairwise (· < ·) → ys.Pairwise (· < ·) → (∀ k, k ∈ xs ↔ k ∈ ys) → xs = ys
  | [], [], _, _, _ => rfl
  | [], y :: ys, _, _, h => by have := (h y).mpr List.mem_cons_self; simp at this
  | x :: xs, [], _, _, h => by have := (h x).mp List.mem_cons_self; simp at this
  | x :: xs, y :: ys, hx, hy, h => by
    obtain ⟨x1, x2⟩ := List.pairwise_cons.mp hx
    obtain ⟨y1, y2⟩ := List.pairwise_cons.mp hy
    have e : x = y := by
      rcases List.mem_cons.mp ((h x).mp List.mem_cons_self) with z | z
      · exact z
      · rcases List.mem_cons.mp ((h y).mpr List.mem_cons_self) with w | w
        · exact w.symm
        · have := y1 x z; have := x1 y w; omega
    subst e
    rw [up_same x2 y2 fun k => ?_]
    constructor
    · intro hk
      rcases List.mem_cons.mp ((h k).mp (List.mem_cons_of_mem _ hk)) with z | z
      · have := x1 k hk; omega
      · exact z
    · intro hk
      rcases List.mem_cons.mp ((h k).mpr (List.mem_cons_of_mem _ hk)) with z | z
      · have := y1 k hk; omega
      · exact z
section
variable {K : PySem.W.Frag} {X : Addr → Prop} {a0 : Addr} {H0 : Hp} {M : Msk} {ad : Nat → Addr} {σ : St} {H H' H1 : Hp} {env env' env'' : List Bd} {l l' : Lv} {p q : Bool} {d d' e : D} {ta tb te ti tx : TE} {t u : TT} {i j : Nat} {b c : Bool} {ts tu : TS} {o : Out} {Dn : Ends} {tsA : TA}
theorem ef_sset {Xc : Cx} {ns : List Int} (h : EvA Xc.K .l2 p tsA env env' [.lst (ns.map .int)]) (hn : ns.length ≤ 60) : EvF Xc.K p (tCB (rSortedSet Xc.w) (tCons (tCB (rSetLI Xc) tsA) tNil)) env env' (.lst ((ssetI ns).map .int)) := fun X a0 H0 M ad σ H Q E k =>
  h X a0 H0 M ad σ H _ E fun xs H1 E1 e1 p1 r1 => by
    obtain ⟨x, rfl, a, ys, rfl, h1, h2⟩ := r1.one'
    have hy := h2.ints
    subst hy
    refine ⟨a, ns, rfl, ex_l hid_all h1, hn, fun c m hm hc => ?_⟩
    refine ⟨c, _, m, rfl, upd_same, by omega, fun ms f hup hmem _ hf => ?_⟩
    have e : ms = ssetI ns := up_same hup (up_sset ns) fun z => by rw [hmem, mem_sset, decide_eq_true_iff]
    subst e
    have g1 : Ex H1 (upd H1 c (SetO Xc.w c (fun j => decide (j ∈ ns)) m)) := Ex.new hc
    refine k f _ _ hf (fun b o hb => ?_) (E1.grow g1) (Ex.new hf) (e1.trans (hid_ex g1)) (fun z => (p1 z).trans g1) ⟨_, upd_same, RpL.ofInts _⟩
    have := stays E E1 e1 b o hb
    cases q : H1 b with
    | none => exact absurd q this
    | some u => rw [g1 b u q]; simp

/-! ### in -/
theorem inV_ints (n : Int) : ∀ ns : List Int, inV (.int n) (ns.map V.int) = decide (n ∈ ns)
  | [] => by simp [inV]
  | k :: ns => by
    have ih := inV_ints n ns
    unfold inV at ih ⊢
    rw [List.map_cons, List.any_cons, ih]
    show (eqV (.int k) (.int n) || _) = _
    have : eqV (.int k) (.int n) = decide (n = k) := by
      unfold eqV
      by_cases h : n = k
      · subst h; simp
      · simp [h, Ne.symm h]
    rw [this]
    by_cases h : n = k <;> simp [h]
theorem flat_ints : ∀ ns : List Int, (ns.map V.int).all flatV = true
  | [] => rfl
  | k :: ns => by rw [List.map_cons, List.all_cons, flat_ints ns]; rfl
theorem rv_inL {n : Int} {ns : List Int} {neg : Bool} : RV K l l' (rIn K neg) (.int n) (.lst (ns.map .int)) (.bl (if neg then !decide (n ∈ ns) else decide (n ∈ ns))) := fun X a0 H0 M ad σ H env x y Q E rx ry k => by
  obtain ⟨a, xs, rfl, h1, h2⟩ := ry
  have hy := h2.ints
  have rx : x = V.int n := rx
  subst hy rx
  exact ⟨a, _, rfl, .inl (ex_l hid_all h1), rfl, flat_ints ns, by rw [inV_ints]; exact k _ H E (Ex.refl _) rfl⟩
theorem rv_inT {n : Int} {ns : List Int} {neg : Bool} : RV K l l' (rIn K neg) (.int n) (.tup (ns.map .int)) (.bl (if neg then !decide (n ∈ ns) else decide (n ∈ ns))) := fun X a0 H0 M ad σ H env x y Q E rx ry k => by
  obtain ⟨a, xs, rfl, h1, h2⟩ := ry
  have hy := h2.ints
  have rx : x = V.int n := rx
  subst hy rx
  exact ⟨a, _, rfl, .inr (ex_s hid_all h1), rfl, flat_ints ns, by rw [inV_ints]; exact k _ H E (Ex.refl _) rfl⟩

/-! ### None, scalars -/
def isN : D → Bool
  | .non => true
  | _ => false
theorem isN_of {v : V} {B : Hp} (h : Rp K B d v) : decide (v = .non) = isN d := by
  cases d with
  | non => have h : v = V.non := h; subst h; rfl
  | bl b => have h : v = V.bl b := h; subst h; rfl
  | int b => have h : v = V.int b := h; subst h; rfl
  | str b => have h : v = V.str b := h; subst h; rfl
  | lst b => obtain ⟨a, xs, rfl, _⟩ := h; rfl
  | tup b => obtain ⟨a, xs, rfl, _⟩ := h; rfl
  | dk b c => obtain ⟨a, xs, rfl, _⟩ := h; rfl
  | dt b c => obtain ⟨a, xs, rfl, _⟩ := h; rfl
theorem rv_isN : RV K l l' (fun x y H Q => y = .non ∧ Q (.bl (decide (x = .non))) H) d .non (.bl (isN d)) := fun X a0 H0 M ad σ H env x y Q E rx ry k =>
  ⟨ry, by rw [isN_of rx]; exact k _ H E (Ex.refl _) rfl⟩
theorem rv_notN : RV K l l' (fun x y H Q => y = .non ∧ Q (.bl (!decide (x = .non))) H) d .non (.bl (!isN d)) := fun X a0 H0 M ad σ H env x y Q E rx ry k =>
  ⟨ry, by rw [isN_of rx]; exact k _ H E (Ex.refl _) rfl⟩
theorem rv_eqI {m n : Int} : RV K l l' rEq (.int m) (.int n) (.bl (decide (m = n))) := fun X a0 H0 M ad σ H env x y Q E rx ry k => by
  have rx : x = V.int m := rx
  have ry : y = V.int n := ry
  subst rx ry
  exact ⟨rfl, k _ H E (Ex.refl _) (by show V.bl _ = V.bl _; rw [decide_eq_decide.mpr]; exact ⟨fun h => by injection h, fun h => by rw [h]⟩)⟩
theorem rv_neI {m n : Int} : RV K l l' rNe (.int m) (.int n) (.bl (!decide (m = n))) := fun X a0 H0 M ad σ H env x y Q E rx ry k => by
  have rx : x = V.int m := rx
  have ry : y = V.int n := ry
  subst rx ry
  exact ⟨rfl, k _ H E (Ex.refl _) (by show V.bl (!_) = V.bl (!_); rw [decide_eq_decide.mpr]; exact ⟨fun h => by injection h, fun h => by rw [h]⟩)⟩

/-! ### isinstance -/
def tyN : D → String
  | .non => "NoneType"
  | .bl _ => "bool"
  | .int _ => "int"
  | .str _ => "str"
  | .lst _ => "list"
  | .tup _ => "tuple"
  | .dk _ _ => "dict"
  | .dt _ _ => "dict"
theorem rp_ty {v : V} (hd : ∀ ks ds, d ≠ .dt ks ds) (h : Rp K H d v) : TyX K H v (.type (tyN d)) := by
  cases d with
  | non => have h : v = V.non := h; subst h; exact .base .non
  | bl b => have h : v = V.bl b := h; subst h; exact .base (.bl _)
  | int b => have h : v = V.int b := h; subst h; exact .base (.int _)
  | str b => have h : v = V.str b := h; subst h; exact .base (.str _)
  | lst b =>
    obtain ⟨a, xs, rfl, h1, _⟩ := h
    rcases h1 with (h1 | ⟨o, h1⟩) | ⟨o, _, _, h1, h2, _⟩
    · exact .base (.lst h1)
    · exact .base (.frz h1)
    · exact .kList h1 h2
  | tup b =>
    obtain ⟨a, xs, rfl, h1, _⟩ := h
    exact .base (.tup h1)
  | dk b c =>
    obtain ⟨a, xs, rfl, h1, _⟩ := h
    rcases h1 with h1 | ⟨o, h1⟩
    · exact .base (.dK h1)
    · exact .fDict h1
  | dt b c => exact absurd rfl (hd b c)
theorem ev_isi {n : String} (h : EvD K l p ta env env' d) (hk : kitB (tyN d) n = some b) (hd : ∀ ks ds, d ≠ .dt ks ds := by intros; exact fun h => by cases h) : EvD K l' p (tCB (rIsi K) (tCons ta (tCons (tC (.ty n)) tNil))) env env' (.bl b) := fun X a0 H0 M ad σ H Q E k =>
  h X a0 H0 M ad σ H _ E fun x H1 E1 e1 p1 r1 => ⟨x, .ty n, _, _, b, rfl, .ty n, rp_ty hd (Rp.mono hid_all _ _ r1), kit_ty hk, k _ H1 E1 e1 p1 rfl⟩

/-! ### slices of tuples and lists from the front -/
theorem sIx_front {n m : Nat} (h : m ≤ n) : HT.sIx n n (some (m : Int)) = m := by
  rw [HT.sIx_nat]; omega
theorem ev_slT {ds : List D} {m : Nat} (h : EvD K l p te env env' (.tup ds)) (h2 : EvD K l true ti env' env' (.int (m : Int))) (hm : m < ds.length) : EvD K l p (tSl (rSlT K) te tNoPart (tPart ti)) env env' (.tup (ds.take m)) := fun X a0 H0 M ad σ H Q E k =>
  h X a0 H0 M ad σ H _ E fun x H1 E1 e1 p1 r1 => h2 X a0 H0 M ad σ H1 _ E1 fun y H2 E2 e2 p2 r2 => by
    obtain ⟨a, xs, rfl, h3, h4⟩ := r1
    have hl : xs.length = ds.length := h4.length
    have ec : cutV xs none (some (m : Int)) = xs.take m := by
      unfold cutV
      rw [HT.sIx_none, sIx_front (by omega), List.drop_zero, Nat.sub_zero]
    refine ⟨_, r2, a, xs, rfl, ex_s (hid_all.trans (p2 rfl)) h3, fun z => ?_, fun c hc => ?_⟩
    · have := z.2
      rw [sIx_front (by omega)] at this
      omega
    · rw [ec]
      have g : Ex H2 (upd H2 c (.tup (xs.take m))) := Ex.new hc
      refine k _ _ (E2.grow g) ((e1.trans e2).trans (hid_ex g)) (fun z => ((p1 z).trans (p2 rfl)).trans g) ⟨c, _, rfl, ?_, RpL.mono ((hid_ex (p2 rfl)).trans (hid_ex g)) _ _ (h4.take m)⟩
      rw [hid_out (fresh_mk E2 hc), upd_same]
end

/-! ### lists joined -/
open AutoSeq1 (wpAny_loadPart') in
theorem list_add_any (l : Addr) (xs : Array Value) (n : Nat) (sl : Array (Option Value)) (b : Addr) (ys : Array Value) (n2 : Nat) (sl2 : Array (Option Value)) (hz : xs.size + ys.size ≤ sizeLine) :
    Meets (Builtin.«list.__add__» ⟨[.ref l, .ref b], []⟩) (fun _ R s => s.heap.get? l = some { cls := .type "list", dict := none, data := .seq xs n, slots := sl } ∧ s.heap.get? b = some { cls := .type "list", dict := none, data := .seq ys n2, slots := sl2 } ∧
      R (.ok (.ret (Value.ref s.heap.objs.size))) { s with heap := s.heap.push { cls := .type "list", data := .seq (xs ++ ys) } }) :=
  .of_wp fun prog w A R s h => by
    obtain ⟨hp, g, d, tk, os⟩ := s
    obtain ⟨hl, hb, h⟩ := h
    have f1 := AutoSeq1.idx_int
    have f2 := AutoSeq1.sub_list_list
    wp_walk using wpAny_loadPart' hl, wpAny_loadPart' hb
    exact ⟨_, rfl, h⟩
def rCatL (K : PySem.W.Frag) : R2 := fun x y H Q => ∃ l b xs zs, x = .ref l ∧ y = .ref b ∧ SqL K H l xs ∧ SqL K H b zs ∧ xs.length + zs.length ≤ sizeLine ∧ ∀ p, H p = none → Q (.ref p) (upd H p (.lst (xs ++ zs)))
theorem op_catL {X : Cx} : OpR X (binaryOp .Add) (rCatL X.K) := by
  intro pins s σ H x y v u Q I rx ry h
  obtain ⟨l, b, xs, zs, rfl, rfl, hH, hB, hz, q⟩ := h
  cases rx
  cases ry
  obtain ⟨its, r, ⟨⟨c1, e1, f1, g1⟩, n, ho, hc, hd, hx⟩, hs⟩ := I.list hH
  obtain ⟨its2, r2, ⟨⟨c2, e2, f2, g2⟩, n2, ho2, hc2, hd2, hx2⟩, hs2⟩ := I.list hB
  simp only at hc hd hx hc2 hd2 hx2
  subst hc hd hx hc2 hd2 hx2
  have hsz : its.toArray.size + its2.toArray.size ≤ sizeLine := by rw [List.size_toArray, List.size_toArray, ← r.length, ← r2.length]; exact hz
  refine concat_meets ⟨_, ho, rfl⟩ ⟨_, ho2, rfl⟩ noFill_list_add seq_list_add PySem.F.slot_list_add PySem.F.entry_list_add (PySem.F.args_list_add_2 _ _) (list_add_any l its.toArray n g1 b its2.toArray n2 g2 hsz) ⟨ho, ho2, ?_⟩
  have ea : its.toArray ++ its2.toArray = (its ++ its2).toArray := by simp
  rw [ea]
  exact ⟨.ref _, _, I.lnew (t' := s.toks) (r.append r2) (by rw [List.length_append]; omega), rfl, q _ I.fresh⟩
section
variable {K : PySem.W.Frag} {X : Addr → Prop} {a0 : Addr} {H0 : Hp} {M : Msk} {ad : Nat → Addr} {σ : St} {H H' H1 : Hp} {env env' env'' : List Bd} {l l' : Lv} {p q : Bool} {d d' e : D} {ta tb te ti tx : TE} {t u : TT} {i j : Nat} {b c : Bool} {ts tu : TS} {o : Out} {Dn : Ends} {tsA : TA}
theorem ef_catL {ds es : List D} (h1 : EvD K .l2 p ta env env' (.lst ds)) (h2 : EvD K .l2 q tb env' env'' (.lst es)) (hn : ds.length + es.length ≤ 100000) : EvF K (p && q) (tOp (rCatL K) ta tb) env env'' (.lst (ds ++ es)) := fun X a0 H0 M ad σ H Q E k =>
  h1 X a0 H0 M ad σ H _ E fun x H1 E1 e1 p1 r1 => h2 X a0 H0 M ad σ H1 _ E1 fun y H2 E2 e2 p2 r2 => by
    obtain ⟨a, xs, rfl, g1, g2⟩ := r1
    obtain ⟨b, ys, rfl, g3, g4⟩ := r2
    have up : Ex (hid (mk .l2 M X) H1) (hid (mk .l2 M X) H2) := keepL (q := q) (by rfl) e2 p2
    have l1 := g2.length
    have l2 := g4.length
    refine ⟨a, b, xs, ys, rfl, rfl, ex_l (up.trans hid_all) g1, ex_l hid_all g3, by rw [l1, l2]; exact Nat.le_trans hn (by decide), fun c hc => ?_⟩
    exact k c H2 _ hc (stays E E2 (e1.trans e2)) E2 (Ex.new hc) (e1.trans e2) (seqP p1 p2) ⟨_, upd_same, RpL.append (RpL.mono up _ _ g2) g4⟩

/-! ### dicts -/
section
variable {κ α β : Type} [DecidableEq κ]
def getA (l : List (κ × α)) (k : κ) : Option α := (l.find? fun kv => decide (kv.1 = k)).map (·.2)
def putA (l : List (κ × α)) (k : κ) (v : α) : List (κ × α) :=
  if (l.any fun kv => decide (kv.1 = k)) = true then l.map (fun kv => if kv.1 = k then (kv.1, v) else kv) else l ++ [(k, v)]
end
def dkL (l : List (Key × D)) : D := .dk (l.map (·.1)) (l.map (·.2))
def dtL (l : List (List Key × D)) : D := .dt (l.map (·.1)) (l.map (·.2))
/-- the pairs at V and at D, side by side -/
def RpK {κ : Type} (K : PySem.W.Frag) (H : Hp) : List (κ × V) → List (κ × D) → Prop
  | [], [] => True
  | a :: as, b :: bs => a.1 = b.1 ∧ Rp K H b.2 a.2 ∧ RpK K H as bs
  | _, _ => False
theorem rpk_of {κ : Type} : ∀ {l : List (κ × D)} {xs : List V}, RpL K H (l.map (·.2)) xs → RpK K H ((l.map (·.1)).zip xs) l
  | [], _, h => by cases h; trivial
  | b :: bs, _, ⟨x, r, h1, h2, h3⟩ => by subst h1; exact ⟨rfl, h2, rpk_of h3⟩
theorem of_rpk {κ : Type} : ∀ {kvs : List (κ × V)} {l : List (κ × D)}, RpK K H kvs l → ∃ xs, kvs = (l.map (·.1)).zip xs ∧ RpL K H (l.map (·.2)) xs
  | [], [], _ => ⟨[], rfl, rfl⟩
  | a :: as, b :: bs, ⟨h1, h2, h3⟩ => by
    obtain ⟨xs, e, r⟩ := of_rpk h3
    exact ⟨a.2 :: xs, by rw [List.map_cons, List.zip_cons_cons, ← e, ← h1], a.2, xs, rfl, h2, r⟩
  | [], _ :: _, h => h.elim
  | _ :: _, [], h => h.elim
theorem rpk_len {κ : Type} : ∀ {kvs : List (κ × V)} {l : List (κ × D)}, RpK K H kvs l → kvs.length = l.length
  | [], [], _ => rfl
  | _ :: _, _ :: _, ⟨_, _, h⟩ => by simp [rpk_len h]
  | [], _ :: _, h => h.elim
  | _ :: _, [], h => h.elim
theorem rpk_get {κ : Type} [DecidableEq κ] {k : κ} : ∀ {kvs : List (κ × V)} {l : List (κ × D)}, RpK K H kvs l → (∀ d, getA l k = some d → ∃ v, valV kvs k = some v ∧ Rp K H d v) ∧ (getA l k = none → valV kvs k = none)
  | [], [], _ => ⟨fun d h => by simp [getA] at h, fun _ => rfl⟩
  | a :: as, b :: bs, ⟨h1, h2, h3⟩ => by
    have ih := rpk_get (k := k) h3
    unfold getA valV at ih ⊢
    rw [List.find?_cons, List.find?_cons, h1]
    by_cases e : b.1 = k
    · rw [decide_eq_true e]
      exact ⟨fun d hd => ⟨a.2, rfl, by have : b.2 = d := Option.some.inj hd; rw [← this]; exact h2⟩, fun h => by cases h⟩
    · rw [decide_eq_false e]
      exact ih
  | [], _ :: _, h => h.elim
  | _ :: _, [], h => h.elim
theorem rpk_any {κ : Type} [DecidableEq κ] {k : κ} : ∀ {kvs : List (κ × V)} {l : List (κ × D)}, RpK K H kvs l → (kvs.any fun kv => decide (kv.1 = k)) = (l.any fun kv => decide (kv.1 = k))
  | [], [], _ => rfl
  | a :: as, b :: bs, ⟨h1, _, h3⟩ => by rw [List.any_cons, List.any_cons, rpk_any h3, h1]
  | [], _ :: _, h => h.elim
  | _ :: _, [], h => h.elim
theorem rpk_map {κ : Type} [DecidableEq κ] {k : κ} {v : V} (hv : Rp K H d v) : ∀ {kvs : List (κ × V)} {l : List (κ × D)}, RpK K H kvs l → RpK K H (kvs.map fun kv => if kv.1 = k then (kv.1, v) else kv) (l.map fun kv => if kv.1 = k then (kv.1, d) else kv)
  | [], [], _ => trivial
  | a :: as, b :: bs, ⟨h1, h2, h3⟩ => by
    obtain ⟨k1, v1⟩ := a
    obtain ⟨k2, v2⟩ := b
    have h1 : k1 = k2 := h1
    subst h1
    show (if k1 = k then (k1, v) else (k1, v1)).1 = (if k1 = k then (k1, d) else (k1, v2)).1 ∧ Rp K H (if k1 = k then (k1, d) else (k1, v2)).2 (if k1 = k then (k1, v) else (k1, v1)).2 ∧ _
    by_cases e : k1 = k
    · rw [if_pos e, if_pos e]; exact ⟨rfl, hv, rpk_map hv h3⟩
    · rw [if_neg e, if_neg e]; exact ⟨rfl, h2, rpk_map hv h3⟩
  | [], _ :: _, h => h.elim
  | _ :: _, [], h => h.elim
theorem rpk_app {κ : Type} {a : κ × V} {b : κ × D} (e : a.1 = b.1) (hv : Rp K H b.2 a.2) : ∀ {kvs : List (κ × V)} {l : List (κ × D)}, RpK K H kvs l → RpK K H (kvs ++ [a]) (l ++ [b])
  | [], [], _ => ⟨e, hv, trivial⟩
  | _ :: _, _ :: _, ⟨h1, h2, h3⟩ => ⟨h1, h2, rpk_app e hv h3⟩
  | [], _ :: _, h => h.elim
  | _ :: _, [], h => h.elim
theorem rpk_put {κ : Type} [DecidableEq κ] {k : κ} {v : V} {kvs : List (κ × V)} {l : List (κ × D)} (hv : Rp K H d v) (h : RpK K H kvs l) : RpK K H (putK kvs k v) (putA l k d) := by
  unfold putK putA
  rw [rpk_any h]
  by_cases e : (l.any fun kv => decide (kv.1 = k)) = true
  · rw [if_pos e, if_pos e]; exact rpk_map hv h
  · rw [if_neg e, if_neg e]; exact rpk_app (a := (k, v)) (b := (k, d)) rfl hv h
theorem putA_len {κ α : Type} [DecidableEq κ] {l : List (κ × α)} {k : κ} {v : α} : (putA l k v).length ≤ l.length + 1 := by
  unfold putA
  split <;> simp
/-- d[n] of a dict by numbers; d[a, b] by pairs made on the spot -/
theorem ev_dgetK {l1 : List (Key × D)} {n : Int} (h : EvD K l p ta env env' (dkL l1)) (hi : EvD K l true ti env' env' (.int n)) (hg : getA l1 (.inl n) = some d) : EvD K l p (tDGet ta ti) env env' d := fun X a0 H0 M ad σ H Q E k =>
  h X a0 H0 M ad σ H _ E fun x H1 E1 e1 p1 r1 => hi X a0 H0 M ad σ H1 _ E1 fun y H2 E2 e2 p2 r2 => by
    obtain ⟨a, xs, rfl, g1, _, g2⟩ := r1
    obtain ⟨v, q1, q2⟩ := (rpk_get (rpk_of g2)).1 d hg
    have r2 : y = V.int n := r2
    subst r2
    exact ⟨a, v, rfl, .inl ⟨_, .inl n, ex_rd (hid_all.trans (p2 rfl)) g1, rfl, q1.symm⟩, k v H2 E2 (e1.trans e2) (fun z => (p1 z).trans (p2 rfl)) (Rp.mono (hid_ex (p2 rfl)) _ _ q2)⟩
theorem rpl_keys : ∀ {ks : List Key} {vs : List V}, RpL K H (ks.map fun k => match k with | .inl n => D.int n | .inr s => D.str s) vs → vs = ks.map kV
  | [], _, h => h
  | .inl n :: ks, _, ⟨x, r, h1, h2, h3⟩ => by
    have h2 : x = V.int n := h2
    rw [h1, h2, rpl_keys h3]; rfl
  | .inr n :: ks, _, ⟨x, r, h1, h2, h3⟩ => by
    have h2 : x = V.str n := h2
    rw [h1, h2, rpl_keys h3]; rfl
theorem ev_dgetT {l1 : List (List Key × D)} {ns : List Int} (h : EvD K l p ta env env' (dtL l1)) (hi : EvA K .l2 true tsA env' env' (ns.map .int)) (hn : ns.length ≤ 1000) (hg : getA l1 (ns.map Sum.inl) = some d) : EvD K l p (tDGet ta (tTup tsA)) env env' d := fun X a0 H0 M ad σ H Q E k =>
  h X a0 H0 M ad σ H _ E fun x H1 E1 e1 p1 r1 => hi X a0 H0 M ad σ H1 _ E1 fun ys H2 E2 e2 p2 r2 => by
    obtain ⟨a, xs, rfl, g1, _, g2⟩ := r1
    obtain ⟨v, q1, q2⟩ := (rpk_get (rpk_of g2)).1 d hg
    have hy := r2.ints
    subst hy
    refine ⟨by rw [List.length_map]; exact Nat.le_trans hn (by decide), fun c hc => ?_⟩
    have g : Ex H2 (upd H2 c (.tup (ns.map V.int))) := Ex.new hc
    refine ⟨a, v, rfl, .inr ⟨_, ns.map Sum.inl, c, ex_rd ((hid_all.trans (p2 rfl)).trans g) g1, rfl, ?_, q1.symm⟩, k v _ (E2.grow g) ((e1.trans e2).trans (hid_ex g)) (fun z => ((p1 z).trans (p2 rfl)).trans g) (Rp.mono ((hid_ex (p2 rfl)).trans (hid_ex g)) _ _ q2)⟩
    rw [upd_same, List.map_map]
    rfl
/-- d.get(n, x), d.get((a, b), x) of one's own dict -/
theorem ev_dget2K {l1 : List (Key × D)} {n : Int} (h : env[i]? = some (.ow (dkL l1))) (hi : EvD K .l2 true ti env env (.int n)) (hx : EvD K .l2 true tx env env e) : EvD K l true (tDGet2 (tVar i) ti tx) env env ((getA l1 (.inl n)).getD e) := fun X a0 H0 M ad σ H Q E k => by
  obtain ⟨_, h2, ys, h3, h0, h4⟩ := E.ow i _ h
  refine ⟨_, h2, ad i, rfl, .inl ⟨_, .inl h3⟩, hi X a0 H0 M ad σ H _ E fun y H1 E1 e1 p1 r1 => hx X a0 H0 M ad σ H1 _ E1 fun z H2 E2 e2 p2 r2 => ?_⟩
  have r1 : y = V.int n := r1
  subst r1
  obtain ⟨_, _, ys2, h5, _, h6⟩ := E2.ow i _ h
  have gg := rpk_get (k := (.inl n : Key)) (rpk_of h6)
  cases hg : getA l1 (.inl n) with
  | none => exact ⟨none, .inl ⟨_, .inl n, .inl h5, rfl, (gg.2 hg).symm⟩, k z H2 E2 (e1.trans e2) (fun _ => (p1 rfl).trans (p2 rfl)) (by rw [hg]; exact Rp.mono (hid_le mk_le) _ _ r2)⟩
  | some d =>
    obtain ⟨v, q1, q2⟩ := gg.1 d hg
    exact ⟨some v, .inl ⟨_, .inl n, .inl h5, rfl, q1.symm⟩, k v H2 E2 (e1.trans e2) (fun _ => (p1 rfl).trans (p2 rfl)) (by rw [hg]; exact Rp.mono (hid_le mk_le) _ _ q2)⟩
theorem ev_dget2T {l1 : List (List Key × D)} {ns : List Int} (h : env[i]? = some (.ow (dtL l1))) (hi : EvA K .l2 true tsA env env (ns.map .int)) (hn : ns.length ≤ 1000) (hx : EvD K .l2 true tx env env e) : EvD K l true (tDGet2 (tVar i) (tTup tsA) tx) env env ((getA l1 (ns.map Sum.inl)).getD e) := fun X a0 H0 M ad σ H Q E k => by
  obtain ⟨_, h2, ys, h3, h0, h4⟩ := E.ow i _ h
  refine ⟨_, h2, ad i, rfl, .inr ⟨_, .inl h3⟩, hi X a0 H0 M ad σ H _ E fun ys H1 E1 e1 p1 r1 => ?_⟩
  have hy := r1.ints
  subst hy
  refine ⟨by rw [List.length_map]; exact Nat.le_trans hn (by decide), fun c hc => ?_⟩
  have g : Ex H1 (upd H1 c (.tup (ns.map V.int))) := Ex.new hc
  refine hx X a0 H0 M ad σ _ _ (E1.grow g) fun z H2 E2 e2 p2 r2 => ?_
  have hck : H2 c = some (.tup ((ns.map Sum.inl).map kV)) := by
    rw [p2 rfl c _ upd_same, List.map_map]
    rfl
  obtain ⟨_, _, ys2, h5, _, h6⟩ := E2.ow i _ h
  have gg := rpk_get (k := (ns.map Sum.inl : List Key)) (rpk_of h6)
  have w1 : Ex (hid M.n H) (hid M.n H2) := (e1.trans (hid_ex g)).trans e2
  have w2 : Ex H H2 := ((p1 rfl).trans g).trans (p2 rfl)
  cases hg : getA l1 (ns.map Sum.inl) with
  | none => exact ⟨none, .inr ⟨_, _, c, .inl h5, rfl, hck, (gg.2 hg).symm⟩, k z H2 E2 w1 (fun _ => w2) (by rw [hg]; exact Rp.mono (hid_le mk_le) _ _ r2)⟩
  | some d =>
    obtain ⟨v, q1, q2⟩ := gg.1 d hg
    exact ⟨some v, .inr ⟨_, _, c, .inl h5, rfl, hck, q1.symm⟩, k v H2 E2 w1 (fun _ => w2) (by rw [hg]; exact Rp.mono (hid_le mk_le) _ _ q2)⟩
/-- d[n] = e, d[a, b] = e of one's own dict -/
theorem sd_dputK {l1 : List (Key × D)} {n : Int} (h : env'[i]? = some (.ow (dkL l1))) (he : EvD K .l2 p te env env' d) (hi : EvD K .l2 true ti env' env' (.int n)) (hn : l1.length < 100000) : SD K (sDPut (tVar i) ti te) env (.nx (env'.set i (.ow (dkL (putA l1 (.inl n) d))))) := fun X a0 H0 M ad σ H Dn E k =>
  he X a0 H0 M ad σ H _ E fun v H1 E1 _ _ r => by
    obtain ⟨_, h2, _⟩ := E1.ow i _ h
    refine ⟨_, h2, hi X a0 H0 M ad σ H1 _ E1 fun y H2 E2 e2 p2 r2 => ?_⟩
    have r2 : y = V.int n := r2
    subst r2
    obtain ⟨_, _, xs, h4, h0, h5⟩ := E2.ow i _ h
    have hp := rpk_of h5
    have hz : (((l1.map (·.1)).zip xs : List (Key × V))).length < sizeLine := by rw [rpk_len hp]; exact Nat.lt_of_lt_of_le hn (by decide)
    obtain ⟨zs, z1, z2⟩ := of_rpk (rpk_put (k := (.inl n : Key)) (Rp.mono (hid_ex (p2 rfl)) _ _ r) hp)
    refine ⟨ad i, _, rfl, DPut.k (k := .inl n) h4 hz, k M ad σ _ (E2.cellOw h ⟨zs, ?_, by simp, z2⟩)⟩
    rw [upd_same, z1]
theorem sd_dputT {l1 : List (List Key × D)} {ns : List Int} (h : env'[i]? = some (.ow (dtL l1))) (he : EvD K .l2 p te env env' d) (hi : EvA K .l2 true tsA env' env' (ns.map .int)) (hns : ns.length ≤ 1000) (hn : l1.length < 100000) : SD K (sDPut (tVar i) (tTup tsA) te) env (.nx (env'.set i (.ow (dtL (putA l1 (ns.map Sum.inl) d))))) := fun X a0 H0 M ad σ H Dn E k =>
  he X a0 H0 M ad σ H _ E fun v H1 E1 _ _ r => by
    obtain ⟨_, h2, _⟩ := E1.ow i _ h
    refine ⟨_, h2, hi X a0 H0 M ad σ H1 _ E1 fun ys H2 E2 e2 p2 r2 => ?_⟩
    have hy := r2.ints
    subst hy
    refine ⟨by rw [List.length_map]; exact Nat.le_trans hns (by decide), fun c hc => ?_⟩
    have g : Ex H2 (upd H2 c (.tup (ns.map V.int))) := Ex.new hc
    have E3 := E2.grow g
    obtain ⟨_, _, xs, h4, h0, h5⟩ := E3.ow i _ h
    have hp := rpk_of h5
    have hz : (((l1.map (·.1)).zip xs : List (List Key × V))).length < sizeLine := by rw [rpk_len hp]; exact Nat.lt_of_lt_of_le hn (by decide)
    obtain ⟨zs, z1, z2⟩ := of_rpk (rpk_put (k := (ns.map Sum.inl : List Key)) (Rp.mono (hid_ex ((p2 rfl).trans g)) _ _ r) hp)
    refine ⟨ad i, _, rfl, DPut.t (k := ns.map Sum.inl) h4 (by rw [upd_same, List.map_map]; rfl) hz, k M ad σ _ (E3.cellOw h ⟨zs, ?_, by simp, z2⟩)⟩
    rw [upd_same, z1]
end
end Pw
/-! PwM: what the printed readings use: folds that may fail, comprehensions, ranges, typed lists. -/
namespace Pw
open PySem L2
theorem ifT {α : Type} {b : Bool} {x y z : α} (hb : b = true) (h : (if b = true then x else y) = z) : x = z := by rw [if_pos hb] at h; exact h
theorem ifF {α : Type} {b : Bool} {x y z : α} (hb : b = false) (h : (if b = true then x else y) = z) : y = z := by rw [hb, if_neg Bool.false_ne_true] at h; exact h
/-- a fold that may be left with an answer -/
def foldR {α S R : Type} (f : S → α → Option (S ⊕ R)) : List α → S → Option (S ⊕ R)
  | [], s => some (.inl s)
  | x :: xs, s => (f s x).bind fun r => match r with
    | .inl s1 => foldR f xs s1
    | .inr r => some (.inr r)
/-- turns until one says that it is the end -/
def whileO {S : Type} (f : S → Option (S ⊕ S)) : Nat → S → Option S
  | 0, _ => none
  | n + 1, s => (f s).bind fun r => match r with
    | .inl s1 => whileO f n s1
    | .inr s1 => some s1
def compL {α β : Type} (f : α → Option (Option β)) : List α → Option (List β)
  | [] => some []
  | x :: xs => (f x).bind fun r => (compL f xs).bind fun ys => some (r.toList ++ ys)
def compO {α β : Type} (f : α → Option (Option β)) (xs : List α) : Option (List β) := if xs.length ≤ 100000 then compL f xs else none
/-- a comprehension whose parts change a state -/
def compSL {α β S : Type} (f : S → α → Option (Option β × S)) : List α → S → Option (List β × S)
  | [], s => some ([], s)
  | x :: xs, s => (f s x).bind fun r => (compSL f xs r.2).bind fun ys => some (r.1.toList ++ ys.1, ys.2)
def compS {α β S : Type} (f : S → α → Option (Option β × S)) (xs : List α) (s : S) : Option (List β × S) := if xs.length ≤ 100000 then compSL f xs s else none
def inR (n : Int) : Bool := decide (-(2 ^ 62) ≤ n) && decide (n < 2 ^ 62)
def rngO (lo hi : Int) : Option (List Int) := if (inR lo && inR hi) = true then some (rng lo (hi - lo).toNat) else none
def enumT {α : Type} (xs : List α) : List (Int × α) := xs.mapIdx fun i x => ((i : Int), x)
def encO {α : Type} (f : α → D) : Option α → D
  | none => .non
  | some a => f a
def okL (n : Nat) : Option Unit := if n < 100000 then some () else none
def mulO (i j : Int) : Option Int := if i.natAbs < 2 ^ 499 ∧ j.natAbs < 2 ^ 499 then some (i * j) else none
def divO (i j : Int) : Option Int := if 0 < j ∧ j < 2 ^ 62 then some (i / j) else none
def modO (i j : Int) : Option Int := if 0 < j then some (i % j) else none
theorem okL_of {n : Nat} {u : Unit} (h : okL n = some u) : n < 100000 := by
  unfold okL at h
  by_cases g : n < 100000
  · exact g
  · rw [if_neg g] at h; cases h
theorem mulO_of {i j k : Int} (h : mulO i j = some k) : CMulW i j ∧ k = i * j := by
  unfold mulO at h
  by_cases g : i.natAbs < 2 ^ 499 ∧ j.natAbs < 2 ^ 499
  · rw [if_pos g] at h; exact ⟨wide_mul g.1 g.2 (by decide) (by decide) (by decide), (Option.some.inj h).symm⟩
  · rw [if_neg g] at h; cases h
theorem divO_of {i j k : Int} (h : divO i j = some k) : CDivW i j ∧ k = i / j := by
  unfold divO at h
  by_cases g : 0 < j ∧ j < 2 ^ 62
  · rw [if_pos g] at h; exact ⟨wide_div (b := 62) g.1 (by omega) (by decide) (by decide), (Option.some.inj h).symm⟩
  · rw [if_neg g] at h; cases h
theorem modO_of {i j k : Int} (h : modO i j = some k) : 0 < j ∧ k = i % j := by
  unfold modO at h
  by_cases g : 0 < j
  · rw [if_pos g] at h; exact ⟨g, (Option.some.inj h).symm⟩
  · rw [if_neg g] at h; cases h
theorem rngO_of {lo hi : Int} {xs : List Int} (h : rngO lo hi = some xs) : (-(2 ^ 62) ≤ lo ∧ lo < 2 ^ 62) ∧ (-(2 ^ 62) ≤ hi ∧ hi < 2 ^ 62) ∧ xs = rng lo (hi - lo).toNat := by
  unfold rngO at h
  by_cases g : (inR lo && inR hi) = true
  · rw [if_pos g] at h
    unfold inR at g
    simp only [Bool.and_eq_true, decide_eq_true_eq] at g
    exact ⟨g.1, g.2, (Option.some.inj h).symm⟩
  · rw [if_neg g] at h; cases h
theorem atI_map {α β : Type} (f : α → β) (xs : List α) (i : Int) : atI (xs.map f) i = (atI xs i).map f := by
  unfold atI
  rw [List.length_map]
  cases ixN xs.length i with
  | none => rfl
  | some j => simp
theorem getA_map {κ κ' α β : Type} [DecidableEq κ] [DecidableEq κ'] (f : κ → κ') (g : α → β) (hf : ∀ a b, f a = f b → a = b) (k : κ) : ∀ l : List (κ × α), getA (l.map fun z => (f z.1, g z.2)) (f k) = (getA l k).map g
  | [] => rfl
  | a :: l => by
    have ih := getA_map f g hf k l
    unfold getA at ih ⊢
    rw [List.map_cons, List.find?_cons, List.find?_cons]
    by_cases e : a.1 = k
    · rw [decide_eq_true (show f a.1 = f k by rw [e]), decide_eq_true e]
      rfl
    · rw [decide_eq_false (fun z => e (hf _ _ z)), decide_eq_false e]
      exact ih
theorem putA_map {κ κ' α β : Type} [DecidableEq κ] [DecidableEq κ'] (f : κ → κ') (g : α → β) (hf : ∀ a b, f a = f b → a = b) (k : κ) (v : α) (l : List (κ × α)) : putA (l.map fun z => (f z.1, g z.2)) (f k) (g v) = (putA l k v).map fun z => (f z.1, g z.2) := by
  have e1 : ∀ z : κ × α, decide (f z.1 = f k) = decide (z.1 = k) := fun z => by
    by_cases e : z.1 = k
    · rw [e]; simp
    · rw [decide_eq_false e, decide_eq_false fun y => e (hf _ _ y)]
  have e2 : ((l.map fun z => (f z.1, g z.2)).any fun kv => decide (kv.1 = f k)) = l.any fun kv => decide (kv.1 = k) := by
    rw [List.any_map]
    congr 1
    funext z
    exact e1 z
  unfold putA
  rw [e2]
  by_cases h : (l.any fun kv => decide (kv.1 = k)) = true
  · rw [if_pos h, if_pos h, List.map_map, List.map_map]
    apply List.map_congr_left
    intro z _
    show (if f z.1 = f k then (f z.1, g v) else (f z.1, g z.2)) = _
    by_cases e : z.1 = k
    · rw [if_pos (by rw [e])]
      show _ = (f (if z.1 = k then (z.1, v) else z).1, g (if z.1 = k then (z.1, v) else z).2)
      rw [if_pos e]
    · rw [if_neg fun y => e (hf _ _ y)]
      show _ = (f (if z.1 = k then (z.1, v) else z).1, g (if z.1 = k then (z.1, v) else z).2)
      rw [if_neg e]
  · rw [if_neg h, if_neg h, List.map_append]
    rfl
theorem inl_inj : ∀ a b : Int, (Sum.inl a : Key) = Sum.inl b → a = b := fun a b h => by injection h
theorem inls_inj : ∀ a b : List Int, (a.map Sum.inl : List Key) = b.map Sum.inl → a = b := fun a b h => List.map_inj_right (fun x y e => by injection e) |>.mp h
/-- the least, the greatest, by lists of numbers -/
def maxT {α : Type} (key : α → List Int) (x : α) (r : List α) : α := r.foldl (fun a y => if lexI (key a) (key y) = true then y else a) x
def minT {α : Type} (key : α → List Int) (x : α) (r : List α) : α := r.foldl (fun a y => if lexI (key y) (key a) = true then y else a) x
def maxO {α : Type} (key : α → List Int) : List α → Option α
  | [] => none
  | x :: r => some (maxT key x r)
def minO {α : Type} (key : α → List Int) : List α → Option α
  | [] => none
  | x :: r => some (minT key x r)
theorem maxK_key {α : Type} (key : α → List Int) : ∀ (r : List α) (x : α), maxK (key x) (r.map key) = key (maxT key x r)
  | [], x => rfl
  | y :: r, x => by
    unfold maxK maxT
    rw [List.map_cons, List.foldl_cons, List.foldl_cons]
    have e : (if lexI (key x) (key y) = true then key y else key x) = key (if lexI (key x) (key y) = true then y else x) := by split <;> rfl
    rw [e]
    exact maxK_key key r _
theorem minK_key {α : Type} (key : α → List Int) : ∀ (r : List α) (x : α), minK (key x) (r.map key) = key (minT key x r)
  | [], x => rfl
  | y :: r, x => by
    unfold minK minT
    rw [List.map_cons, List.foldl_cons, List.foldl_cons]
    have e : (if lexI (key y) (key x) = true then key y else key x) = key (if lexI (key y) (key x) = true then y else x) := by split <;> rfl
    rw [e]
    exact minK_key key r _
def sortT {α : Type} (key : α → List Int) (xs : List α) : List α := xs.mergeSort fun a b => leI (key a) (key b)
def sortO {α : Type} (key : α → List Int) (xs : List α) : Option (List α) := if xs.length ≤ 100000 then some (sortT key xs) else none
def ssetO (ns : List Int) : Option (List Int) := if ns.length ≤ 60 then some (ssetI ns) else none
def catO {α : Type} (xs ys : List α) : Option (List α) := if xs.length + ys.length ≤ 100000 then some (xs ++ ys) else none
/-! ### data that can be compared at all -/
def Pl (n : Nat) (d : D) : Prop := ∃ pd : PyData, (∀ K H v, Rp K H d v → Dp K H v pd) ∧ pd.canLay0 = true ∧ pd.depth ≤ n
def PlL (n : Nat) (ds : List D) : Prop := ∃ pds : List PyData, (∀ K H vs, RpL K H ds vs → DpAll K H vs pds) ∧ PyData.canLayAll0 pds = true ∧ PyData.depthAll pds ≤ n
theorem pl_int (i : Int) : Pl 3 (.int i) := ⟨.int i, fun K H v h => by have h : v = V.int i := h; subst h; exact .int i, rfl, by simp [PyData.depth]⟩
theorem pl_bl (i : Bool) : Pl 3 (.bl i) := ⟨.bool i, fun K H v h => by have h : v = V.bl i := h; subst h; exact .bl i, rfl, by simp [PyData.depth]⟩
theorem pl_non : Pl 3 .non := ⟨.none, fun K H v h => by have h : v = V.non := h; subst h; exact .non, rfl, by simp [PyData.depth]⟩
theorem pl_tI (k : List Int) : Pl 3 (tI k) := ⟨pI k, fun K H v h => dp_tI h, lay_pI k, Nat.le_trans (depth_pI k) (by decide)⟩
theorem pl_up {n m : Nat} {d : D} (h : n ≤ m) : Pl n d → Pl m d := fun ⟨pd, h1, h2, h3⟩ => ⟨pd, h1, h2, Nat.le_trans h3 h⟩
theorem pll_nil (n : Nat) : PlL n [] := ⟨[], fun K H v h => by cases h; exact .nil, rfl, by simp [PyData.depthAll]⟩
theorem pll_cons {n : Nat} {d : D} {ds : List D} : Pl n d → PlL n ds → PlL n (d :: ds) := fun ⟨p, h1, h2, h3⟩ ⟨ps, g1, g2, g3⟩ =>
  ⟨p :: ps, fun K H v ⟨x, r, e, q1, q2⟩ => by subst e; exact .cons (h1 K H x q1) (g1 K H r q2), by rw [PyData.canLayAll0, h2, g2]; rfl, by simp only [PyData.depthAll]; omega⟩
theorem pll_map {α : Type} {n : Nat} {f : α → D} (h : ∀ x, Pl n (f x)) : ∀ xs : List α, PlL n (xs.map f)
  | [] => pll_nil n
  | x :: xs => pll_cons (h x) (pll_map h xs)
theorem pl_tup {n : Nat} {ds : List D} : PlL n ds → Pl (n + 1) (.tup ds) := fun ⟨ps, g1, g2, g3⟩ => ⟨.tuple ps, fun K H v ⟨a, xs, e, q1, q2⟩ => by subst e; exact .tup (SqT.of q1) (g1 K H xs q2), g2, by simp only [PyData.depth]; omega⟩
theorem pl_lst {n : Nat} {ds : List D} : PlL n ds → Pl (n + 1) (.lst ds) := fun ⟨ps, g1, g2, g3⟩ => ⟨.list ps, fun K H v ⟨a, xs, e, q1, q2⟩ => by subst e; exact .lst q1 (g1 K H xs q2), g2, by simp only [PyData.depth]; omega⟩

section
variable {K : PySem.W.Frag} {X : Addr → Prop} {a0 : Addr} {H0 : Hp} {M : Msk} {ad : Nat → Addr} {σ : St} {H H' H1 : Hp} {env env' env'' : List Bd} {l l' : Lv} {p q : Bool} {d d' e : D} {ta tb te ti tx : TE} {t u : TT} {i j : Nat} {b c : Bool} {ts tu : TS} {o : Out} {Dn : Ends} {tsA : TA}
theorem shaped_of {pd : PyData} {n : Nat} (h : pd.canLay0 = true) (hd : pd.depth ≤ n) (hn : n ≤ 60) : SeqAt.shaped pd = true := by
  unfold SeqAt.shaped
  rw [h]
  simpa using Nat.le_trans hd (Nat.le_trans hn (by decide))
theorem nil_eqv {pds : List PyData} {xs : List V} {B : Hp} (h : DpAll K B xs pds) : PyData.eqv (.list pds) (.list []) = xs.isEmpty := by
  cases h with
  | nil => simp [PyData.eqv, PyData.eqvAll]
  | cons _ _ => simp [PyData.eqv, PyData.eqvAll]
theorem rv_neNil {ds : List D} {n : Nat} (h : PlL n ds) (hn : n ≤ 59) : RV K l l' (rNeD K) (.lst ds) (.lst []) (.bl (!ds.isEmpty)) := fun X a0 H0 M ad σ H env x y Q E rx ry k => by
  obtain ⟨pds, g1, g2, g3⟩ := h
  obtain ⟨a, xs, rfl, h1, h2⟩ := rx
  obtain ⟨b, ys, rfl, h3, h4⟩ := ry
  have h4 : ys = [] := h4
  subst h4
  have hd := DpAM hid_all (g1 K _ xs h2)
  refine ⟨.list pds, .list [], .lst (ex_l hid_all h1) hd, .lst (ex_l hid_all h3) .nil, shaped_of (n := n + 1) g2 (by simp only [PyData.depth]; omega) (by omega), by rfl, ?_⟩
  rw [nil_eqv hd]
  have e : xs.isEmpty = ds.isEmpty := by
    have := h2.length
    cases xs <;> cases ds <;> first | rfl | simp at this
  rw [e]
  exact k _ H E (Ex.refl _) rfl
theorem rv_eqNil {ds : List D} {n : Nat} (h : PlL n ds) (hn : n ≤ 59) : RV K l l' (rEqD K) (.lst ds) (.lst []) (.bl ds.isEmpty) := fun X a0 H0 M ad σ H env x y Q E rx ry k => by
  obtain ⟨pds, g1, g2, g3⟩ := h
  obtain ⟨a, xs, rfl, h1, h2⟩ := rx
  obtain ⟨b, ys, rfl, h3, h4⟩ := ry
  have h4 : ys = [] := h4
  subst h4
  have hd := DpAM hid_all (g1 K _ xs h2)
  refine ⟨.list pds, .list [], .lst (ex_l hid_all h1) hd, .lst (ex_l hid_all h3) .nil, shaped_of (n := n + 1) g2 (by simp only [PyData.depth]; omega) (by omega), by rfl, ?_⟩
  rw [nil_eqv hd]
  have e : xs.isEmpty = ds.isEmpty := by
    have := h2.length
    cases xs <;> cases ds <;> first | rfl | simp at this
  rw [e]
  exact k _ H E (Ex.refl _) rfl
theorem rv_ixTn {ds : List D} (j : Nat) (h : ds[j]? = some e) : RV K l l (rIxT K) (.tup ds) (.int (j : Int)) e := rv_ixT (atI_nat h)
theorem rv_ixLn {ds : List D} (j : Nat) (h : ds[j]? = some e) : RV K l l (rIxL K) (.lst ds) (.int (j : Int)) e := rv_ixL (atI_nat h)
theorem rv_ixTm {α : Type} {f : α → D} {xs : List α} {i : Int} {v : α} (h : atI xs i = some v) : RV K l l (rIxT K) (.tup (xs.map f)) (.int i) (f v) := rv_ixT (by rw [atI_map, h]; rfl)
theorem rv_ixLm {α : Type} {f : α → D} {xs : List α} {i : Int} {v : α} (h : atI xs i = some v) : RV K l l (rIxL K) (.lst (xs.map f)) (.int i) (f v) := rv_ixL (by rw [atI_map, h]; rfl)
theorem ev_ixOwm {α : Type} {f : α → D} {xs : List α} {n : Int} {v : α} (h : env[i]? = some (.ow (.lst (xs.map f)))) (hb : EvD K l p tb env env (.int n)) (hd : atI xs n = some v) : EvD K l' p (tOp (rIxL K) (tVar i) tb) env env (f v) := ev_ixOw h hb (by rw [atI_map, hd]; rfl)
theorem ev_ixOwn {ds : List D} (j : Nat) (h : env[i]? = some (.ow (.lst ds))) (hd : ds[j]? = some d) : EvD K l' true (tOp (rIxL K) (tVar i) (tC (.int (j : Int)))) env env d := ev_ixOw (l := .l2) h ev_int (atI_nat hd)
theorem ev_ixMun {ds : List D} (j : Nat) (h : env[i]? = some (.mu (.lst ds))) (hd : ds[j]? = some d) : EvD K l' true (tOp (rIxL K) (tVar i) (tC (.int (j : Int)))) env env d := ev_ixMu (l := .l2) h ev_int (atI_nat hd)
/-- max, min, sorted of typed lists -/
theorem rc_maxT {α : Type} {key : α → List Int} {xs : List α} {m : α} (h : maxO key xs = some m) : RC K l l (rMaxD K) [.lst (xs.map fun a => tI (key a))] (tI (key m)) := by
  cases xs with
  | nil => cases h
  | cons x r =>
    have h : some (maxT key x r) = some m := h
    cases h
    have := rc_maxI (K := K) (l := l) (k0 := key x) (r := r.map key)
    rw [maxK_key, List.map_cons, List.map_map] at this
    exact this
theorem rc_minT {α : Type} {key : α → List Int} {xs : List α} {m : α} (h : minO key xs = some m) : RC K l l (rMinD K) [.lst (xs.map fun a => tI (key a))] (tI (key m)) := by
  cases xs with
  | nil => cases h
  | cons x r =>
    have h : some (minT key x r) = some m := h
    cases h
    have := rc_minI (K := K) (l := l) (k0 := key x) (r := r.map key)
    rw [minK_key, List.map_cons, List.map_map] at this
    exact this
theorem ev_minOwT {α : Type} {key : α → List Int} {xs : List α} {m : α} (h : env[i]? = some (.ow (.lst (xs.map fun a => tI (key a))))) (hm : minO key xs = some m) : EvD K l true (tCB (rMinD K) (tCons (tVar i) tNil)) env env (tI (key m)) := by
  cases xs with
  | nil => cases hm
  | cons x r =>
    have hm : some (minT key x r) = some m := hm
    cases hm
    have h' : env[i]? = some (.ow (.lst ((key x :: r.map key).map tI))) := by rw [h, List.map_cons, List.map_cons, List.map_map]; rfl
    have := ev_minOw (K := K) (l := l) h'
    rw [minK_key] at this
    exact this
theorem ef_sortT {α : Type} {key : α → List Int} {xs ys : List α} (hs : sortO key xs = some ys) (hk : ∀ a, key a ≠ []) (h : EvA K .l2 p tsA env env' [.lst (xs.map fun a => tI (key a))]) : EvF K p (tCB (rSortD K) tsA) env env' (.lst (ys.map fun a => tI (key a))) := by
  unfold sortO at hs
  by_cases hn : xs.length ≤ 100000
  · rw [if_pos hn] at hs
    cases hs
    have e1 : (xs.map fun a => tI (key a)) = (xs.map key).map tI := by rw [List.map_map]; rfl
    rw [e1] at h
    have := ef_sortI h (by simpa using hn) fun k hk' => by
      obtain ⟨a, _, rfl⟩ := List.mem_map.mp hk'
      exact hk a
    have e2 : ((xs.map key).mergeSort leI).map tI = (sortT key xs).map fun a => tI (key a) := by
      unfold sortT
      rw [← List.map_mergeSort (r := fun a b => leI (key a) (key b)) (s := leI) (f := key) (fun a _ b _ => rfl), List.map_map]
      rfl
    rw [e2] at this
    exact this
  · rw [if_neg hn] at hs; cases hs
theorem ef_ssetT {Xc : Cx} {ns ms : List Int} (hs : ssetO ns = some ms) (h : EvA Xc.K .l2 p tsA env env' [.lst (ns.map .int)]) : EvF Xc.K p (tCB (rSortedSet Xc.w) (tCons (tCB (rSetLI Xc) tsA) tNil)) env env' (.lst (ms.map .int)) := by
  unfold ssetO at hs
  by_cases hn : ns.length ≤ 60
  · rw [if_pos hn] at hs
    cases hs
    exact ef_sset h hn
  · rw [if_neg hn] at hs; cases hs
theorem ef_catT {α : Type} {f : α → D} {xs ys zs : List α} (hs : catO xs ys = some zs) (h1 : EvD K .l2 p ta env env' (.lst (xs.map f))) (h2 : EvD K .l2 q tb env' env'' (.lst (ys.map f))) : EvF K (p && q) (tOp (rCatL K) ta tb) env env'' (.lst (zs.map f)) := by
  unfold catO at hs
  by_cases hn : xs.length + ys.length ≤ 100000
  · rw [if_pos hn] at hs
    cases hs
    rw [List.map_append]
    exact ef_catL h1 h2 (by simpa using hn)
  · rw [if_neg hn] at hs; cases hs
theorem rc_len_lm {α : Type} {f : α → D} {xs : List α} : RC K l l' (fun xs H Q => ∃ p ys, xs = [.ref p] ∧ (SqL K H p ys ∨ SqT K H p ys) ∧ Q (.int ys.length) H) [.lst (xs.map f)] (.int (xs.length : Int)) := by
  have := rc_len_l (K := K) (l := l) (l' := l') (ds := xs.map f)
  rw [List.length_map] at this
  exact this
theorem rc_len_tm {α : Type} {f : α → D} {xs : List α} : RC K l l' (fun xs H Q => ∃ p ys, xs = [.ref p] ∧ (SqL K H p ys ∨ SqT K H p ys) ∧ Q (.int ys.length) H) [.tup (xs.map f)] (.int (xs.length : Int)) := by
  have := rc_len_t (K := K) (l := l) (l' := l') (ds := xs.map f)
  rw [List.length_map] at this
  exact this
/-- arithmetic -/
theorem rv_mul {m n k : Int} (h : mulO m n = some k) : RV K l l' (rI CMulW fun i j => .int (i * j)) (.int m) (.int n) (.int k) := by
  obtain ⟨h1, rfl⟩ := mulO_of h
  exact rv_I h1 fun _ => rfl
theorem rv_div {m n k : Int} (h : divO m n = some k) : RV K l l' (rI CDivW fun i j => .int (i / j)) (.int m) (.int n) (.int k) := by
  obtain ⟨h1, rfl⟩ := divO_of h
  exact rv_I h1 fun _ => rfl
theorem rv_mod {m n k : Int} (h : modO m n = some k) : RV K l l' (rI (fun _ j => 0 < j) fun i j => .int (i % j)) (.int m) (.int n) (.int k) := by
  obtain ⟨h1, rfl⟩ := modO_of h
  exact rv_I h1 fun _ => rfl
/-- dicts, typed -/
theorem ev_dgetKt {α : Type} {f : α → D} {l1 : List (Int × α)} {n : Int} {v : α} (hg : getA l1 n = some v) (h : EvD K l p ta env env' (dkL (l1.map fun z => ((Sum.inl z.1 : Key), f z.2)))) (hi : EvD K l true ti env' env' (.int n)) : EvD K l p (tDGet ta ti) env env' (f v) :=
  ev_dgetK h hi (by rw [getA_map Sum.inl f inl_inj, hg]; rfl)
theorem ev_dgetTt {α : Type} {f : α → D} {l1 : List (List Int × α)} {ns : List Int} {v : α} (hg : getA l1 ns = some v) (h : EvD K l p ta env env' (dtL (l1.map fun z => ((z.1.map Sum.inl : List Key), f z.2)))) (hi : EvA K .l2 true tsA env' env' (ns.map .int)) (hn : ns.length ≤ 1000) : EvD K l p (tDGet ta (tTup tsA)) env env' (f v) :=
  ev_dgetT h hi hn (by rw [getA_map (fun z : List Int => (z.map Sum.inl : List Key)) f inls_inj, hg]; rfl)
theorem ev_dget2Kt {α : Type} {f : α → D} {l1 : List (Int × α)} {n : Int} {v : α} (h : env[i]? = some (.ow (dkL (l1.map fun z => ((Sum.inl z.1 : Key), f z.2))))) (hi : EvD K .l2 true ti env env (.int n)) (hx : EvD K .l2 true tx env env (f v)) : EvD K l true (tDGet2 (tVar i) ti tx) env env (f ((getA l1 n).getD v)) := by
  refine ev_is (ev_dget2K h hi hx) ?_
  rw [getA_map Sum.inl f inl_inj]
  cases getA l1 n <;> rfl
theorem ev_dget2Tt {α : Type} {f : α → D} {l1 : List (List Int × α)} {ns : List Int} {v : α} (h : env[i]? = some (.ow (dtL (l1.map fun z => ((z.1.map Sum.inl : List Key), f z.2))))) (hi : EvA K .l2 true tsA env env (ns.map .int)) (hn : ns.length ≤ 1000) (hx : EvD K .l2 true tx env env (f v)) : EvD K l true (tDGet2 (tVar i) (tTup tsA) tx) env env (f ((getA l1 ns).getD v)) := by
  refine ev_is (ev_dget2T h hi hn hx) ?_
  rw [getA_map (fun z : List Int => (z.map Sum.inl : List Key)) f inls_inj]
  cases getA l1 ns <;> rfl
theorem sd_dputKt {α : Type} {f : α → D} {l1 : List (Int × α)} {n : Int} {v : α} (h : env'[i]? = some (.ow (dkL (l1.map fun z => ((Sum.inl z.1 : Key), f z.2))))) (he : EvD K .l2 p te env env' (f v)) (hi : EvD K .l2 true ti env' env' (.int n)) (hn : l1.length < 100000) : SD K (sDPut (tVar i) ti te) env (.nx (env'.set i (.ow (dkL ((putA l1 n v).map fun z => ((Sum.inl z.1 : Key), f z.2)))))) := by
  have := sd_dputK h he hi (by simpa using hn)
  rw [putA_map Sum.inl f inl_inj] at this
  exact this
theorem sd_dputTt {α : Type} {f : α → D} {l1 : List (List Int × α)} {ns : List Int} {v : α} (h : env'[i]? = some (.ow (dtL (l1.map fun z => ((z.1.map Sum.inl : List Key), f z.2))))) (he : EvD K .l2 p te env env' (f v)) (hi : EvA K .l2 true tsA env' env' (ns.map .int)) (hns : ns.length ≤ 1000) (hn : l1.length < 100000) : SD K (sDPut (tVar i) (tTup tsA) te) env (.nx (env'.set i (.ow (dtL ((putA l1 ns v).map fun z => ((z.1.map Sum.inl : List Key), f z.2)))))) := by
  have := sd_dputT h he hi hns (by simpa using hn)
  rw [putA_map (fun z : List Int => (z.map Sum.inl : List Key)) f inls_inj] at this
  exact this
theorem sd_appendT {α : Type} {f : α → D} {xs : List α} {v : α} {un : Unit} (hn : okL xs.length = some un) (h : env'[i]? = some (.ow (.lst (xs.map f)))) (h0 : env[i]? = some (.ow (.lst (xs.map f)))) (he : EvD K .l2 p te env env' (f v)) :
    SD K (tDrop (tBM K "list" rAppend (tVar i) (tCons te tNil))) env (.nx (env'.set i (.ow (.lst ((xs ++ [v]).map f))))) := by
  have := sd_append h h0 he (by simpa using okL_of hn)
  rw [List.map_append]
  exact this
/-- tuple * int -/
theorem ev_repT {α : Type} {f : α → D} {xs : List α} {n : Int} (h : EvD K l p ta env env' (.tup (xs.map f))) (h2 : EvD K l true tb env' env' (.int n)) (hn : 1 ≤ n ∧ n ≤ 1000) (hx : xs ≠ []) (hl : xs.length ≤ 1000) :
    EvD K l p (tOp (fun x y H Q => rRepT1 K x y H Q ∨ rRepT K x y H Q) ta tb) env env' (.tup ((List.replicate n.toNat xs).flatten.map f)) := fun X a0 H0 M ad σ H Q E k =>
  h X a0 H0 M ad σ H _ E fun x H1 E1 e1 p1 r1 => h2 X a0 H0 M ad σ H1 _ E1 fun y H2 E2 e2 p2 r2 => by
    obtain ⟨a, ys, rfl, g1, g2⟩ := r1
    have r2 : y = V.int n := r2
    subst r2
    have hl2 : ys.length = xs.length := by rw [g2.length, List.length_map]
    have g1' : SqT K H2 a ys := ex_s (hid_all.trans (p2 rfl)) g1
    by_cases e : n = 1
    · subst e
      refine .inl ⟨a, ys, rfl, rfl, g1', k _ H2 E2 (e1.trans e2) (fun z => (p1 z).trans (p2 rfl)) ?_⟩
      have : (List.replicate (1 : Int).toNat xs).flatten = xs := by simp
      rw [this]
      exact ⟨a, ys, rfl, hid_ex (p2 rfl) _ _ g1, RpL.mono (hid_ex (p2 rfl)) _ _ g2⟩
    · refine .inr ⟨a, n, ys, rfl, rfl, g1', fun z => hx (List.eq_nil_of_length_eq_zero (by rw [← hl2, z]; rfl)), by omega, hn.2, by omega, fun c hc => ?_⟩
      have g : Ex H2 (upd H2 c (.tup (List.replicate n.toNat ys).flatten)) := Ex.new hc
      refine k _ _ (E2.grow g) ((e1.trans e2).trans (hid_ex g)) (fun z => ((p1 z).trans (p2 rfl)).trans g) ⟨c, (List.replicate n.toNat ys).flatten, rfl, ?_, ?_⟩
      · rw [hid_out (fresh_mk E2 hc), upd_same]
      · have g3 : RpL K (hid (mk l M X) (upd H2 c (.tup (List.replicate n.toNat ys).flatten))) (xs.map f) ys := RpL.mono ((hid_ex (p2 rfl)).trans (hid_ex g)) _ _ g2
        revert g3
        generalize hid (mk l M X) (upd H2 c (HO.tup (List.replicate n.toNat ys).flatten)) = HH
        intro g3
        generalize n.toNat = m
        clear g k
        induction m with
        | zero => exact rfl
        | succ m ih =>
          rw [List.replicate_succ, List.replicate_succ, List.flatten_cons, List.flatten_cons, List.map_append]
          exact RpL.append g3 ih
/-! ### walks -/
theorem ei_rng1T {n : Int} {xs : List Int} (hx : rngO 0 n = some xs) (h : EvA K l' p tsA env env' [.int n]) : EvI K l p (iRng1 tsA) env env' (xs.map D.int) := by
  obtain ⟨_, h2, rfl⟩ := rngO_of hx
  have := ei_rng1 (l := l) h h2
  rw [Int.sub_zero]
  exact this
theorem ei_rng2T {m n : Int} {xs : List Int} (hx : rngO m n = some xs) (h : EvA K l' p tsA env env' [.int m, .int n]) : EvI K l p (iRng2 tsA) env env' (xs.map D.int) := by
  obtain ⟨h1, h2, rfl⟩ := rngO_of hx
  exact ei_rng2 h h1 h2
theorem enumD_map {α : Type} (f : α → D) (xs : List α) : enumD (xs.map f) = (enumT xs).map fun z => D.tup [.int z.1, f z.2] := by
  unfold enumD enumT
  apply List.ext_getElem?
  intro i
  rw [List.getElem?_mapIdx, List.getElem?_map, List.getElem?_map, List.getElem?_mapIdx]
  cases xs[i]? <;> rfl
theorem ei_enumLT {α : Type} {f : α → D} {xs : List α} (hl : l.lp = true) (h : EvA K l p tsA env env' [.lst (xs.map f)]) : EvI K l p (iEnum K tsA) env env' ((enumT xs).map fun z => D.tup [.int z.1, f z.2]) := by
  rw [← enumD_map]
  exact ei_enumL hl h
theorem ei_enT (hl : l.lp = true) {ds : List D} (h : EvA K l p tsA env env' [.tup ds]) : EvI K l p (iEnT K tsA) env env' (enumD ds) := fun X a0 H0 M ad σ H R E k =>
  h X a0 H0 M ad σ H _ E fun ys H1 E1 e1 p1 r1 => by
    obtain ⟨x, rfl, a, xs, rfl, h1, h2⟩ := r1.one'
    refine ⟨a, xs, rfl, ex_s hid_all h1, k _ H1 E1 e1 p1 fun i H2 g => ?_⟩
    have h3 : SqT K H2 a xs := ex_s ((by rw [hid_mx hl]; exact hid_all.trans g : Ex (hid (mk l M X) H1) H2)) h1
    refine ⟨fun d hd => ?_, fun hi => ⟨xs, h3, by rw [h2.length]; simpa [enumD] using hi⟩⟩
    unfold enumD at hd
    rw [List.getElem?_mapIdx] at hd
    obtain ⟨d0, hd0, rfl⟩ := Option.map_eq_some_iff.mp hd
    obtain ⟨v, hv, rv⟩ := h2.get hd0
    refine ⟨⟨xs, v, h3, hv⟩, fun x H' y => .inr ?_⟩
    obtain ⟨T, y', hx, hT, hH, hy⟩ := y
    have := hy xs h3
    rw [hv] at this
    cases this
    exact .inl ⟨T, v, d0, hx, hT, hH, rfl, by rw [← hid_mx hl]; exact rv⟩
theorem ei_enumTT {α : Type} {f : α → D} {xs : List α} (hl : l.lp = true) (h : EvA K l p tsA env env' [.tup (xs.map f)]) : EvI K l p (iEnT K tsA) env env' ((enumT xs).map fun z => D.tup [.int z.1, f z.2]) := by
  rw [← enumD_map]
  exact ei_enT hl h
/-! ### slots let go -/
theorem sd_wipe (vs : List Nat) (hv : (vs.all fun v => !isMu env'[v]?) = true) (h : SD K ts env (.nx env')) : SD K ts env (.nx (wipeE env' vs)) := fun X a0 H0 M ad σ H Dn E k =>
  h X a0 H0 M ad σ H Dn E fun M' ad' σ' H' E' => k M' ad' σ' H' ((E'.wipe hv).1.anyAt (wipe_length _ _).symm fun j b hb => by
    by_cases m : j ∈ vs
    · refine .inl ?_
      have : (wipeE env' vs)[j]? = some .an := wipeE_at m (by
        have := (List.getElem?_eq_some_iff.mp hb).1
        rwa [wipeE_len] at this)
      rw [this] at hb
      exact (Option.some.inj hb).symm
    · rw [wipe_get, if_neg fun z => m z.1]; exact .inr rfl)
theorem sd_wp (vs : List Nat) (hv : (vs.all fun v => !isMu env[v]?) = true) (h : SD K ts (wipeE env vs) o) : SD K ts env o := fun X a0 H0 M ad σ H Dn E k =>
  h X a0 H0 M ad σ H Dn ((E.wipe hv).1.anyAt (wipe_length _ _).symm fun j b hb => by
    by_cases m : j ∈ vs
    · refine .inl ?_
      have : (wipeE env vs)[j]? = some .an := wipeE_at m (by
        have := (List.getElem?_eq_some_iff.mp hb).1
        rwa [wipeE_len] at this)
      rw [this] at hb
      exact (Option.some.inj hb).symm
    · rw [wipe_get, if_neg fun z => m z.1]; exact .inr rfl) k
end
end Pw
/-! PwN: rules in the form that the printed readings use. -/
namespace Pw
open PySem L2
section
variable {K : PySem.W.Frag} {X : Addr → Prop} {a0 : Addr} {H0 : Hp} {M : Msk} {ad : Nat → Addr} {σ : St} {H H' H1 : Hp} {env env' env'' : List Bd} {l l' : Lv} {p q : Bool} {d d' e : D} {ta tb te ti tx : TE} {t u : TT} {i j : Nat} {b c : Bool} {ts tu te' : TS} {o : Out} {Dn : Ends} {tsA : TA}
theorem hu64 {A : Around} {k : Nat} (h : Room k A) : A.units + 64 < cLine := by have := h.un; omega
theorem ev_toF (h : EvD K l p te env env' d) : EvD K l false te env env' d := fun X a0 H0 M ad σ H Q E k =>
  h X a0 H0 M ad σ H Q E fun v H' E' e' p' r => k v H' E' e' (fun z => by cases z) r
theorem eb_toF (h : EvB K p t env env' b) : EvB K false t env env' b := fun X a0 H0 M ad σ H Q E k =>
  h X a0 H0 M ad σ H Q E fun H' E' e' p' => k H' E' e' (fun z => by cases z)
theorem ea_toF {ds : List D} (h : EvA K l p tsA env env' ds) : EvA K l false tsA env env' ds := fun X a0 H0 M ad σ H Q E k =>
  h X a0 H0 M ad σ H Q E fun v H' E' e' p' r => k v H' E' e' (fun z => by cases z) r
theorem ev_opP {r : R2} (ha : EvD K l true ta env env d) (hb : EvD K l true tb env env d') (hr : RV K l l' r d d' e) : EvD K l' true (tOp r ta tb) env env e :=
  ev_op (p := true) (q := true) (Bool.or_true _) ha hb hr
theorem ev_opF {r : R2} (hl : l.st = true) (ha : EvD K l p ta env env' d) (hb : EvD K l q tb env' env'' d') (hr : RV K l l' r d d' e) : EvD K l' false (tOp r ta tb) env env'' e :=
  ev_toF (ev_op (by rw [hl]; rfl) ha hb hr)
theorem ea_consP {ts : TA} {ds : List D} (h : EvD K l true te env env d) (hs : EvA K l true ts env env ds) : EvA K l true (tCons te ts) env env (d :: ds) :=
  ea_cons (p := true) (q := true) (Bool.or_true _) h hs
theorem ea_consF {ts : TA} {ds : List D} (hl : l.st = true) (h : EvD K l p te env env' d) (hs : EvA K l q ts env' env'' ds) : EvA K l false (tCons te ts) env env'' (d :: ds) :=
  ea_toF (ea_cons (by rw [hl]; rfl) h hs)
theorem eb_andW (h : EvB K p t env env b) (h1 : b = true → EvB K p u env env c) (h2 : b = false → c = false) : EvB K p (tAnd t u) env env c := by
  have := eb_and h h1
  cases b with
  | true => exact this
  | false => rw [h2 rfl]; exact this
theorem eb_orW (h : EvB K p t env env b) (h1 : b = false → EvB K p u env env c) (h2 : b = true → c = true) : EvB K p (tOr t u) env env c := by
  have := eb_or h h1
  cases b with
  | false => exact this
  | true => rw [h2 rfl]; exact this
theorem ev_andW (h : EvD K l p ta env env (.bl b)) (h1 : b = true → EvD K l p tb env env (.bl c)) (h2 : b = false → c = false) : EvD K l' p (tAndV ta tb) env env (.bl c) := by
  have := ev_andV (l' := l') h h1
  cases b with
  | true => exact this
  | false => rw [h2 rfl]; exact this
theorem ev_orW (h : EvD K l p ta env env (.bl b)) (h1 : b = false → EvD K l p tb env env (.bl c)) (h2 : b = true → c = true) : EvD K l' p (tOrV ta tb) env env (.bl c) := by
  have := ev_orV (l' := l') h h1
  cases b with
  | false => exact this
  | true => rw [h2 rfl]; exact this
theorem sd_assoc (h : SD K (tSeq ts (tSeq tu te')) env o) : SD K (tSeq (tSeq ts tu) te') env o := h
theorem sd_env {env2 : List Bd} (e : env = env2) (h : SD K ts env2 o) : SD K ts env o := e ▸ h
theorem sd_seqW {env2 : List Bd} (h1 : SD K ts env (.nx env')) (e : env' = env2) (h2 : SD K tu env2 o) : SD K (tSeq ts tu) env o := sd_seq h1 (e ▸ h2)
theorem sd_nextW {env2 : List Bd} (vs : List Nat) (hv : (vs.all fun v => !isMu env[v]?) = true) (e : wipeE env vs = env2) : SD K tNext env (.nx env2) := e ▸ sd_wipe vs hv sd_next
theorem sd_contW {env2 : List Bd} (vs : List Nat) (hv : (vs.all fun v => !isMu env[v]?) = true) (e : wipeE env vs = env2) : SD K tCont env (.ct env2) := by
  refine sd_wp vs hv ?_
  rw [e]
  exact sd_cont
theorem sd_wp' {env2 : List Bd} (vs : List Nat) (hv : (vs.all fun v => !isMu env[v]?) = true) (e : wipeE env vs = env2) (h : SD K ts env2 o) : SD K ts env o := sd_wp vs hv (e ▸ h)
/-- for, whose body may answer -/
theorem loop_foldR {α S R : Type} {B : D → List Bd → Out → Prop} {f : S → α → Option (S ⊕ R)} {en : α → D} {ev : S → List Bd} {fin : R → Out} (hf : ∀ r, (fin r).ret = true)
    (h1 : ∀ x s s1, f s x = some (.inl s1) → B (en x) (ev s) (.nx (ev s1)) ∨ B (en x) (ev s) (.ct (ev s1))) (h2 : ∀ x s r, f s x = some (.inr r) → B (en x) (ev s) (fin r)) :
    ∀ (xs : List α) s z, foldR f xs s = some z → Loop B (xs.map en) (ev s) (match z with | .inl s' => .nx (ev s') | .inr r => fin r)
  | [], s, z, q => by
    have q : some (Sum.inl s) = some z := q
    cases q; rfl
  | x :: xs, s, z, q => by
    obtain ⟨w, hw, q⟩ := Option.bind_eq_some_iff.mp q
    cases w with
    | inl s1 => exact .inl ⟨ev s1, h1 x s s1 hw, loop_foldR hf h1 h2 xs s1 z q⟩
    | inr r =>
      have q : some (Sum.inr r) = some z := q
      cases q
      exact .inr (.inr ⟨hf r, h2 x s r hw⟩)
/-- comprehensions -/
theorem cloopL {α β : Type} {B : D → List Bd → Option D → List Bd → Prop} {f : α → Option (Option β)} {en : α → D} {eb : β → D} (h : ∀ x r, f x = some r → B (en x) env (r.map eb) env) :
    ∀ (xs : List α) ys, compL f xs = some ys → CLoop B (xs.map en) env (ys.map eb) env
  | [], ys, q => by
    have q : some [] = some ys := q
    cases q; exact ⟨rfl, rfl⟩
  | x :: xs, ys, q => by
    obtain ⟨r, hr, q⟩ := Option.bind_eq_some_iff.mp q
    obtain ⟨zs, hz, q⟩ := Option.bind_eq_some_iff.mp q
    cases q
    refine ⟨r.map eb, env, zs.map eb, h x r hr, ?_, cloopL h xs zs hz⟩
    cases r <;> simp
theorem cloopS {α β S : Type} {B : D → List Bd → Option D → List Bd → Prop} {f : S → α → Option (Option β × S)} {en : α → D} {eb : β → D} {ev : S → List Bd} (h : ∀ x s r, f s x = some r → B (en x) (ev s) (r.1.map eb) (ev r.2)) :
    ∀ (xs : List α) s ys, compSL f xs s = some ys → CLoop B (xs.map en) (ev s) (ys.1.map eb) (ev ys.2)
  | [], s, ys, q => by
    have q : some ([], s) = some ys := q
    cases q; exact ⟨rfl, rfl⟩
  | x :: xs, s, ys, q => by
    obtain ⟨r, hr, q⟩ := Option.bind_eq_some_iff.mp q
    obtain ⟨zs, hz, q⟩ := Option.bind_eq_some_iff.mp q
    cases q
    refine ⟨r.1.map eb, ev r.2, zs.1.map eb, h x s r hr, ?_, cloopS h xs r.2 zs hz⟩
    cases r.1 <;> simp
theorem compO_of {α β : Type} {f : α → Option (Option β)} {xs : List α} {ys : List β} (h : compO f xs = some ys) : xs.length ≤ 100000 ∧ compL f xs = some ys := by
  unfold compO at h
  by_cases g : xs.length ≤ 100000
  · rw [if_pos g] at h; exact ⟨g, h⟩
  · rw [if_neg g] at h; cases h
theorem compS_of {α β S : Type} {f : S → α → Option (Option β × S)} {xs : List α} {s : S} {ys : List β × S} (h : compS f xs s = some ys) : xs.length ≤ 100000 ∧ compSL f xs s = some ys := by
  unfold compS at h
  by_cases g : xs.length ≤ 100000
  · rw [if_pos g] at h; exact ⟨g, h⟩
  · rw [if_neg g] at h; cases h
theorem ef_lcO {α β : Type} {f : α → Option (Option β)} {xs : List α} {ys : List β} {en : α → D} {eb : β → D} {vs : List Nat} {wi : TI} {g : TG} {tt : TT} (hs : compO f xs = some ys) (hl : l.lp = true) (hi : EvI K l true wi env env (xs.map en)) (hw : TgW g vs) (han : ∀ v ∈ vs, env[v]? = some .an)
    (h : ∀ x r, f x = some r → Turn K l true g tt te vs (en x) env (r.map eb) env) : EvF K true (tLc wi g tt te vs) env env (.lst (ys.map eb)) :=
  ef_lc hl hi hw han (by rw [List.length_map]; exact (compO_of hs).1) (cloopL h xs ys (compO_of hs).2)
theorem ef_lcS {α β S : Type} {f : S → α → Option (Option β × S)} {xs : List α} {s : S} {ys : List β × S} {en : α → D} {eb : β → D} {ev : S → List Bd} {vs : List Nat} {wi : TI} {g : TG} {tt : TT} (hs : compS f xs s = some ys) (hl : l.lp = true) (hi : EvI K l p wi env (ev s) (xs.map en)) (hw : TgW g vs) (han : ∀ v ∈ vs, (ev s)[v]? = some .an)
    (h : ∀ x s r, f s x = some r → Turn K l p g tt te vs (en x) (ev s) (r.1.map eb) (ev r.2)) : EvF K p (tLc wi g tt te vs) env (ev ys.2) (.lst (ys.1.map eb)) :=
  ef_lc hl hi hw han (by rw [List.length_map]; exact (compS_of hs).1) (cloopS h xs s ys (compS_of hs).2)
/-- a turn that keeps its item -/
theorem turn_yes {vs : List Nat} {g : TG} {tt : TT} {r : D} {envt env2 : List Bd} (hg : TgD K l g d env envt) (ht : EvB K p tt envt envt true) (he : EvD K .l2 p te envt env2 r) (hm1 : (vs.all fun v => !isMu envt[v]?) = true) (hm2 : (vs.all fun v => !isMu env2[v]?) = true) (e : wipeE env2 vs = env') (an : ∀ v ∈ vs, env'[v]? = some .an) : Turn K l p g tt te vs d env (some r) env' :=
  ⟨fun v hv => .inl (an v hv), envt, envt, hg, true, ht, hm1, fun _ => ⟨env2, r, he, hm2, rfl, e.symm⟩, fun z => by cases z⟩
theorem turn_no {vs : List Nat} {g : TG} {tt : TT} {envt : List Bd} (hg : TgD K l g d env envt) (ht : EvB K p tt envt envt false) (hm1 : (vs.all fun v => !isMu envt[v]?) = true) (e : wipeE envt vs = env') (an : ∀ v ∈ vs, env'[v]? = some .an) : Turn K l p g tt te vs d env none env' :=
  ⟨fun v hv => .inl (an v hv), envt, envt, hg, false, ht, hm1, (fun z => by cases z), fun _ => ⟨rfl, e.symm⟩⟩
theorem anN : ∀ v ∈ ([] : List Nat), env[v]? = some .an := fun v h => by cases h
theorem anC {v : Nat} {vs : List Nat} (h : env[v]? = some .an) (hs : ∀ v ∈ vs, env[v]? = some .an) : ∀ w ∈ v :: vs, env[w]? = some .an := fun w hw => by
  cases hw with
  | head => exact h
  | tail _ z => exact hs w z
/-- truth of a list -/
theorem eb_truL {ds : List D} (h : EvD K l p te env env' (.lst ds)) : EvB K p (fun σ H Q => te σ H fun x H' => ∃ k, TruV K x H' k ∧ Q k H') env env' (!ds.isEmpty) := fun X a0 H0 M ad σ H Q E k =>
  h X a0 H0 M ad σ H _ E fun v H' E' e' p' r => by
    obtain ⟨a, xs, rfl, h1, h2⟩ := r
    refine ⟨!xs.isEmpty, .inl ⟨xs, ex_l hid_all h1, rfl⟩, ?_⟩
    have e : xs.isEmpty = ds.isEmpty := by
      have := h2.length
      cases xs <;> cases ds <;> first | rfl | simp at this
    rw [e]
    exact k H' E' e' p'
/-- numbers -/
theorem rv_add {m n : Int} : RV K l l' (rI0 fun i j => .int (i + j)) (.int m) (.int n) (.int (m + n)) := rv_I0 fun _ => rfl
theorem rv_sub {m n : Int} : RV K l l' (rI0 fun i j => .int (i - j)) (.int m) (.int n) (.int (m - n)) := rv_I0 fun _ => rfl
theorem rv_lt {m n : Int} : RV K l l' (rI0 fun i j => .bl (decide (i < j))) (.int m) (.int n) (.bl (decide (m < n))) := rv_I0 fun _ => rfl
theorem rv_le {m n : Int} : RV K l l' (rI0 fun i j => .bl (decide (i ≤ j))) (.int m) (.int n) (.bl (decide (m ≤ n))) := rv_I0 fun _ => rfl
theorem rv_gt {m n : Int} : RV K l l' (rI0 fun i j => .bl (decide (i > j))) (.int m) (.int n) (.bl (decide (n < m))) := rv_I0 fun _ => rfl
theorem rv_ge {m n : Int} : RV K l l' (rI0 fun i j => .bl (decide (i ≥ j))) (.int m) (.int n) (.bl (decide (n ≤ m))) := rv_I0 fun _ => rfl
end
/-- the way a walk ends -/
def outZ {S R : Type} (ev : S → List Bd) (fin : R → Out) : S ⊕ R → Out
  | .inl s => .nx (ev s)
  | .inr r => fin r
theorem loop_foldZ {α S R : Type} {B : D → List Bd → Out → Prop} {f : S → α → Option (S ⊕ R)} {en : α → D} {ev : S → List Bd} {fin : R → Out} (hf : ∀ r, (fin r).ret = true)
    (h1 : ∀ x s z, f s x = some z → B (en x) (ev s) (outZ ev fin z)) : ∀ (xs : List α) s z, foldR f xs s = some z → Loop B (xs.map en) (ev s) (outZ ev fin z)
  | [], s, z, q => by
    have q : some (Sum.inl s) = some z := q
    cases q; rfl
  | x :: xs, s, z, q => by
    obtain ⟨w, hw, q⟩ := Option.bind_eq_some_iff.mp q
    cases w with
    | inl s1 => exact .inl ⟨ev s1, .inl (h1 x s _ hw), loop_foldZ hf h1 xs s1 z q⟩
    | inr r =>
      have q : some (Sum.inr r) = some z := q
      cases q
      exact .inr (.inr ⟨hf r, h1 x s _ hw⟩)
theorem loop_foldN {α S : Type} {B : D → List Bd → Out → Prop} {f : S → α → Option S} {en : α → D} {ev : S → List Bd} (h : ∀ x s s1, f s x = some s1 → B (en x) (ev s) (.nx (ev s1)))
    (xs : List α) (s s' : S) (q : xs.foldlM f s = some s') : Loop B (xs.map en) (ev s) (.nx (ev s')) := loop_fold (fun x s s1 z => .inl (h x s s1 z)) xs s s' q
theorem sd_seqZ {K : PySem.W.Frag} {S R : Type} {ev : S → List Bd} {fin : R → Out} {z : S ⊕ R} {ts tu : TS} {env : List Bd} {o : Out} (h : SD K ts env (outZ ev fin z)) (hf : ∀ r, (fin r).nxt = false) (h1 : ∀ s, z = .inl s → SD K tu (ev s) o) (h2 : ∀ r, z = .inr r → fin r = o) : SD K (tSeq ts tu) env o := by
  cases z with
  | inl s => exact sd_seq h (h1 s rfl)
  | inr r =>
    have e : fin r = o := h2 r rfl
    rw [← e]
    exact sd_out h (hf r)
/-- turns while a test holds -/
def whileC {S : Type} (c : S → Option Bool) (f : S → Option S) : Nat → S → Option S
  | 0, _ => none
  | n + 1, s => (c s).bind fun b => if b = true then (f s).bind fun s1 => whileC c f n s1 else some s
theorem wloopC {S : Type} {C : List Bd → List Bd → Bool → Prop} {B : List Bd → Out → Prop} {c : S → Option Bool} {f : S → Option S} {ev : S → List Bd}
    (hc : ∀ s b, c s = some b → C (ev s) (ev s) b) (hf : ∀ s s1, c s = some true → f s = some s1 → B (ev s) (.nx (ev s1))) :
    ∀ (n : Nat) s s', whileC c f n s = some s' → WLoop C B n (ev s) (.nx (ev s'))
  | 0, s, s', q => by cases q
  | n + 1, s, s', q => by
    obtain ⟨b, hb, q⟩ := Option.bind_eq_some_iff.mp q
    cases b with
    | true =>
      rw [if_pos rfl] at q
      obtain ⟨s1, h1, q⟩ := Option.bind_eq_some_iff.mp q
      exact ⟨ev s, true, hc s _ hb, (fun z => by cases z), fun _ => .inl ⟨ev s1, .inl (hf s s1 hb h1), wloopC hc hf n s1 s' q⟩⟩
    | false =>
      rw [if_neg Bool.false_ne_true] at q
      cases q
      exact ⟨ev s, false, hc s _ hb, fun _ => rfl, (fun z => by cases z)⟩
section
variable {K : PySem.W.Frag} {env env' env2 : List Bd} {l l' : Lv} {p : Bool} {te ta tb : TE} {ts tu : TS} {o : Out} {d d' : D} {tsA : TA}
theorem sd_endW (vs : List Nat) (h : SD K ts env (.nx env')) (hv : (vs.all fun v => !isMu env'[v]?) = true) (e : wipeE env' vs = env2) : SD K ts env (.nx env2) := e ▸ sd_wipe vs hv h
theorem ef_is (d' : D) (h : EvF K p te env env' d) (e : d = d') : EvF K p te env env' d' := e ▸ h
theorem ef_p (h : EvF K true te env env' d) : EvF K p te env env' d := fun X a0 H0 M ad σ H Q E k =>
  h X a0 H0 M ad σ H Q E fun a H1 H' h0 hs E' g e' p' => k a H1 H' h0 hs E' g e' (fun _ => p' rfl)
theorem ef_toF (h : EvF K p te env env' d) : EvF K false te env env' d := fun X a0 H0 M ad σ H Q E k =>
  h X a0 H0 M ad σ H Q E fun a H1 H' h0 hs E' g e' p' => k a H1 H' h0 hs E' g e' (fun z => by cases z)
theorem rv_neNilT {α : Type} {f : α → D} {xs : List α} {n : Nat} (h : ∀ x, Pl n (f x)) (hn : n ≤ 59) : RV K l l' (rNeD K) (.lst (xs.map f)) (.lst []) (.bl (!xs.isEmpty)) := by
  have := rv_neNil (K := K) (l := l) (l' := l') (pll_map h xs) hn
  rw [show (xs.map f).isEmpty = xs.isEmpty by cases xs <;> rfl] at this
  exact this
theorem rv_eqNilT {α : Type} {f : α → D} {xs : List α} {n : Nat} (h : ∀ x, Pl n (f x)) (hn : n ≤ 59) : RV K l l' (rEqD K) (.lst (xs.map f)) (.lst []) (.bl xs.isEmpty) := by
  have := rv_eqNil (K := K) (l := l) (l' := l') (pll_map h xs) hn
  rw [show (xs.map f).isEmpty = xs.isEmpty by cases xs <;> rfl] at this
  exact this
theorem eb_truLT {α : Type} {f : α → D} {xs : List α} (h : EvD K l p te env env' (.lst (xs.map f))) : EvB K p (fun σ H Q => te σ H fun x H' => ∃ k, TruV K x H' k ∧ Q k H') env env' (!xs.isEmpty) := by
  have := eb_truL h
  rw [show (xs.map f).isEmpty = xs.isEmpty by cases xs <;> rfl] at this
  exact this
theorem rv_in0 {n : Int} {ns : List Int} : RV K l l' (rIn K false) (.int n) (.lst (ns.map .int)) (.bl (decide (n ∈ ns))) := rv_inL (neg := false)
theorem rv_in1 {n : Int} {ns : List Int} : RV K l l' (rIn K true) (.int n) (.lst (ns.map .int)) (.bl (!decide (n ∈ ns))) := rv_inL (neg := true)
theorem rv_isNT {x : Option Int} : RV K l l' (fun x y H Q => y = .non ∧ Q (.bl (decide (x = .non))) H) (encO D.int x) .non (.bl x.isNone) := by
  have := rv_isN (K := K) (l := l) (l' := l') (d := encO D.int x)
  cases x <;> exact this
end
end Pw
/-! PwO: an own object that is only read from now on; small words of the printed readings. -/
namespace Pw
open PySem L2
section
variable {K : PySem.W.Frag} {X : Addr → Prop} {a0 : Addr} {H0 : Hp} {M : Msk} {ad : Nat → Addr} {σ : St} {H : Hp} {env : List Bd} {i : Nat} {d : D} {ts : TS} {o : Out}
def Msk.less (M : Msk) (a : Addr) : Msk := ⟨fun b => M.n b ∧ b ≠ a, fun b => M.m b ∧ b ≠ a, fun b h => ⟨M.le b h.1, h.2⟩⟩
theorem ER.freeze (E : ER K X a0 H0 M ad σ H env) (h : env[i]? = some (.ow d)) : ER K X a0 H0 (M.less (ad i)) ad σ H (env.set i (.im d)) := by
  have hm : isMu env[i]? = false := by rw [h]; rfl
  have g1 : Ex (hid (fun a => M.m a ∨ X a) H) (hid (fun a => (M.less (ad i)).m a ∨ X a) H) := hid_le fun a z => z.imp (·.1) id
  refine ⟨by rw [List.length_set]; exact E.len, E.ex, fun a ha => ?_, fun a ha => E.min a ha.1, fun a ha => E.mout a ha.1, fun j e q => ?_, fun j e q => ?_, fun j e q => ?_, fun j e q => ?_, fun j k e f h1 h2 => ?_, fun j k e h1 h2 => ?_, fun j k h1 h2 => E.mu1 j k (set_mu rfl h1).2 (set_mu rfl h2).2⟩
  · rcases E.xin a ha with q | ⟨q, j, hj⟩
    · exact .inl q
    · exact .inr ⟨q, j, mu_set hm hj⟩
  · rcases set_cases q with ⟨z, y, _⟩ | ⟨z, q⟩
    · cases y
      subst z
      obtain ⟨_, h2, h3⟩ := E.ow _ _ h
      exact ⟨_, h2, h3.rp g1 (hid_out fun z => z.elim (fun y => y.2 rfl) fun y => E.owX h y)⟩
    · obtain ⟨w, h1, h2⟩ := E.im j e q
      exact ⟨w, h1, Rp.mono g1 _ _ h2⟩
  · rcases set_cases q with ⟨_, y, _⟩ | ⟨z, q⟩
    · cases y
    · obtain ⟨w, h1, h2⟩ := E.rd j e q
      exact ⟨w, h1, Rp.mono (hid_le fun a z => z.1) _ _ h2⟩
  · rcases set_cases q with ⟨_, y, _⟩ | ⟨z, q⟩
    · cases y
    · obtain ⟨h1, h2, h3⟩ := E.ow j e q
      exact ⟨⟨h1, fun y => z (E.inj j i e d q h y)⟩, h2, h3.mono g1 rfl⟩
  · rcases set_cases q with ⟨_, y, _⟩ | ⟨z, q⟩
    · cases y
    · obtain ⟨h1, h2, h3⟩ := E.mu j e q
      exact ⟨⟨h1, fun y => E.nmu i j d h (by rw [q]; rfl) y.symm⟩, h2, h3.mono g1 rfl⟩
  · rcases set_cases h1 with ⟨_, y, _⟩ | ⟨z, h1⟩
    · cases y
    · rcases set_cases h2 with ⟨_, y, _⟩ | ⟨z, h2⟩
      · cases y
      · exact E.inj j k e f h1 h2
  · rcases set_cases h1 with ⟨_, y, _⟩ | ⟨z, h1⟩
    · cases y
    · exact E.nmu j k e h1 (set_mu rfl h2).2
theorem sd_freeze (h : env[i]? = some (.ow d)) (k : SD K ts (env.set i (.im d)) o) : SD K ts env o := fun X a0 H0 M ad σ H Dn E q => k X a0 H0 _ ad σ H Dn (E.freeze h) q
theorem gd {b : Bool} {u : Unit} (h : (if b = true then some () else none) = some u) : b = true := by
  cases b with
  | true => rfl
  | false => cases h
theorem gs_nil {vs : List V} {τ : St} {H : Hp} {R : St → Hp → Prop} (h : gNil vs τ H R) : vs.length = 0 := by rw [h.1]; rfl
theorem gs_cons {g : TG} {gs : TGs} {n : Nat} (hs : ∀ vs τ H (R : St → Hp → Prop), gs vs τ H R → vs.length = n) {vs : List V} {τ : St} {H : Hp} {R : St → Hp → Prop} (hm : ∀ v σ H (Q : St → Hp → Prop), g v σ H Q → ∃ σ' H', Q σ' H') (h : gCons g gs vs τ H R) : vs.length = n + 1 := by
  obtain ⟨v, r, rfl, q⟩ := h
  obtain ⟨σ', H', q⟩ := hm _ _ _ _ q
  rw [List.length_cons, hs _ _ _ _ q]
theorem gn_ex (i : Nat) : ∀ v σ H (Q : St → Hp → Prop), gName i v σ H Q → ∃ σ' H', Q σ' H' := fun v σ H Q q => ⟨_, _, q⟩
end
end Pw
/-! PwP: rules whose fragment is named. -/
namespace Pw
open PySem L2
section
variable {X : Cx} {K : PySem.W.Frag}
theorem ixTK (h : X.K = K) : IxR X (rIxT K) := h ▸ ix_tup
theorem ixLK (h : X.K = K) : IxR X (rIxL K) := h ▸ ix_list
theorem inK (h : X.K = K) : OpR X (compareOp .In) (rIn K false) := h ▸ op_in_seq
theorem notInK (h : X.K = K) : OpR X (compareOp .NotIn) (rIn K true) := h ▸ op_notIn_seq
theorem eqDK (h : X.K = K) (hu : X.A.units + 64 < cLine) : OpR X (compareOp .Eq) (rEqD K) := h ▸ op_eqD hu
theorem neDK (h : X.K = K) (hu : X.A.units + 64 < cLine) : OpR X (compareOp .NotEq) (rNeD K) := h ▸ op_neD hu
theorem gtDK (h : X.K = K) (hu : X.A.units + 64 < cLine) : OpR X (compareOp .Gt) (rGtD K) := h ▸ op_gtD hu
theorem ltDK (h : X.K = K) (hu : X.A.units + 64 < cLine) : OpR X (compareOp .Lt) (rLtD K) := h ▸ op_ltD hu
theorem repTK (h : X.K = K) : OpR X (binaryOp .Mult) (fun x y H Q => rRepT1 K x y H Q ∨ rRepT K x y H Q) := h ▸ op_repT1.or op_repT
theorem catLK (h : X.K = K) : OpR X (binaryOp .Add) (rCatL K) := h ▸ op_catL
theorem lenK (h : X.K = K) : CallR X (.builtin "len") (fun xs H Q => ∃ p ys, xs = [V.ref p] ∧ (SqL K H p ys ∨ SqT K H p ys) ∧ Q (.int ys.length) H) := h ▸ call_len_seq
theorem tupK (h : X.K = K) : CallR X (.type "tuple") (fun xs H Q => ∃ p ys, xs = [V.ref p] ∧ ((SqL K H p ys ∧ ∀ l, H l = none → Q (.ref l) (upd H l (.tup ys))) ∨ (SqT K H p ys ∧ Q (.ref p) H))) := h ▸ call_tuple_of
theorem isiK (h : X.K = K) : CallR X (.builtin "isinstance") (rIsi K) := h ▸ call_isi
theorem maxDK (h : X.K = K) (hc : X.calm = true) (hu : X.A.units + 64 < cLine) : CallR X (.builtin "max") (rMaxD K) := h ▸ cr_maxDt hc hu
theorem minDK (h : X.K = K) (hc : X.calm = true) (hu : X.A.units + 64 < cLine) : CallR X (.builtin "min") (rMinD K) := h ▸ cr_minDt hc hu
theorem sortDK (h : X.K = K) (hu : X.A.units + 64 < cLine) : CallR X (.builtin "sorted") (rSortD K) := h ▸ cr_sortDt hu
theorem slTK (h : X.K = K) : SlR X (rSlT K) := h ▸ sl_tup
theorem pgTupK {pos : Pos} {es : List Expr} {k : Nat} {t : TGs} {n : Nat} (h : X.K = K) (hc : X.calm = true) (g : PGs X es t) (h1 : (assignEach es X.env).length = n) (h2 : List.findIdx? (fun x => x.fst) (assignEach es X.env) = none) : PG X (Expr.Tuple es k pos) (gTup K n t) := h ▸ pg_tup hc g h1 h2
theorem ef_lcS2 {K : PySem.W.Frag} {env : List Bd} {l : Lv} {p : Bool} {te : TE} {α β S : Type} {f : S → α → Option (Option β × S)} {xs : List α} {s : S} {ys : List β × S} {en : α → D} {eb : β → D} {ev : S → List Bd} {vs : List Nat} {wi : TI} {g : TG} {tt : TT} (hs : compS f xs s = some ys) (hl : l.lp = true) (hi : EvI K l p wi env (ev s) (xs.map en)) (hw : TgW g vs) (han : ∀ v ∈ vs, (ev s)[v]? = some .an)
    (h : ∀ x s o s', f s x = some (o, s') → Turn K l p g tt te vs (en x) (ev s) (o.map eb) (ev s')) : EvF K p (tLc wi g tt te vs) env (ev ys.2) (.lst (ys.1.map eb)) :=
  ef_lcS hs hl hi hw han fun x s r => h x s r.1 r.2
theorem ef_ssetK {K : PySem.W.Frag} {env env' : List Bd} {p : Bool} {tsA : TA} {w : World} {Xc : Cx} {ns ms : List Int} (hs : ssetO ns = some ms) (h : EvA K .l2 p tsA env env' [.lst (ns.map .int)]) (hK : Xc.K = K) (hw : Xc.w = w) : EvF K p (tCB (rSortedSet w) (tCons (tCB (rSetLI Xc) tsA) tNil)) env env' (.lst (ms.map .int)) := by
  subst hK; subst hw
  exact ef_ssetT hs h
end
end Pw
/-! PwQ: tuples joined and cut, data compared, walks that are left or gone on with, items stored. -/
namespace Pw
open PySem L2 PySem.Spec PyProof.Rows
/-! ### t + u, whatever they hold -/
def rCatU (K : PySem.W.Frag) : R2 := fun x y H Q => ∃ a b xs ys, x = .ref a ∧ y = .ref b ∧ SqT K H a xs ∧ SqT K H b ys ∧ xs.length + ys.length ≤ sizeLine ∧
  (xs = [] → Q (.ref b) H) ∧ (xs ≠ [] → ys = [] → Q (.ref a) H) ∧ (xs ≠ [] → ys ≠ [] → ∀ p, H p = none → Q (.ref p) (upd H p (.tup (xs ++ ys))))
theorem op_catU {X : Cx} : OpR X (binaryOp .Add) (rCatU X.K) := by
  intro pins s σ H x y v u Q I rx ry h
  obtain ⟨a, b, xs, ys, rfl, rfl, ha, hb, hz, q0, q1, q2⟩ := h
  by_cases hx : xs = []
  · cases rx
    cases ry
    obtain ⟨its, r1, p1, _⟩ := I.tuple ha
    obtain ⟨its2, r2, p2, _⟩ := I.tuple hb
    obtain ⟨⟨cls, dd, data, sl⟩, ho, hc, n, hd⟩ := id p1
    obtain ⟨⟨cls2, dd2, data2, sl2⟩, ho2, hc2, n2, hd2⟩ := id p2
    simp only at hc hd hc2 hd2
    subst hc hd hc2 hd2
    exact concat_meets ⟨_, ho, rfl⟩ ⟨_, ho2, rfl⟩ noFill_tuple_add seq_tuple_add PySem.F.slot_tuple_add PySem.F.entry_tuple_add (PySem.F.args_tuple_add_2 _ _)
      (tuple_addW0 a b its.toArray its2.toArray n n2 dd dd2 sl sl2 (by rw [r1.nil_iff.mpr hx]; rfl)) ⟨ho, ho2, ⟨.ref b, H, I, rfl, q0 hx⟩⟩
  · exact op_catT pins s σ H (.ref a) (.ref b) v u Q I rx ry ⟨a, b, xs, ys, rfl, rfl, ha, hb, hx, hz, q1 hx, q2 hx⟩
section
variable {K : PySem.W.Frag} {X : Addr → Prop} {a0 : Addr} {H0 : Hp} {M : Msk} {ad : Nat → Addr} {σ : L2.St} {H H' H1 : Hp} {env env' env'' : List Bd} {l l' : Lv} {p q : Bool} {d d' e : D} {ta tb te ti tx : TE} {t u : TT} {i j : Nat} {b c : Bool} {ts tu : TS} {o : Out} {Dn : Ends} {tsA : TA}
theorem ev_catU {ds es : List D} (hl : (l.st || q) = true) (h1 : EvD K l p ta env env' (.tup ds)) (h2 : EvD K l q tb env' env'' (.tup es)) (hn : ds.length + es.length ≤ 100000) : EvD K l (p && q) (tOp (rCatU K) ta tb) env env'' (.tup (ds ++ es)) := fun X a0 H0 M ad σ H Q E k =>
  h1 X a0 H0 M ad σ H _ E fun x H1 E1 e1 p1 r1 => h2 X a0 H0 M ad σ H1 _ E1 fun y H2 E2 e2 p2 r2 => by
    obtain ⟨a, xs, rfl, g1, g2⟩ := Rp.mono (keepL hl e2 p2) _ _ r1
    obtain ⟨b, ys, rfl, g3, g4⟩ := r2
    have e12 := seqE e1 e2
    have p12 := seqP p1 p2
    refine ⟨a, b, xs, ys, rfl, rfl, ex_s hid_all g1, ex_s hid_all g3, by rw [g2.length, g4.length]; exact Nat.le_trans hn (by decide), fun z => ?_, fun z1 z2 => ?_, fun z1 z2 c hc => ?_⟩
    · have : ds = [] := List.eq_nil_of_length_eq_zero (by rw [← g2.length, z]; rfl)
      subst this
      exact k _ H2 E2 e12 p12 ⟨b, ys, rfl, g3, g4⟩
    · have : es = [] := List.eq_nil_of_length_eq_zero (by rw [← g4.length, z2]; rfl)
      subst this
      rw [List.append_nil] at k
      exact k _ H2 E2 e12 p12 ⟨a, xs, rfl, g1, g2⟩
    · have g : Ex H2 (upd H2 c (.tup (xs ++ ys))) := Ex.new hc
      refine k _ _ (E2.grow g) (e12.trans (hid_ex g)) (fun z => (p12 z).trans g) ⟨c, _, rfl, ?_, RpL.mono (hid_ex g) _ _ (RpL.append g2 g4)⟩
      rw [hid_out (fresh_mk E2 hc), upd_same]
theorem ev_catUT {α : Type} {f : α → D} {xs ys zs : List α} (hs : catO xs ys = some zs) (h1 : EvD K l true ta env env (.tup (xs.map f))) (h2 : EvD K l true tb env env (.tup (ys.map f))) : EvD K l true (tOp (rCatU K) ta tb) env env (.tup (zs.map f)) := by
  unfold catO at hs
  by_cases hn : xs.length + ys.length ≤ 100000
  · rw [if_pos hn] at hs
    cases hs
    rw [List.map_append]
    exact ev_catU (p := true) (q := true) (Bool.or_true _) h1 h2 (by simpa using hn)
  · rw [if_neg hn] at hs; cases hs
theorem catUK {X : Cx} (h : X.K = K) : OpR X (binaryOp .Add) (rCatU K) := h ▸ op_catU
/-! ### t[:k], t[k:], not the whole -/
def takeO {α : Type} (xs : List α) (k : Int) : Option (List α) := if 0 ≤ k ∧ k < xs.length then some (xs.take k.toNat) else none
def dropO {α : Type} (xs : List α) (k : Int) : Option (List α) := if 1 ≤ k ∧ 1 ≤ xs.length then some (xs.drop k.toNat) else none
theorem ev_takeT {α : Type} {f : α → D} {xs ys : List α} {k : Int} (hs : takeO xs k = some ys) (h : EvD K l p te env env' (.tup (xs.map f))) (h2 : EvD K l true ti env' env' (.int k)) : EvD K l p (tSl (rSlT K) te tNoPart (tPart ti)) env env' (.tup (ys.map f)) := by
  unfold takeO at hs
  by_cases g : 0 ≤ k ∧ k < xs.length
  · rw [if_pos g] at hs
    cases hs
    obtain ⟨n, hn⟩ := Int.eq_ofNat_of_zero_le g.1
    subst hn
    have := ev_slT (m := n) h h2 (by have := g.2; simp; omega)
    rw [← List.map_take] at this
    exact this
  · rw [if_neg g] at hs; cases hs
theorem ev_dropT {α : Type} {f : α → D} {xs ys : List α} {k : Int} (hs : dropO xs k = some ys) (h : EvD K l p te env env' (.tup (xs.map f))) (h2 : EvD K l true ti env' env' (.int k)) : EvD K l p (tSl (rSlT K) te (tPart ti) tNoPart) env env' (.tup (ys.map f)) := fun X a0 H0 M ad σ H Q E kk => by
  unfold dropO at hs
  by_cases g : 1 ≤ k ∧ 1 ≤ xs.length
  · rw [if_pos g] at hs
    cases hs
    refine h X a0 H0 M ad σ H _ E fun x H1 E1 e1 p1 r1 => h2 X a0 H0 M ad σ H1 _ E1 fun y H2 E2 e2 p2 r2 => ?_
    obtain ⟨a, vs, rfl, h3, h4⟩ := r1
    have hl : vs.length = xs.length := by rw [h4.length, List.length_map]
    have e0 : HT.sIx vs.length 0 (some k) = min k.toNat vs.length := by
      unfold HT.sIx
      show (if k < 0 then _ else _) = _
      rw [if_neg (by omega)]
    have ec : cutV vs (some k) none = vs.drop k.toNat := by
      unfold cutV
      rw [HT.sIx_none, e0]
      by_cases c : k.toNat ≤ vs.length
      · rw [Nat.min_eq_left c]
        exact List.take_of_length_le (by rw [List.length_drop]; omega)
      · rw [Nat.min_eq_right (by omega), List.drop_eq_nil_of_le (as := vs) (i := k.toNat) (by omega), List.drop_length, List.take_nil]
    refine ⟨_, r2, a, vs, rfl, ex_s (hid_all.trans (p2 rfl)) h3, fun z => ?_, fun c hc => ?_⟩
    · have := z.1
      rw [e0] at this
      omega
    · rw [ec]
      have g : Ex H2 (upd H2 c (.tup (vs.drop k.toNat))) := Ex.new hc
      refine kk _ _ (E2.grow g) ((e1.trans e2).trans (hid_ex g)) (fun z => ((p1 z).trans (p2 rfl)).trans g) ⟨c, vs.drop k.toNat, rfl, ?_, ?_⟩
      · rw [hid_out (fresh_mk E2 hc), upd_same]
      · rw [List.map_drop]
        exact RpL.mono ((hid_ex (p2 rfl)).trans (hid_ex g)) _ _ (h4.drop k.toNat)
  · rw [if_neg g] at hs; cases hs
/-! ### data compared: equal when the values are -/
def Eqv {α : Type} (n : Nat) (f : α → D) : Prop := ∃ pd : α → PyData, (∀ x K H v, Rp K H (f x) v → Dp K H v (pd x)) ∧ (∀ x, (pd x).canLay0 = true ∧ (pd x).depth ≤ n) ∧ ∀ x y, PyData.eqv (pd x) (pd y) = true ↔ x = y
def EqvL {α : Type} (n : Nat) (f : α → List D) : Prop := ∃ pd : α → List PyData, (∀ x K H vs, RpL K H (f x) vs → DpAll K H vs (pd x)) ∧ (∀ x, PyData.canLayAll0 (pd x) = true ∧ PyData.depthAll (pd x) ≤ n) ∧ ∀ x y, PyData.eqvAll (pd x) (pd y) = true ↔ x = y
theorem eqv_int : Eqv 3 D.int := ⟨.int, fun x K H v h => by have h : v = V.int x := h; subst h; exact .int x, fun x => ⟨rfl, by simp [PyData.depth]⟩, fun x y => by simp [PyData.eqv]⟩
theorem eqv_bl : Eqv 3 D.bl := ⟨.bool, fun x K H v h => by have h : v = V.bl x := h; subst h; exact .bl x, fun x => ⟨rfl, by simp [PyData.depth]⟩, fun x y => by cases x <;> cases y <;> simp [PyData.eqv]⟩
theorem eqv_up {α : Type} {n m : Nat} {f : α → D} (h : n ≤ m) : Eqv n f → Eqv m f := fun ⟨pd, h1, h2, h3⟩ => ⟨pd, h1, fun x => ⟨(h2 x).1, Nat.le_trans (h2 x).2 h⟩, h3⟩
theorem eqv_optI : Eqv 3 (encO D.int) := ⟨fun o => match o with | none => .none | some i => .int i, fun x K H v h => by
    cases x with
    | none => have h : v = V.non := h; subst h; exact .non
    | some i => have h : v = V.int i := h; subst h; exact .int i,
  fun x => by cases x <;> exact ⟨rfl, by simp [PyData.depth]⟩, fun x y => by cases x <;> cases y <;> simp [PyData.eqv]⟩
theorem eql_one {α : Type} {n : Nat} {f : α → D} : Eqv n f → EqvL n fun x => [f x] := fun ⟨pd, h1, h2, h3⟩ =>
  ⟨fun x => [pd x], fun x K H vs h => by obtain ⟨v, r, e, q1, q2⟩ := h; subst e; have q2 : r = [] := q2; subst q2; exact .cons (h1 x K H v q1) .nil,
    fun x => ⟨by rw [PyData.canLayAll0, (h2 x).1]; rfl, by have := (h2 x).2; simp only [PyData.depthAll]; omega⟩, fun x y => by simp [PyData.eqvAll, h3 x y]⟩
theorem eql_cons {α β : Type} {n : Nat} {f : α → D} {g : β → List D} : Eqv n f → EqvL n g → EqvL n fun x : α × β => f x.1 :: g x.2 := fun ⟨pd, h1, h2, h3⟩ ⟨ps, g1, g2, g3⟩ =>
  ⟨fun x => pd x.1 :: ps x.2, fun x K H vs h => by obtain ⟨v, r, e, q1, q2⟩ := h; subst e; exact .cons (h1 x.1 K H v q1) (g1 x.2 K H r q2),
    fun x => ⟨by rw [PyData.canLayAll0, (h2 x.1).1, (g2 x.2).1]; rfl, by have := (h2 x.1).2; have := (g2 x.2).2; simp only [PyData.depthAll]; omega⟩,
    fun x y => by simp only [PyData.eqvAll, Bool.and_eq_true, h3, g3]; exact ⟨fun z => Prod.ext z.1 z.2, fun z => by rw [z]; exact ⟨rfl, rfl⟩⟩⟩
theorem eqv_map {α : Type} {n : Nat} {f : α → D} : Eqv n f → EqvL n fun xs : List α => xs.map f := fun ⟨pd, h1, h2, h3⟩ =>
  ⟨fun xs => xs.map pd, fun xs K H => by
      induction xs with
      | nil => intro vs h; have h : vs = [] := h; subst h; exact .nil
      | cons x xs ih => intro vs h; obtain ⟨v, r, e, q1, q2⟩ := h; subst e; exact .cons (h1 x K H v q1) (ih r q2),
    fun xs => by
      induction xs with
      | nil => exact ⟨rfl, by simp [PyData.depthAll]⟩
      | cons x xs ih =>
        have ih : PyData.canLayAll0 (xs.map pd) = true ∧ PyData.depthAll (xs.map pd) ≤ n := ih
        show PyData.canLayAll0 (pd x :: xs.map pd) = true ∧ PyData.depthAll (pd x :: xs.map pd) ≤ n
        exact ⟨by rw [PyData.canLayAll0, (h2 x).1, ih.1]; rfl, by have := (h2 x).2; have := ih.2; simp only [PyData.depthAll]; omega⟩,
    fun xs => by
      induction xs with
      | nil => intro ys; cases ys <;> simp [PyData.eqvAll]
      | cons x xs ih => intro ys; cases ys <;> simp [PyData.eqvAll, h3, ih]⟩
theorem eqv_tup {α : Type} {n : Nat} {f : α → List D} : EqvL n f → Eqv (n + 1) fun x => D.tup (f x) := fun ⟨ps, g1, g2, g3⟩ =>
  ⟨fun x => .tuple (ps x), fun x K H v h => by obtain ⟨a, xs, e, q1, q2⟩ := h; subst e; exact .tup (SqT.of q1) (g1 x K H xs q2), fun x => ⟨(g2 x).1, by have := (g2 x).2; simp only [PyData.depth]; omega⟩, fun x y => by simp only [PyData.eqv]; exact g3 x y⟩
theorem eqv_lst {α : Type} {n : Nat} {f : α → List D} : EqvL n f → Eqv (n + 1) fun x => D.lst (f x) := fun ⟨ps, g1, g2, g3⟩ =>
  ⟨fun x => .list (ps x), fun x K H v h => by obtain ⟨a, xs, e, q1, q2⟩ := h; subst e; exact .lst q1 (g1 x K H xs q2), fun x => ⟨(g2 x).1, by have := (g2 x).2; simp only [PyData.depth]; omega⟩, fun x y => by simp only [PyData.eqv]; exact g3 x y⟩
theorem rv_eqV {α : Type} [DecidableEq α] {f : α → D} {n : Nat} {x y : α} (h : Eqv n f) (hn : n ≤ 59) : RV K l l' (rEqD K) (f x) (f y) (.bl (decide (x = y))) := fun X a0 H0 M ad σ H env v w Q E rx ry k => by
  obtain ⟨pd, h1, h2, h3⟩ := h
  refine ⟨pd x, pd y, DpM hid_all (h1 x _ _ _ rx), DpM hid_all (h1 y _ _ _ ry), shaped_of (h2 x).1 (h2 x).2 (by omega), shaped_of (h2 y).1 (h2 y).2 (by omega), ?_⟩
  rw [show PyData.eqv (pd x) (pd y) = decide (x = y) by rw [Bool.eq_iff_iff, h3, decide_eq_true_iff]]
  exact k _ H E (Ex.refl _) rfl
theorem rv_neV {α : Type} [DecidableEq α] {f : α → D} {n : Nat} {x y : α} (h : Eqv n f) (hn : n ≤ 59) : RV K l l' (rNeD K) (f x) (f y) (.bl (!decide (x = y))) := fun X a0 H0 M ad σ H env v w Q E rx ry k => by
  obtain ⟨pd, h1, h2, h3⟩ := h
  refine ⟨pd x, pd y, DpM hid_all (h1 x _ _ _ rx), DpM hid_all (h1 y _ _ _ ry), shaped_of (h2 x).1 (h2 x).2 (by omega), shaped_of (h2 y).1 (h2 y).2 (by omega), ?_⟩
  rw [show PyData.eqv (pd x) (pd y) = decide (x = y) by rw [Bool.eq_iff_iff, h3, decide_eq_true_iff]]
  exact k _ H E (Ex.refl _) rfl
/-! ### max, min of two -/
theorem rc_max2 {m n : Int} : RC K l l' (fun xs H Q => ∃ i j, xs = [.int i, .int j] ∧ Q (.int (if j > i then j else i)) H) [.int m, .int n] (.int (if n > m then n else m)) := fun X a0 H0 M ad σ H env xs Q E r k => by
  obtain ⟨v, r1, e, q1, r2⟩ := r
  obtain ⟨w, r3, e2, q2, q3⟩ := r2
  subst e; subst e2
  have q1 : v = V.int m := q1
  have q2 : w = V.int n := q2
  have q3 : r3 = [] := q3
  subst q1; subst q2; subst q3
  exact ⟨m, n, rfl, k _ H E (Ex.refl _) rfl⟩
theorem rc_min2 {m n : Int} : RC K l l' (fun xs H Q => ∃ i j, xs = [.int i, .int j] ∧ Q (.int (if j < i then j else i)) H) [.int m, .int n] (.int (if n < m then n else m)) := fun X a0 H0 M ad σ H env xs Q E r k => by
  obtain ⟨v, r1, e, q1, r2⟩ := r
  obtain ⟨w, r3, e2, q2, q3⟩ := r2
  subst e; subst e2
  have q1 : v = V.int m := q1
  have q2 : w = V.int n := q2
  have q3 : r3 = [] := q3
  subst q1; subst q2; subst q3
  exact ⟨m, n, rfl, k _ H E (Ex.refl _) rfl⟩
end
/-! ### walks that are left, or gone on with -/
inductive Lp (S R : Type) | nx (s : S) | ct (s : S) | bk (s : S) | rt (r : R)
def foldP {α S R : Type} (f : S → α → Option (Lp S R)) : List α → S → Option (S ⊕ R)
  | [], s => some (.inl s)
  | x :: xs, s => (f s x).bind fun r => match r with
    | .nx s1 => foldP f xs s1
    | .ct s1 => foldP f xs s1
    | .bk s1 => some (.inl s1)
    | .rt r => some (.inr r)
def outP {S R : Type} (ev : S → List Bd) (fin : R → Out) : Lp S R → Out
  | .nx s => .nx (ev s)
  | .ct s => .ct (ev s)
  | .bk s => .bk (ev s)
  | .rt r => fin r
theorem loop_foldP {α S R : Type} {B : D → List Bd → Out → Prop} {f : S → α → Option (Lp S R)} {en : α → D} {ev : S → List Bd} {fin : R → Out} (hf : ∀ r, (fin r).ret = true)
    (h1 : ∀ x s z, f s x = some z → B (en x) (ev s) (outP ev fin z)) : ∀ (xs : List α) s z, foldP f xs s = some z → Loop B (xs.map en) (ev s) (outZ ev fin z)
  | [], s, z, q => by
    have q : some (Sum.inl s) = some z := q
    cases q; rfl
  | x :: xs, s, z, q => by
    obtain ⟨w, hw, q⟩ := Option.bind_eq_some_iff.mp q
    have hb := h1 x s _ hw
    cases w with
    | nx s1 => exact .inl ⟨ev s1, .inl hb, loop_foldP hf h1 xs s1 z q⟩
    | ct s1 => exact .inl ⟨ev s1, .inr hb, loop_foldP hf h1 xs s1 z q⟩
    | bk s1 =>
      have q : some (Sum.inl s1) = some z := q
      cases q
      exact .inr (.inl ⟨ev s1, hb, rfl⟩)
    | rt r =>
      have q : some (Sum.inr r) = some z := q
      cases q
      exact .inr (.inr ⟨hf r, hb⟩)
def whileP {S R : Type} (c : S → Option Bool) (f : S → Option (Lp S R)) : Nat → S → Option (S ⊕ R)
  | 0, _ => none
  | n + 1, s => (c s).bind fun b => if b = true then (f s).bind fun r => (match r with
    | .nx s1 => whileP c f n s1
    | .ct s1 => whileP c f n s1
    | .bk s1 => some (.inl s1)
    | .rt r => some (.inr r)) else some (.inl s)
theorem wloopP {S R : Type} {C : List Bd → List Bd → Bool → Prop} {B : List Bd → Out → Prop} {c : S → Option Bool} {f : S → Option (Lp S R)} {ev : S → List Bd} {fin : R → Out} (hr : ∀ r, (fin r).ret = true)
    (hc : ∀ s b, c s = some b → C (ev s) (ev s) b) (hf : ∀ s z, c s = some true → f s = some z → B (ev s) (outP ev fin z)) :
    ∀ (n : Nat) s z, whileP c f n s = some z → WLoop C B n (ev s) (outZ ev fin z)
  | 0, s, z, q => by cases q
  | n + 1, s, z, q => by
    obtain ⟨b, hb, q⟩ := Option.bind_eq_some_iff.mp q
    cases b with
    | true =>
      rw [if_pos rfl] at q
      obtain ⟨w, h1, q⟩ := Option.bind_eq_some_iff.mp q
      have hB := hf s w hb h1
      refine ⟨ev s, true, hc s _ hb, (fun z => by cases z), fun _ => ?_⟩
      cases w with
      | nx s1 => exact .inl ⟨ev s1, .inl hB, wloopP hr hc hf n s1 z q⟩
      | ct s1 => exact .inl ⟨ev s1, .inr hB, wloopP hr hc hf n s1 z q⟩
      | bk s1 =>
        have q : some (Sum.inl s1) = some z := q
        cases q
        exact .inr (.inl ⟨ev s1, hB, rfl⟩)
      | rt r =>
        have q : some (Sum.inr r) = some z := q
        cases q
        exact .inr (.inr ⟨hr r, hB⟩)
    | false =>
      rw [if_neg Bool.false_ne_true] at q
      cases q
      exact ⟨ev s, false, hc s _ hb, fun _ => rfl, (fun z => by cases z)⟩
section
variable {K : PySem.W.Frag} {env env' env2 : List Bd} {ts : TS}
theorem sd_contE (vs : List Nat) (hv : (vs.all fun v => !isMu env[v]?) = true) (e : wipeE env vs = env2) : SD K tCont env (.ct env2) := sd_contW vs hv e
theorem sd_breakE (vs : List Nat) (hv : (vs.all fun v => !isMu env[v]?) = true) (e : wipeE env vs = env2) : SD K tBreak env (.bk env2) := by
  refine sd_wp vs hv ?_
  rw [e]
  exact sd_break
end
end Pw
/-! PwR: a tuple made zero times; truth values compared; items of own lists stored. -/
namespace Pw
open PySem L2 PySem.Spec PyProof.Rows
open AutoSeq1 (wpAny_loadPart') in
theorem tup_mul_zero (l : Addr) (items : Array Value) (n : Nat) (dd : Option Addr) (sl : Array (Option Value)) (u : Tok) (hi : items.isEmpty = false) :
    Meets (Builtin.«tuple.__mul__» ⟨[.ref l, .int 0 u], []⟩) (fun _ R s => s.heap.get? l = some { cls := .type "tuple", dict := dd, data := .seq items n, slots := sl } ∧ R (.ok (.ret (Value.ref s.heap.objs.size))) { s with heap := s.heap.push { cls := Value.type "tuple", data := Data.seq #[] }, toks := s.toks }) :=
  .of_wp fun prog w A R s h => by
    obtain ⟨hp, g, d, tk, os⟩ := s
    obtain ⟨hl, h⟩ := h
    have f1 := AutoSeq1.idx_int
    have c1 : (items.isEmpty || (0 : Int) == 1) = false := by rw [hi]; rfl
    wp_walk using wpAny_loadPart' hl
    repeat (first
      | (refine wpAny_ite_false (decide_eq_false (by rw [c1]; exact Bool.false_ne_true)) ?_; wp_walk using wpAny_loadPart' hl)
      | (refine wpAny_ite_false (by decide) ?_; wp_walk using wpAny_loadPart' hl)
      | (refine wpAny_ite_true (by simp) ?_; wp_walk using wpAny_loadPart' hl))
    exact ⟨_, rfl, h⟩
def rRepT0 (K : PySem.W.Frag) : R2 := fun x y H Q => ∃ l xs, x = .ref l ∧ y = .int 0 ∧ SqT K H l xs ∧ xs ≠ [] ∧ ∀ p, H p = none → Q (.ref p) (upd H p (.tup []))
theorem op_repT0 {X : Cx} : OpR X (binaryOp .Mult) (rRepT0 X.K) := by
  intro pins s σ H x y v u Q I rx ry h
  obtain ⟨l, xs, rfl, rfl, hT, hne, q⟩ := h
  cases rx
  obtain ⟨t, rfl⟩ := ry
  obtain ⟨its, r, ⟨⟨cls, dd, data, sl⟩, ho, hc, n, hd⟩, hs⟩ := I.tuple hT
  simp only at hc hd
  subst hc hd
  have hn : its ≠ [] := fun e => hne (r.nil_iff.mp e)
  refine wpAny_binaryOp_repeat_ref (T := "tuple") (U := "int") (by decide) ⟨_, ho, rfl⟩ (fun s' => typeIs_int s' 0 t) noFill_tuple_mul F.fills_int_mul F.slot_int_rmul repeat_tuple F.slot_int_index.lookup ?_
  refine call_meets F.slot_int_rmul (typeIs_int s 0 t) F.entry_int_rmul (F.args_int_rmul_2 _ _) (int_rmul_tuple 0 t l its.toArray n dd sl) ⟨ho, rfl, ⟨_, ho, rfl⟩, ?_⟩
  refine call_meets F.slot_tuple_mul ⟨_, ho, rfl⟩ F.entry_tuple_mul (F.args_tuple_mul_2 _ _) (tup_mul_zero l its.toArray n dd sl t (by cases its with | nil => exact absurd rfl hn | cons a b => rfl)) ⟨ho, ?_⟩
  refine ⟨.ref s.heap.objs.size, _, I.laid (t' := s.toks) (o := .tup []) (fun b ob q => Heap.get?_push_of_some _ q) (Nat.le_refl _) ?_, rfl, q _ (I.hok.fresh (Nat.le_refl _))⟩
  exact ⟨Nat.zero_le _, [], .nil, IsTup.new _ _⟩
def rRepU (K : PySem.W.Frag) : R2 := fun x y H Q => rRepT0 K x y H Q ∨ rRepT1 K x y H Q ∨ rRepT K x y H Q
theorem repUK {X : Cx} {K : PySem.W.Frag} (h : X.K = K) : OpR X (binaryOp .Mult) (rRepU K) := h ▸ op_repT0.or (op_repT1.or op_repT)
section
variable {K : PySem.W.Frag} {env env' env'' : List Bd} {l l' : Lv} {p q : Bool} {d d' e : D} {ta tb te ti : TE} {i j : Nat} {ts tu : TS} {o : Out}
theorem ev_repU {α : Type} {f : α → D} {xs : List α} {n : Int} (h : EvD K l p ta env env' (.tup (xs.map f))) (h2 : EvD K l true tb env' env' (.int n)) (hn : 0 ≤ n ∧ n ≤ 1000) (hx : xs ≠ []) (hl : xs.length ≤ 1000) :
    EvD K l p (tOp (rRepU K) ta tb) env env' (.tup ((List.replicate n.toNat xs).flatten.map f)) := by
  by_cases e : n = 0
  · subst e
    intro X a0 H0 M ad σ H Q E k
    refine h X a0 H0 M ad σ H _ E fun x H1 E1 e1 p1 r1 => h2 X a0 H0 M ad σ H1 _ E1 fun y H2 E2 e2 p2 r2 => ?_
    obtain ⟨a, ys, rfl, g1, g2⟩ := r1
    have r2 : y = V.int 0 := r2
    subst r2
    have hl2 : ys.length = xs.length := by rw [g2.length, List.length_map]
    refine .inl ⟨a, ys, rfl, rfl, ex_s (hid_all.trans (p2 rfl)) g1, fun z => hx (List.eq_nil_of_length_eq_zero (by rw [← hl2, z]; rfl)), fun c hc => ?_⟩
    have g : Ex H2 (upd H2 c (.tup [])) := Ex.new hc
    refine k _ _ (E2.grow g) ((e1.trans e2).trans (hid_ex g)) (fun z => ((p1 z).trans (p2 rfl)).trans g) ⟨c, [], rfl, ?_, rfl⟩
    rw [hid_out (fresh_mk E2 hc), upd_same]
  · intro X a0 H0 M ad σ H Q E k
    refine h X a0 H0 M ad σ H _ E fun x H1 E1 e1 p1 r1 => h2 X a0 H0 M ad σ H1 _ E1 fun y H2 E2 e2 p2 r2 => ?_
    obtain ⟨a, ys, rfl, g1, g2⟩ := r1
    have r2 : y = V.int n := r2
    subst r2
    have hl2 : ys.length = xs.length := by rw [g2.length, List.length_map]
    have g1' : SqT K H2 a ys := ex_s (hid_all.trans (p2 rfl)) g1
    by_cases e1' : n = 1
    · subst e1'
      refine .inr (.inl ⟨a, ys, rfl, rfl, g1', k _ H2 E2 (e1.trans e2) (fun z => (p1 z).trans (p2 rfl)) ?_⟩)
      have : (List.replicate (1 : Int).toNat xs).flatten = xs := by simp
      rw [this]
      exact ⟨a, ys, rfl, hid_ex (p2 rfl) _ _ g1, RpL.mono (hid_ex (p2 rfl)) _ _ g2⟩
    · refine .inr (.inr ⟨a, n, ys, rfl, rfl, g1', fun z => hx (List.eq_nil_of_length_eq_zero (by rw [← hl2, z]; rfl)), by omega, hn.2, by omega, fun c hc => ?_⟩)
      have g : Ex H2 (upd H2 c (.tup (List.replicate n.toNat ys).flatten)) := Ex.new hc
      refine k _ _ (E2.grow g) ((e1.trans e2).trans (hid_ex g)) (fun z => ((p1 z).trans (p2 rfl)).trans g) ⟨c, (List.replicate n.toNat ys).flatten, rfl, ?_, ?_⟩
      · rw [hid_out (fresh_mk E2 hc), upd_same]
      · have g3 : RpL K (hid (mk l M X) (upd H2 c (.tup (List.replicate n.toNat ys).flatten))) (xs.map f) ys := RpL.mono ((hid_ex (p2 rfl)).trans (hid_ex g)) _ _ g2
        revert g3
        generalize hid (mk l M X) (upd H2 c (HO.tup (List.replicate n.toNat ys).flatten)) = HH
        intro g3
        generalize n.toNat = m
        clear g k
        induction m with
        | zero => exact rfl
        | succ m ih =>
          rw [List.replicate_succ, List.replicate_succ, List.flatten_cons, List.flatten_cons, List.map_append]
          exact RpL.append g3 ih
theorem rv_eqB {b c : Bool} : RV K l l' rEq (.bl b) (.bl c) (.bl (decide (b = c))) := fun X a0 H0 M ad σ H env x y Q E rx ry k => by
  have rx : x = V.bl b := rx
  have ry : y = V.bl c := ry
  subst rx ry
  exact ⟨rfl, k _ H E (Ex.refl _) (by show V.bl _ = V.bl _; rw [decide_eq_decide.mpr]; exact ⟨fun h => by injection h, fun h => by rw [h]⟩)⟩
theorem rv_neB {b c : Bool} : RV K l l' rNe (.bl b) (.bl c) (.bl (!decide (b = c))) := fun X a0 H0 M ad σ H env x y Q E rx ry k => by
  have rx : x = V.bl b := rx
  have ry : y = V.bl c := ry
  subst rx ry
  exact ⟨rfl, k _ H E (Ex.refl _) (by show V.bl (!_) = V.bl (!_); rw [decide_eq_decide.mpr]; exact ⟨fun h => by injection h, fun h => by rw [h]⟩)⟩
theorem rv_notNT {x : Option Int} : RV K l l' (fun x y H Q => y = .non ∧ Q (.bl (!decide (x = .non))) H) (encO D.int x) .non (.bl (!x.isNone)) := by
  have := rv_notN (K := K) (l := l) (l' := l') (d := encO D.int x)
  cases x <;> exact this
theorem sd_setOwT {α : Type} {f : α → D} {xs : List α} {v : α} {n : Int} (hj : ixN xs.length n = some j) (h : env''[i]? = some (.ow (.lst (xs.map f)))) (h0 : env'[i]? = some (.ow (.lst (xs.map f)))) (he : EvD K .l2 p te env env' (f v)) (hi : EvD K .l2 true ti env' env'' (.int n)) :
    SD K (tAsg te (gSub (tVar i) ti rSetL)) env (.nx (env''.set i (.ow (.lst ((xs.set j v).map f))))) := by
  have := sd_setOw h h0 he hi (by rw [List.length_map]; exact hj)
  rw [List.map_set]
  exact this
theorem piListK {X : Cx} {tg l : Expr} {tl : TE} (h : X.K = K) (g : PE X l tl) : PI X tg l (iList K tl) := h ▸ pi_list g
theorem piTupK {X : Cx} {tg l : Expr} {tl : TE} (h : X.K = K) (g : PE X l tl) : PI X tg l (iTup K tl) := h ▸ pi_tup g
end
end Pw
/-! PwS: dicts whose keys are tuples that stand somewhere; membership. -/
namespace Pw
open PySem L2
section
variable {K : PySem.W.Frag} {X : Addr → Prop} {a0 : Addr} {H0 : Hp} {M : Msk} {ad : Nat → Addr} {σ : L2.St} {H H' H1 : Hp} {env env' env'' : List Bd} {l l' : Lv} {p q : Bool} {d d' e : D} {ta tb te ti tx : TE} {i j : Nat} {b c : Bool} {ts tu : TS} {o : Out} {Dn : Ends} {tsA : TA}
theorem keyT {ns : List Int} {v : V} {B : Hp} (h : Rp K B (.tup (ns.map .int)) v) : ∃ b, v = .ref b ∧ B b = some (.tup ((ns.map Sum.inl : List Key).map kV)) := by
  obtain ⟨b, xs, rfl, h1, h2⟩ := h
  refine ⟨b, rfl, ?_⟩
  rw [h1, h2.ints, List.map_map]
  rfl
theorem ev_dgetV {l1 : List (List Key × D)} {ns : List Int} (h : EvD K l p ta env env' (dtL l1)) (hi : EvD K l' true ti env' env' (.tup (ns.map .int))) (hg : getA l1 (ns.map Sum.inl) = some d) : EvD K l p (tDGet ta ti) env env' d := fun X a0 H0 M ad σ H Q E k =>
  h X a0 H0 M ad σ H _ E fun x H1 E1 e1 p1 r1 => hi X a0 H0 M ad σ H1 _ E1 fun y H2 E2 e2 p2 r2 => by
    obtain ⟨a, xs, rfl, g1, _, g2⟩ := r1
    obtain ⟨v, q1, q2⟩ := (rpk_get (rpk_of g2)).1 d hg
    obtain ⟨b, rfl, hb⟩ := keyT r2
    exact ⟨a, v, rfl, .inr ⟨_, ns.map Sum.inl, b, ex_rd (hid_all.trans (p2 rfl)) g1, rfl, hid_all _ _ hb, q1.symm⟩, k v _ E2 (e1.trans e2) (fun z => (p1 z).trans (p2 rfl)) (Rp.mono (hid_ex (p2 rfl)) _ _ q2)⟩
theorem ev_dgetVt {α : Type} {f : α → D} {l1 : List (List Int × α)} {ns : List Int} {v : α} (hg : getA l1 ns = some v) (h : EvD K l p ta env env' (dtL (l1.map fun z => ((z.1.map Sum.inl : List Key), f z.2)))) (hi : EvD K l' true ti env' env' (.tup (ns.map .int))) : EvD K l p (tDGet ta ti) env env' (f v) :=
  ev_dgetV h hi (by rw [getA_map (fun z : List Int => (z.map Sum.inl : List Key)) f inls_inj, hg]; rfl)
theorem isSome_of {κ : Type} [DecidableEq κ] {k : κ} {kvs : List (κ × V)} {l1 : List (κ × D)} (h : RpK K H kvs l1) : (valV kvs k).isSome = (getA l1 k).isSome := by
  have := rpk_get (k := k) h
  cases g : getA l1 k with
  | none => rw [this.2 g]; rfl
  | some d => obtain ⟨v, q, _⟩ := this.1 d g; rw [q]; rfl
theorem ev_dinV {l1 : List (List Key × D)} {ns : List Int} (hi : EvD K l true ti env env (.tup (ns.map .int))) (h : EvD K l' true ta env env (dtL l1)) : EvD K l p (tDIn ti ta) env env (.bl (getA l1 (ns.map Sum.inl : List Key)).isSome) := ev_p fun X a0 H0 M ad σ H Q E k =>
  hi X a0 H0 M ad σ H _ E fun y H1 E1 e1 p1 r1 => h X a0 H0 M ad σ H1 _ E1 fun x H2 E2 e2 p2 r2 => by
    obtain ⟨a, xs, rfl, g1, _, g2⟩ := r2
    obtain ⟨b, rfl, hb⟩ := keyT r1
    refine ⟨a, _, rfl, .inr ⟨_, ns.map Sum.inl, b, ex_rd hid_all g1, rfl, (p2 rfl) _ _ (hid_all _ _ hb), rfl⟩, ?_⟩
    exact k _ H2 E2 (e1.trans e2) (fun z => (p1 z).trans (p2 z)) (by rw [← isSome_of (rpk_of g2)]; rfl)
theorem ev_dinVt {α : Type} {f : α → D} {l1 : List (List Int × α)} {ns : List Int} (hi : EvD K l true ti env env (.tup (ns.map .int))) (h : EvD K l' true ta env env (dtL (l1.map fun z => ((z.1.map Sum.inl : List Key), f z.2)))) : EvD K l p (tDIn ti ta) env env (.bl (getA l1 ns).isSome) := by
  have := ev_dinV (p := p) hi h
  rw [getA_map (fun z : List Int => (z.map Sum.inl : List Key)) f inls_inj, Option.isSome_map] at this
  exact this
theorem ev_dinK {l1 : List (Key × D)} {n : Int} (hi : EvD K l true ti env env (.int n)) (h : EvD K l' true ta env env (dkL l1)) : EvD K l p (tDIn ti ta) env env (.bl (getA l1 (Sum.inl n : Key)).isSome) := ev_p fun X a0 H0 M ad σ H Q E k =>
  hi X a0 H0 M ad σ H _ E fun y H1 E1 e1 p1 r1 => h X a0 H0 M ad σ H1 _ E1 fun x H2 E2 e2 p2 r2 => by
    obtain ⟨a, xs, rfl, g1, _, g2⟩ := r2
    have r1 : y = V.int n := r1
    subst r1
    refine ⟨a, _, rfl, .inl ⟨_, Sum.inl n, ex_rd hid_all g1, rfl, rfl⟩, ?_⟩
    exact k _ H2 E2 (e1.trans e2) (fun z => (p1 z).trans (p2 z)) (by rw [← isSome_of (rpk_of g2)]; rfl)
theorem ev_dinKt {α : Type} {f : α → D} {l1 : List (Int × α)} {n : Int} (hi : EvD K l true ti env env (.int n)) (h : EvD K l' true ta env env (dkL (l1.map fun z => ((Sum.inl z.1 : Key), f z.2)))) : EvD K l p (tDIn ti ta) env env (.bl (getA l1 n).isSome) := by
  have := ev_dinK (p := p) hi h
  rw [getA_map Sum.inl f inl_inj, Option.isSome_map] at this
  exact this
theorem sd_dputV {l1 : List (List Key × D)} {ns : List Int} (h : env'[i]? = some (.ow (dtL l1))) (he : EvD K .l2 p te env env' d) (hi : EvD K .l2 true ti env' env' (.tup (ns.map .int))) (hn : l1.length < 100000) : SD K (sDPut (tVar i) ti te) env (.nx (env'.set i (.ow (dtL (putA l1 (ns.map Sum.inl) d))))) := fun X a0 H0 M ad σ H Dn E k =>
  he X a0 H0 M ad σ H _ E fun v H1 E1 _ _ r => by
    obtain ⟨_, h2, _⟩ := E1.ow i _ h
    refine ⟨_, h2, hi X a0 H0 M ad σ H1 _ E1 fun y H2 E2 e2 p2 r2 => ?_⟩
    obtain ⟨b, rfl, hb⟩ := keyT r2
    obtain ⟨_, _, xs, h4, h0, h5⟩ := E2.ow i _ h
    have hp := rpk_of h5
    have hz : (((l1.map (·.1)).zip xs : List (List Key × V))).length < sizeLine := by rw [rpk_len hp]; exact Nat.lt_of_lt_of_le hn (by decide)
    obtain ⟨zs, z1, z2⟩ := of_rpk (rpk_put (k := (ns.map Sum.inl : List Key)) (Rp.mono (hid_ex (p2 rfl)) _ _ r) hp)
    refine ⟨ad i, _, rfl, DPut.t (k := ns.map Sum.inl) h4 (hid_all _ _ hb) hz, k M ad σ _ (E2.cellOw h ⟨zs, ?_, by simp, z2⟩)⟩
    rw [upd_same, z1]
theorem sd_dputVt {α : Type} {f : α → D} {l1 : List (List Int × α)} {ns : List Int} {v : α} (h : env'[i]? = some (.ow (dtL (l1.map fun z => ((z.1.map Sum.inl : List Key), f z.2))))) (he : EvD K .l2 p te env env' (f v)) (hi : EvD K .l2 true ti env' env' (.tup (ns.map .int))) (hn : l1.length < 100000) : SD K (sDPut (tVar i) ti te) env (.nx (env'.set i (.ow (dtL ((putA l1 ns v).map fun z => ((z.1.map Sum.inl : List Key), f z.2)))))) := by
  have := sd_dputV h he hi (by simpa using hn)
  rw [putA_map (fun z : List Int => (z.map Sum.inl : List Key)) f inls_inj] at this
  exact this
theorem rv_isNG {α : Type} {f : α → D} {x : Option α} (hf : ∀ a, isN (f a) = false) : RV K l l' (fun x y H Q => y = .non ∧ Q (.bl (decide (x = .non))) H) (encO f x) .non (.bl x.isNone) := by
  have := rv_isN (K := K) (l := l) (l' := l') (d := encO f x)
  cases x with
  | none => exact this
  | some a =>
    have e : isN (encO f (some a)) = false := hf a
    rw [e] at this
    exact this
theorem rv_notNG {α : Type} {f : α → D} {x : Option α} (hf : ∀ a, isN (f a) = false) : RV K l l' (fun x y H Q => y = .non ∧ Q (.bl (!decide (x = .non))) H) (encO f x) .non (.bl (!x.isNone)) := by
  have := rv_notN (K := K) (l := l) (l' := l') (d := encO f x)
  cases x with
  | none => exact this
  | some a =>
    have e : isN (encO f (some a)) = false := hf a
    rw [e] at this
    exact this
theorem rpl_rep {B : Hp} {ds : List D} {xs : List V} (h : RpL K B ds xs) : ∀ m : Nat, RpL K B (List.replicate m ds).flatten (List.replicate m xs).flatten
  | 0 => rfl
  | m + 1 => by
    rw [List.replicate_succ, List.replicate_succ, List.flatten_cons, List.flatten_cons]
    exact RpL.append h (rpl_rep h m)
/-- [x, ..] * n, the list new -/
theorem ef_repL {ds : List D} {n : Int} (h : EvF K true ta env env (.lst ds)) (h2 : EvD K .l2 true tb env env (.int n)) (hn : 0 ≤ n ∧ n ≤ 1000) (hl : ds.length ≤ 1000) : EvF K true (tOp rRep ta tb) env env (.lst (List.replicate n.toNat ds).flatten) := fun X a0 H0 M ad σ H Q E k =>
  h X a0 H0 M ad σ H _ E fun a H1 H' h0 hs E1 g e1 p1 rc => h2 X a0 H0 M ad σ H' _ (E1.grow g) fun y H2 E2 e2 p2 r2 => by
    have r2 : y = V.int n := r2
    subst r2
    obtain ⟨xs, hx, hr⟩ := rc
    have p2 := p2 rfl
    have hx2 : H2 a = some (.lst xs) := p2 _ _ hx
    have hlen : xs.length = ds.length := hr.length
    refine ⟨a, n, xs, rfl, rfl, hx2, by omega, by omega, ?_, fun c hc => ?_⟩
    · rw [hlen]
      exact Nat.le_trans (Nat.mul_le_mul hl (show n.toNat ≤ 1000 by omega)) (by decide)
    · have p3 : Ex H H2 := ((p1 rfl).trans g).trans p2
      refine k c H2 _ hc (fun b o q => by rw [p3 b o q]; simp) E2 (Ex.new hc) (hid_ex p3) (fun _ => p3) ⟨_, upd_same, rpl_rep (RpL.mono (hid_ex (g.trans p2)) _ _ hr) _⟩
theorem ef_repLT {α : Type} {f : α → D} {xs : List α} {n : Int} (h : EvF K true ta env env (.lst (xs.map f))) (h2 : EvD K .l2 true tb env env (.int n)) (hn : 0 ≤ n ∧ n ≤ 1000) (hl : xs.length ≤ 1000) : EvF K true (tOp rRep ta tb) env env (.lst ((List.replicate n.toNat xs).flatten.map f)) := by
  have := ef_repL h h2 hn (by rw [List.length_map]; exact hl)
  rw [List.map_flatten, List.map_replicate]
  exact this
end
end Pw
/-! PwT: the least and the greatest of data of one shape, by the library's own order. -/
namespace Pw
open PySem L2
structure OrdD {α : Type} (n : Nat) (f : α → D) (pd : α → PyData) : Prop where
  rep : ∀ x K H v, Rp K H (f x) v → Dp K H v (pd x)
  lay : ∀ x, (pd x).canLay0 = true
  dep : ∀ x, (pd x).depth ≤ n
  alk : ∀ x y, PySem.W.alike (pd x) (pd y) = true
  inj : ∀ x y, pd x = pd y → x = y
  non : ∀ x, pd x ≠ .none
structure OrdL {α : Type} (n : Nat) (f : α → List D) (pd : α → List PyData) : Prop where
  rep : ∀ x K H vs, RpL K H (f x) vs → DpAll K H vs (pd x)
  lay : ∀ x, PyData.canLayAll0 (pd x) = true
  dep : ∀ x, PyData.depthAll (pd x) ≤ n
  alk : ∀ x y, PySem.W.alikeAll (pd x) (pd y) = true
  inj : ∀ x y, pd x = pd y → x = y
theorem ord_int : OrdD 3 D.int PyData.int := ⟨fun x K H v h => by have h : v = V.int x := h; subst h; exact .int x, fun _ => rfl, fun _ => by simp [PyData.depth], fun _ _ => by simp [PySem.W.alike], fun x y h => by injection h, fun x h => by cases h⟩
theorem ord_up {α : Type} {n m : Nat} {f : α → D} {pd : α → PyData} (h : n ≤ m) (o : OrdD n f pd) : OrdD m f pd := ⟨o.rep, o.lay, fun x => Nat.le_trans (o.dep x) h, o.alk, o.inj, o.non⟩
theorem orl_one {α : Type} {n : Nat} {f : α → D} {pd : α → PyData} (o : OrdD n f pd) : OrdL n (fun x => [f x]) fun x => [pd x] :=
  ⟨fun x K H vs h => by obtain ⟨v, r, e, q1, q2⟩ := h; subst e; have q2 : r = [] := q2; subst q2; exact .cons (o.rep x K H v q1) .nil,
    fun x => by rw [PyData.canLayAll0, o.lay x]; rfl, fun x => by have := o.dep x; simp only [PyData.depthAll]; omega, fun x y => by simp [PySem.W.alikeAll, o.alk x y], fun x y h => o.inj x y (by injection h)⟩
theorem orl_cons {α β : Type} {n : Nat} {f : α → D} {pd : α → PyData} {g : β → List D} {ps : β → List PyData} (o : OrdD n f pd) (s : OrdL n g ps) : OrdL n (fun x : α × β => f x.1 :: g x.2) fun x : α × β => pd x.1 :: ps x.2 :=
  ⟨fun x K H vs h => by obtain ⟨v, r, e, q1, q2⟩ := h; subst e; exact .cons (o.rep x.1 K H v q1) (s.rep x.2 K H r q2),
    fun x => by rw [PyData.canLayAll0, o.lay x.1, s.lay x.2]; rfl, fun x => by have := o.dep x.1; have := s.dep x.2; simp only [PyData.depthAll]; omega,
    fun x y => by simp [PySem.W.alikeAll, o.alk x.1 y.1, s.alk x.2 y.2], fun x y h => by injection h with h1 h2; exact Prod.ext (o.inj _ _ h1) (s.inj _ _ h2)⟩
theorem ord_tup {α : Type} {n : Nat} {f : α → List D} {pd : α → List PyData} (s : OrdL n f pd) : OrdD (n + 1) (fun x => D.tup (f x)) fun x => PyData.tuple (pd x) :=
  ⟨fun x K H v h => by obtain ⟨a, xs, e, q1, q2⟩ := h; subst e; exact .tup (SqT.of q1) (s.rep x K H xs q2), fun x => s.lay x, fun x => by have := s.dep x; simp only [PyData.depth]; omega,
    fun x y => by simp only [PySem.W.alike]; exact s.alk x y, fun x y h => s.inj x y (by injection h), fun x h => by cases h⟩
def minW {α : Type} (pd : α → PyData) : List α → Option α
  | [] => none
  | x :: r => some (r.foldl (fun a y => if PySem.W.dataLt (pd y) (pd a) = true then y else a) x)
def maxW {α : Type} (pd : α → PyData) : List α → Option α
  | [] => none
  | x :: r => some (r.foldl (fun a y => if PySem.W.dataLt (pd a) (pd y) = true then y else a) x)
theorem minW_mem {α : Type} {pd : α → PyData} {xs : List α} {m : α} (h : minW pd xs = some m) : m ∈ xs := by
  cases xs with
  | nil => cases h
  | cons x r =>
    have h : some (r.foldl (fun a y => if PySem.W.dataLt (pd y) (pd a) = true then y else a) x) = some m := h
    cases h
    suffices ∀ (r : List α) (x : α), r.foldl (fun a y => if PySem.W.dataLt (pd y) (pd a) = true then y else a) x ∈ x :: r from this r x
    intro r
    induction r with
    | nil => exact fun x => List.mem_cons_self ..
    | cons y r ih =>
      intro x
      rw [List.foldl_cons]
      cases List.mem_cons.mp (ih (if PySem.W.dataLt (pd y) (pd x) = true then y else x)) with
      | inl z =>
        rw [z]
        split <;> simp
      | inr z => exact List.mem_cons_of_mem _ (List.mem_cons_of_mem _ z)
section
variable {K : PySem.W.Frag} {X : Addr → Prop} {a0 : Addr} {H0 : Hp} {M : Msk} {ad : Nat → Addr} {σ : L2.St} {H : Hp} {env : List Bd} {l : Lv} {i : Nat} {α : Type} {n : Nat} {f : α → D} {pd : α → PyData}
theorem dp_map (o : OrdD n f pd) {B : Hp} : ∀ {xs : List α} {vs : List V}, RpL K B (xs.map f) vs → DpAll K B vs (xs.map pd)
  | [], _, h => by cases h; exact .nil
  | x :: xs, _, ⟨v, r, e, q1, q2⟩ => by subst e; exact .cons (o.rep x K B v q1) (dp_map o q2)
theorem dep_map (o : OrdD n f pd) : ∀ xs : List α, PyData.depthAll (xs.map pd) ≤ n
  | [] => by simp [PyData.depthAll]
  | x :: xs => by have := o.dep x; have := dep_map o xs; simp only [List.map_cons, PyData.depthAll]; omega
theorem alk_map (o : OrdD n f pd) (xs : List α) : PySem.W.AlikeAll (xs.map pd) := ⟨fun x hx y hy => by
  obtain ⟨a, _, rfl⟩ := List.mem_map.mp hx
  obtain ⟨b, _, rfl⟩ := List.mem_map.mp hy
  exact o.alk a b, fun x hx => by
  obtain ⟨a, _, rfl⟩ := List.mem_map.mp hx
  exact o.non a⟩
theorem minD_map : ∀ (r : List α) (k : α), PySem.W.minD (pd k) (r.map pd) = pd (r.foldl (fun a y => if PySem.W.dataLt (pd y) (pd a) = true then y else a) k)
  | [], k => rfl
  | y :: r, k => by
    unfold PySem.W.minD
    rw [List.map_cons, List.foldl_cons, List.foldl_cons]
    have e : (if PySem.W.dataLt (pd y) (pd k) = true then pd y else pd k) = pd (if PySem.W.dataLt (pd y) (pd k) = true then y else k) := by split <;> rfl
    rw [e]
    exact minD_map r _
theorem maxD_map : ∀ (r : List α) (k : α), PySem.W.maxD (pd k) (r.map pd) = pd (r.foldl (fun a y => if PySem.W.dataLt (pd a) (pd y) = true then y else a) k)
  | [], k => rfl
  | y :: r, k => by
    unfold PySem.W.maxD
    rw [List.map_cons, List.foldl_cons, List.foldl_cons]
    have e : (if PySem.W.dataLt (pd k) (pd y) = true then pd y else pd k) = pd (if PySem.W.dataLt (pd k) (pd y) = true then y else k) := by split <;> rfl
    rw [e]
    exact maxD_map r _
theorem rc_minW {xs : List α} {m : α} (o : OrdD n f pd) (hn : n ≤ 59) (h : minW pd xs = some m) : RC K l l (rMinD K) [.lst (xs.map f)] (f m) := fun X a0 H0 M ad σ H env vs Q E rx k => by
  cases xs with
  | nil => cases h
  | cons x0 r =>
    have h : some (r.foldl (fun a y => if PySem.W.dataLt (pd y) (pd a) = true then y else a) x0) = some m := h
    cases h
    obtain ⟨x, rfl, a, ys, rfl, h1, h2⟩ := rx.one'
    refine ⟨a, ys, pd x0, r.map pd, rfl, ex_l hid_all h1, DpAM hid_all (dp_map o h2), alk_map o (x0 :: r), Nat.le_trans (dep_map o (x0 :: r)) (by omega), fun d hd => ?_, fun i v hv he => ?_⟩
    · obtain ⟨z, _, rfl⟩ := List.mem_map.mp (show d ∈ (x0 :: r).map pd from hd)
      exact o.lay z
    · obtain ⟨d, hd1, hd2⟩ := h2.get' hv
      rw [List.getElem?_map] at hd1
      obtain ⟨z, hz, rfl⟩ := Option.map_eq_some_iff.mp hd1
      have he' : ((x0 :: r).map pd)[i]? = some (pd (r.foldl (fun a y => if PySem.W.dataLt (pd y) (pd a) = true then y else a) x0)) := by rw [← minD_map (pd := pd) r x0]; exact he
      rw [List.getElem?_map, hz] at he'
      have := o.inj _ _ (Option.some.inj he')
      exact k v H E (Ex.refl _) (by rw [← this]; exact hd2)
theorem rc_maxW {xs : List α} {m : α} (o : OrdD n f pd) (hn : n ≤ 59) (h : maxW pd xs = some m) : RC K l l (rMaxD K) [.lst (xs.map f)] (f m) := fun X a0 H0 M ad σ H env vs Q E rx k => by
  cases xs with
  | nil => cases h
  | cons x0 r =>
    have h : some (r.foldl (fun a y => if PySem.W.dataLt (pd a) (pd y) = true then y else a) x0) = some m := h
    cases h
    obtain ⟨x, rfl, a, ys, rfl, h1, h2⟩ := rx.one'
    refine ⟨a, ys, pd x0, r.map pd, rfl, ex_l hid_all h1, DpAM hid_all (dp_map o h2), alk_map o (x0 :: r), Nat.le_trans (dep_map o (x0 :: r)) (by omega), fun d hd => ?_, fun i v hv he => ?_⟩
    · obtain ⟨z, _, rfl⟩ := List.mem_map.mp (show d ∈ (x0 :: r).map pd from hd)
      exact o.lay z
    · obtain ⟨d, hd1, hd2⟩ := h2.get' hv
      rw [List.getElem?_map] at hd1
      obtain ⟨z, hz, rfl⟩ := Option.map_eq_some_iff.mp hd1
      have he' : ((x0 :: r).map pd)[i]? = some (pd (r.foldl (fun a y => if PySem.W.dataLt (pd a) (pd y) = true then y else a) x0)) := by rw [← maxD_map (pd := pd) r x0]; exact he
      rw [List.getElem?_map, hz] at he'
      have := o.inj _ _ (Option.some.inj he')
      exact k v H E (Ex.refl _) (by rw [← this]; exact hd2)
theorem ev_minOwW {xs : List α} {m : α} (o : OrdD n f pd) (hn : n ≤ 59) (hm : minW pd xs = some m) (h : env[i]? = some (.ow (.lst (xs.map f)))) : EvD K l true (tCB (rMinD K) (tCons (tVar i) tNil)) env env (f m) := fun X a0 H0 M ad σ H Q E k => by
  cases xs with
  | nil => cases hm
  | cons x0 r =>
    have hm : some (r.foldl (fun a y => if PySem.W.dataLt (pd y) (pd a) = true then y else a) x0) = some m := hm
    cases hm
    obtain ⟨_, h2, ys, h3, h4⟩ := E.ow i _ h
    refine ⟨_, h2, ad i, ys, pd x0, r.map pd, rfl, SqL.of h3, DpAM hid_all (dp_map o h4), alk_map o (x0 :: r), Nat.le_trans (dep_map o (x0 :: r)) (by omega), fun d hd => ?_, fun j v hv he => ?_⟩
    · obtain ⟨z, _, rfl⟩ := List.mem_map.mp (show d ∈ (x0 :: r).map pd from hd)
      exact o.lay z
    · obtain ⟨d, hd1, hd2⟩ := h4.get' hv
      rw [List.getElem?_map] at hd1
      obtain ⟨z, hz, rfl⟩ := Option.map_eq_some_iff.mp hd1
      have he' : ((x0 :: r).map pd)[j]? = some (pd (r.foldl (fun a y => if PySem.W.dataLt (pd y) (pd a) = true then y else a) x0)) := by rw [← minD_map (pd := pd) r x0]; exact he
      rw [List.getElem?_map, hz] at he'
      have := o.inj _ _ (Option.some.inj he')
      exact k v H E (Ex.refl _) (fun _ => Ex.refl _) (Rp.mono (hid_le mk_le) _ _ (by rw [← this]; exact hd2))
end
end Pw
/-! PwU: list.remove of data. -/
namespace Pw
open PySem L2 PySem.Spec PyProof.Rows
open AutoSeq1 (wpAny_loadPart')
open MeetsSeq SeqAt
theorem remove_loopAt (l : Addr) (items : Array Value) (n : Nat) (x : Value) (e : Value → Bool) (j : Nat) (hj : j < items.size) (hit : e items[j] = true) (k : Nat) (hs1 : items.size ≤ sizeLine) :
    ∀ i : Nat, j - i = k → i ≤ j → (∀ m (hm : m < items.size), i ≤ m → m < j → e items[m] = false) → Meets (Builtin.«list.remove.loop» ⟨[.ref l, x, rawInt i], []⟩)
      (fun A R s => s.heap.get? l = some { cls := .type "list", dict := none, data := .seq items n, slots := #[] } ∧ (∀ y, y ∈ items → EqAt A.in1 s y x (e y)) ∧ R (.ok (.ret .none)) { s with heap := s.heap.update l (Obj.mapSeq fun xs => xs.eraseIdxIfInBounds j) }) := by
  induction k with
  | zero =>
    intro i hk hij hno prog w A R s h
    obtain ⟨hp, g, d, tk, os⟩ := s; obtain ⟨hl, he, h⟩ := h
    have hij' : i = j := by omega
    subst hij'
    wp_walk using wpAny_loadPart' hl
    have hi : items[((i : Nat) : Int).toNat]? = some items[i] := by simp [hj]
    rw [hi]
    refine wpAny_bind (he _ (Array.getElem_mem hj) prog w _ _ ?_)
    rw [hit]
    have hz' : (items.eraseIdxIfInBounds i).size ≤ sizeLine + 1 := Nat.le_trans (size_erased items _) (Nat.le_succ_of_le hs1)
    wp_walk using (wpAny_updateSeq hl rfl (hz := hs1) (_hz' := hz')), wpAny_loadPart' hl
    simpa using h
  | succ k ih =>
    intro i hk hij hno prog w A R s h
    obtain ⟨hp, g, d, tk, os⟩ := s; obtain ⟨hl, he, h⟩ := h
    have hlt : i < items.size := by omega
    wp_walk using wpAny_loadPart' hl
    have hi : items[((i : Nat) : Int).toNat]? = some items[i] := by simp [hlt]
    have hc : ((i : Int) + 1) = ((i + 1 : Nat) : Int) := by push_cast; rfl
    rw [hi]
    refine wpAny_bind (he _ (Array.getElem_mem hlt) prog w _ _ ?_)
    rw [hno i hlt (Nat.le_refl _) (by omega)]
    wp_walk
    rw [hc]
    exact ⟨plainId_quiet plain_remove_loop _, codeAny_builtin entry_remove_loop (by
      rw [Around.under_plainId plain_remove_loop _]
      exact ih (i + 1) (by omega) (by omega) (fun m hm h1 h2 => hno m hm (by omega) h2) prog w A R _ ⟨hl, he, h⟩)⟩
theorem list_removeAt (l : Addr) (items : Array Value) (n : Nat) (x : Value) (e : Value → Bool) (j : Nat) (hj : j < items.size)
    (hit : e items[j] = true) (hno : ∀ m (hm : m < items.size), m < j → e items[m] = false) (hs1 : items.size ≤ sizeLine) :
    Meets (Builtin.«list.remove» ⟨[.ref l, x], []⟩)
      (fun A R s => s.heap.get? l = some { cls := .type "list", dict := none, data := .seq items n, slots := #[] } ∧ (∀ y, y ∈ items → EqAt A.in1 s y x (e y)) ∧ R (.ok (.ret .none)) { s with heap := s.heap.update l (Obj.mapSeq fun xs => xs.eraseIdxIfInBounds j) }) := by
  intro prog w A R s h
  obtain ⟨hp, g, d, tk, os⟩ := s; obtain ⟨hl, he, h⟩ := h
  wp_walk using wpAny_loadPart' hl
  exact ⟨plainId_quiet plain_remove_loop _, codeAny_builtin entry_remove_loop (by
    rw [Around.under_plainId plain_remove_loop _]
    exact remove_loopAt l items n x e j hj hit _ hs1 0 rfl (Nat.zero_le _) (fun m hm _ h2 => hno m hm h2) prog w A R _ ⟨hl, he, h⟩)⟩
def rRemD (K : PySem.W.Frag) : V → List V → Hp → VK → Prop := fun x xs H Q => ∃ (l : Addr) (ys : List V) (y : V) (d : PyData) (ds : List PyData) (j : Nat) (z : PyData), x = .ref l ∧ xs = [y] ∧ H l = some (.lst ys) ∧ DpAll K H ys ds ∧ Dp K H y d ∧
  SeqAt.shaped (.list ds) = true ∧ SeqAt.shaped d = true ∧ ds[j]? = some z ∧ PyData.eqv z d = true ∧ (∀ (m : Nat) (z' : PyData), m < j → ds[m]? = some z' → PyData.eqv z' d = false) ∧ Q .non (upd H l (.lst (ys.eraseIdx j)))
theorem mt_removeD {X : Cx} (hu : X.A.units + 65 < cLine) : MtM X "list.remove" (rRemD X.K) := by
  intro pins s σ H x xs v us Q I rx rxs h
  obtain ⟨l, ys, y, d, ds, j, z, rfl, rfl, hH, ha, hy, sl, sd, hz, hzj, hno, q⟩ := h
  cases rx
  obtain ⟨u, rfl, ru⟩ := rxs.one
  obtain ⟨bs, r1⟩ := Dp.reads I d y u hy ru
  have hxs : PyData.canLayAll0 ds = true := SeqAt.canLay_of_shaped sl
  have hroom : X.A.units + 1 + min (PyData.depthAll ds) d.depth < cLine := room_in_shaped sd hu
  obtain ⟨zz, its, n, r, hl, e⟩ := I.lstM hH
  obtain ⟨as, h4⟩ := Dp.readsAll I ds _ its ha r
  have hn : its.length = ds.length := SeqAt.ReadsAll.length ds its as h4
  have hmap : its.map (SeqAt.readOf s.heap) = ds := SeqAt.readsAll_map ds its as hxs h4
  obtain ⟨hjd, _⟩ := List.getElem?_eq_some_iff.mp hz
  have hjl : j < its.toArray.size := by rw [List.size_toArray]; omega
  have at_ : ∀ (m : Nat) (hm : m < its.toArray.size) (z' : PyData), ds[m]? = some z' → SeqAt.readOf s.heap its.toArray[m] = z' := by
    intro m hm z' hz'
    have hml : m < its.length := by simpa using hm
    rw [← hmap, List.getElem?_map, List.getElem?_eq_getElem hml] at hz'
    have e1 : SeqAt.readOf s.heap its[m] = z' := Option.some.inj (show some (SeqAt.readOf s.heap its[m]) = some z' from hz')
    simpa using e1
  refine call_meets PySem.F.slot_list_remove ⟨_, e, rfl⟩ PySem.F.entry_list_remove (PySem.F.args_list_remove_2 _ _)
    (list_removeAt l its.toArray n u (fun v => PyData.eqv (SeqAt.readOf s.heap v) d) j hjl ?_ ?_ (by rw [List.size_toArray]; omega)) ⟨e, SeqAt.items_eqAt (vs := its.toArray) (show ReadsAll s.heap its.toArray.toList ds as from h4) r1 hxs (SeqAt.canLay_of_shaped sd) hroom, ?_⟩
  · show PyData.eqv (SeqAt.readOf s.heap its.toArray[j]) d = true
    rw [at_ j hjl z hz]
    exact hzj
  · intro m hm hmj
    have hmd : m < ds.length := by omega
    have hz' : ds[m]? = some ds[m] := List.getElem?_eq_getElem hmd
    show PyData.eqv (SeqAt.readOf s.heap its.toArray[m]) d = false
    rw [at_ m hm _ hz']
    exact hno m _ hmj hz'
  · have rr := r.eraseIdx j
    refine ⟨.non, _, I.lset (its' := its.eraseIdx j) (t' := s.toks) hH e ?_ rr ?_, rfl, q⟩
    · show its.toArray.eraseIdxIfInBounds j = (its.eraseIdx j).toArray
      rw [List.eraseIdxIfInBounds_toArray]
    · have z2 : (ys.eraseIdx j).length ≤ ys.length := (List.eraseIdx_sublist _ _).length_le
      omega
def remO {α : Type} [DecidableEq α] (xs : List α) (v : α) : Option (List α) := if v ∈ xs ∧ xs.length ≤ 100000 then some (xs.erase v) else none
section
variable {K : PySem.W.Frag} {env env' : List Bd} {p : Bool} {te : TE} {i : Nat}
theorem remDK {X : Cx} {K : PySem.W.Frag} (h : X.K = K) (hu : X.A.units + 65 < cLine) : MtM X "list.remove" (rRemD K) := h ▸ mt_removeD hu
theorem rpl_erase {B : Hp} : ∀ {ds : List D} {xs : List V} (j : Nat), RpL K B ds xs → RpL K B (ds.eraseIdx j) (xs.eraseIdx j)
  | [], _, j, h => by cases h; exact rfl
  | d :: ds, _, 0, ⟨v, r, e, q1, q2⟩ => by subst e; exact q2
  | d :: ds, _, j + 1, ⟨v, r, e, q1, q2⟩ => by subst e; exact ⟨v, _, rfl, q1, rpl_erase j q2⟩
theorem dpa_map {α : Type} {f : α → D} {pd : α → PyData} {B : Hp} (o : ∀ x K H v, Rp K H (f x) v → Dp K H v (pd x)) : ∀ {xs : List α} {vs : List V}, RpL K B (xs.map f) vs → DpAll K B vs (xs.map pd)
  | [], _, h => by cases h; exact .nil
  | x :: xs, _, ⟨v, r, e, q1, q2⟩ => by subst e; exact .cons (o x K B v q1) (dpa_map o q2)
theorem lay_map {α : Type} {n : Nat} {pd : α → PyData} (o : ∀ x, (pd x).canLay0 = true ∧ (pd x).depth ≤ n) : ∀ xs : List α, PyData.canLayAll0 (xs.map pd) = true
  | [] => rfl
  | x :: xs => by rw [List.map_cons, PyData.canLayAll0, (o x).1, lay_map o xs]; rfl
theorem depa_map {α : Type} {n : Nat} {pd : α → PyData} (o : ∀ x, (pd x).canLay0 = true ∧ (pd x).depth ≤ n) : ∀ xs : List α, PyData.depthAll (xs.map pd) ≤ n
  | [] => by simp [PyData.depthAll]
  | x :: xs => by have := (o x).2; have := depa_map o xs; simp only [List.map_cons, PyData.depthAll]; omega
theorem erase_mapD {α : Type} {f : α → D} : ∀ (l : List α) (j : Nat), (l.eraseIdx j).map f = (l.map f).eraseIdx j
  | [], j => by simp
  | a :: r, 0 => by simp
  | a :: r, j + 1 => by simp [erase_mapD r j]
theorem erase_at {α : Type} [DecidableEq α] : ∀ (xs : List α) (v : α), xs.erase v = xs.eraseIdx (xs.findIdx fun a => decide (a = v))
  | [], v => rfl
  | x :: xs, v => by
    rw [List.erase_cons, List.findIdx_cons]
    by_cases e : x = v
    · subst e; simp
    · have e1 : (x == v) = false := by simpa using e
      rw [e1, decide_eq_false e, erase_at xs v]
      rfl
theorem sd_remove {α : Type} [DecidableEq α] {f : α → D} {n : Nat} {xs ys : List α} {v : α} (hq : Eqv n f) (hnn : n ≤ 58) (hs : remO xs v = some ys) (h : env'[i]? = some (.ow (.lst (xs.map f)))) (h0 : env[i]? = some (.ow (.lst (xs.map f)))) (he : EvD K .l2 p te env env' (f v)) :
    SD K (tDrop (tBM K "list" (rRemD K) (tVar i) (tCons te tNil))) env (.nx (env'.set i (.ow (.lst (ys.map f))))) := fun X a0 H0 M ad σ H Dn E k => by
  unfold remO at hs
  by_cases g : v ∈ xs ∧ xs.length ≤ 100000
  · rw [if_pos g] at hs
    cases hs
    obtain ⟨pd, q1, q2, q3⟩ := hq
    obtain ⟨_, h2, _⟩ := E.ow i _ h0
    have hx := E.ow i _ h0
    obtain ⟨zs0, y1, y2⟩ := hx.2.2
    refine ⟨_, h2, .inl ⟨rfl, zs0, SqL.of y1⟩, he X a0 H0 M ad σ H _ E fun w H1 E1 e1 p1 r => ?_⟩
    obtain ⟨_, _, zs, z1, z2⟩ := E1.ow i _ h
    have hd : DpAll K H1 zs (xs.map pd) := dpa_map q1 (RpL.mono hid_all _ _ z2)
    have hlen : zs.length = xs.length := by rw [z2.length, List.length_map]
    have hj : (xs.findIdx (fun a => decide (a = v))) < xs.length := List.findIdx_lt_length_of_exists ⟨v, g.1, by simp⟩
    refine ⟨ad i, zs, w, pd v, xs.map pd, xs.findIdx (fun a => decide (a = v)), pd v, rfl, rfl, z1, hd, DpM hid_all (q1 v _ _ _ r), ?_, shaped_of (q2 v).1 (q2 v).2 (by omega), ?_, (q3 v v).mpr rfl, fun m z' hm hz => ?_, ?_⟩
    · exact shaped_of (n := n + 1) (lay_map q2 xs) (by have := depa_map q2 xs; simp only [PyData.depth]; omega) (by omega)
    · rw [List.getElem?_map, List.getElem?_eq_getElem hj]
      have := List.findIdx_getElem (xs := xs) (p := fun a => decide (a = v)) (w := hj)
      rw [show xs[xs.findIdx (fun a => decide (a = v))] = v from of_decide_eq_true this]
      rfl
    · rw [List.getElem?_map] at hz
      obtain ⟨a, ha, rfl⟩ := Option.map_eq_some_iff.mp hz
      have := List.not_of_lt_findIdx hm
      obtain ⟨hml, hme⟩ := List.getElem?_eq_some_iff.mp ha
      rw [hme] at this
      cases c : PyData.eqv (pd a) (pd v) with
      | false => rfl
      | true => exact absurd (decide_eq_true ((q3 a v).mp c)) (by simpa using this)
    · refine k M ad σ _ (E1.cellOw h ⟨_, upd_same, ?_⟩)
      have e6 : (xs.erase v).map f = (xs.map f).eraseIdx (xs.findIdx fun a => decide (a = v)) := by
        rw [erase_at xs v, erase_mapD]
      rw [e6]
      exact rpl_erase _ z2
  · rw [if_neg g] at hs; cases hs
theorem hu65 {A : Around} {k : Nat} (h : Room k A) : A.units + 65 < cLine := by have := h.un; omega
end
end Pw
/-! PwV: dicts walked under a lock; dict comprehensions with keys of any kind. -/
namespace L2
open PySem PySem.Spec PyProof.Rows
section
variable {X : Cx} {pins : List (Addr × Obj)} {σ : St} {H H' : Hp} {s : Shared}
/-- a pair laid by a comprehension, ints, texts or tuples as keys -/
theorem put_comp {Er : Value → Shared → Prop} {Dd : Addr} {key val : V} {uk uv : Value} {Qc : Unit → Shared → Prop} (room : X.A.units + 1 < cLine) (I : Inv X pins σ H s) (put : DPut H Dd key val H') (rk : RelV key uk) (rv : RelV val uv)
    (next : ∀ t, Inv X pins σ H' t → Qc () t) : wpAny (model X.prog X.w) X.A (dictSet Dd uk uv) Qc Er s := by
  obtain ⟨ps, k, at0, rfl, small, rfl⟩ | ⟨ps, k, b, at0, rfl, tup, small, rfl⟩ := put
  · exact d_dictSet I at0 small rk rv next
  · obtain rfl : uk = Value.ref b := rk
    have ⟨z, nsys, trs, rel, whole⟩ := dt_of I.hok at0
    have few : trs.length ≤ sizeLine := (Paired.length rel) ▸ z
    refine wpAny_dictSet_heap (hsz := few) (show (tupleKind (mixKind X.prog X.w)).room X.A from Nat.lt_of_succ_lt room) (key_of I.hok tup) whole fun hp whole' same => next _ ?_
    obtain ⟨ob, es, ep, q1, q2, q3, q4, _, q6⟩ := whole'
    have more : (putK ps k val).length ≤ sizeLine := by
      have := length_putK ps k val
      omega
    exact d_write I (by rw [at0]; exact True.intro) same ⟨ob, q1⟩ ⟨more, nsys, _, (rel.put k tup rv).keeps fun c ys ec => by
      rw [upd_ne (ne_of ec at0 (fun z => nomatch z))]; exact ec, ob, es, ep, q1, q2, q3, q4, q6⟩

/-- what a dict comprehension's new dict may be at first -/
def Emp (o : HO) : Prop := o = .dK [] ∨ o = .dT []
theorem emp_ok {o : HO} (e : Emp o) {Pr : Program} {w : World} (h : Heap) (hb : sysModules < h.objs.size) : ObjOk Pr w H (h.push { cls := .type "dict", data := .dict #[] }) h.objs.size o := by
  rcases e with rfl | rfl
  · exact dk_empty h hb
  · exact dt_empty h hb
/-- the new dict at Dd holds o at first; tb: what a turn does behind target and tests -/
def tDg (o : HO) (wi : TI) (g : TG) (tt : TT) (tb : Addr → St → Hp → (Hp → Prop) → Prop) (vs : List Nat) : TE := fun σ H Q => wi σ H fun J H1 => ∀ Dd, H1 Dd = none → ∃ W : Nat → Nat → Hp → Prop, (∃ m, W 0 m (upd H1 Dd o)) ∧ ∀ i m Hc, W i m Hc →
  (J.stop i Hc ∧ Q (.ref Dd) Hc) ∨ (J.go i Hc ∧ ∃ Nx : Hp → Prop, (∀ Hn, Nx Hn → ∃ m1, m1 < m ∧ W (i + 1) m1 Hn) ∧ ∀ x Hn, J.yld i Hc x Hn → g x (wipe σ vs) Hn fun σ2 H2 => wipe σ2 vs = wipe σ vs ∧ tt σ2 H2 fun b H3 => if b = true then tb Dd σ2 H3 Nx else Nx H3)
/-- a pair is laid -/
def tPut (tk tv : TE) : Addr → St → Hp → (Hp → Prop) → Prop := fun Dd σ H Nx => tk σ H fun y H4 => tv σ H4 fun z H5 => ∃ H6, DPut H5 Dd y z H6 ∧ Nx H6
/-- a second clause -/
def tIn (wi1 : TI) (g1 : TG) (tt1 : TT) (tk tv : TE) (vs1 : List Nat) : Addr → St → Hp → (Hp → Prop) → Prop := fun Dd σ H Nx => wi1 σ H fun J1 H4 => ∃ W1 : Nat → Nat → Hp → Prop, (∃ m, W1 0 m H4) ∧ ∀ j k Hc, W1 j k Hc →
      (J1.stop j Hc ∧ Nx Hc) ∨ (J1.go j Hc ∧ ∃ Ny : Hp → Prop, (∀ Hn, Ny Hn → ∃ k1, k1 < k ∧ W1 (j + 1) k1 Hn) ∧ ∀ x Hn, J1.yld j Hc x Hn → g1 x (wipe σ vs1) Hn fun σ3 H5 => wipe σ3 vs1 = wipe σ vs1 ∧ tt1 σ3 H5 fun b H6 => if b = true then tPut tk tv Dd σ3 H6 Ny else Ny H6)
end

/-! ### the machine's own steps for two clauses -/
section
variable {kx vx t0 i0 t1 i1 : Expr} {cs0 cs1 : List Expr} {scope : Scope} {pos : Pos} {it : Value} {Dd : Addr} {env : Env}
abbrev two (kx vx t0 i0 t1 i1 : Expr) (cs0 cs1 : List Expr) (scope : Scope) (pos : Pos) : Expr := .DictComp kx vx [⟨t0, i0, cs0, 0⟩, ⟨t1, i1, cs1, 0⟩] scope pos
theorem turn_outer : compTurn (two kx vx t0 i0 t1 i1 cs0 cs1 scope pos) 0 it (.ref Dd) env = (do
      standAt i0.pos
      match ← pyNext it with
      | none => pure (.done .next)
      | some item =>
        letOwnedTupleGo t0 it item
        assign t0 env item
        let mut going := true
        for c in cs0 do
          if going then going ← isTrue c env (eval c env)
        if going then
          let src ← eval i1 env
          standAt i1.pos
          let src ← foldedSetIterable i1 env src
          let _ ← runOwn (.compStart (two kx vx t0 i0 t1 i1 cs0 cs1 scope pos) 1 (← holding [src] (pyIter src)) (.ref Dd) env) env
        again (.compLoop (two kx vx t0 i0 t1 i1 cs0 cs1 scope pos) 0 it (.ref Dd) env)) := by rfl
theorem turn_inner : compTurn (two kx vx t0 i0 t1 i1 cs0 cs1 scope pos) 1 it (.ref Dd) env = (do
      standAt i1.pos
      match ← pyNext it with
      | none => pure (.done .next)
      | some item =>
        letOwnedTupleGo t1 it item
        assign t1 env item
        let mut going := true
        for c in cs1 do
          if going then going ← isTrue c env (eval c env)
        if going then
          (do
            let a ← eval kx env
            let b ← holding [a] (eval vx env)
            standAt { kx.pos with endLine := vx.pos.endLine, endCol := vx.pos.endCol }
            holding [a, b] (dictSet Dd a b))
        again (.compLoop (two kx vx t0 i0 t1 i1 cs0 cs1 scope pos) 1 it (.ref Dd) env)) := by rfl
variable {prog : Program} {w : World} {A : Around} {R : Result → Shared → Prop} {s : Shared}
/-- what is to hold of an item met, for a clause's target and tests -/
def Met (prog : Program) (w : World) (A : Around) (R : Result → Shared → Prop) (t : Expr) (cs : List Expr) (env : Env) (it : Value) (yes no : Shared → Prop) (r : Option Value) (s1 : Shared) : Prop :=
  match r with
  | none => R (.ok .next) s1
  | some v => wpAny (model prog w) A (letOwnedTupleGo t it v) (fun _ s2 => wpAny (model prog w) A (assign t env v) (fun _ s3 =>
      wpAny (model prog w) A (forIn cs true fun c r => if r = true then do let ok ← isTrue c env (eval c env); pure (ForInStep.yield ok) else pure (ForInStep.yield r)) (fun ok s4 => if ok = true then yes s4 else no s4)
        (notedBy (model prog w) A env fun e t => R (.error e) t) s3) (notedBy (model prog w) A env fun e t => R (.error e) t) s2) (notedBy (model prog w) A env fun e t => R (.error e) t) s1
theorem outer_loop (plain : ∀ x, foldedSetIterable i1 env x = pure x) (I : Nat → Shared → Prop)
    (turn : ∀ n s, I n s → wpAny (model prog w) A (pyNext it) (Met prog w A R t0 cs0 env it
      (fun s3 => wpAny (model prog w) A (eval i1 env) (fun x s4 => wpAny (model prog w) A (pyIter x) (fun it1 s5 =>
        codeAny (model prog w) A (.compStart (two kx vx t0 i0 t1 i1 cs0 cs1 scope pos) 1 it1 (.ref Dd) env) (fun r t => match r with
          | .ok _ => ∃ m, m < n ∧ I m t
          | .error _ => False) s5) (notedBy (model prog w) A env fun e t => R (.error e) t) s4) (notedBy (model prog w) A env fun e t => R (.error e) t) s3)
      (fun s3 => ∃ m, m < n ∧ I m s3)) (notedBy (model prog w) A env fun e t => R (.error e) t) s)
    (n : Nat) (start : I n s) : codeAny (model prog w) A (.compLoop (two kx vx t0 i0 t1 i1 cs0 cs1 scope pos) 0 it (.ref Dd) env) R s := by
  refine codeAny_loop rfl I (fun n s hI => ?_) n start
  show wpAny _ A ((compTurn (two kx vx t0 i0 t1 i1 cs0 cs1 scope pos) 0 it (.ref Dd) env).onRaise (fun e => do noteFrame e env; theTreesLotGoes e)) _ _ s
  refine wpAny_noted ?_
  rw [turn_outer]
  refine wpAny_bind (wpAny_standAt (wpAny_bind (wpAny_mono (turn n s hI) (fun r s1 h1 => ?_) fun _ _ z => z)))
  match r, h1 with
  | none, h1 => exact wpAny_pure h1
  | some v, h1 =>
    refine wpAny_bind (wpAny_mono h1 (fun _ s2 h2 => wpAny_bind (wpAny_mono h2 (fun _ s3 h3 => wpAny_bind (wpAny_mono h3 (fun ok s4 h4 => ?_) fun _ _ z => z)) fun _ _ z => z)) fun _ _ z => z)
    match ok, h4 with
    | false, h4 => exact wpAny_pure ⟨rfl, h4⟩
    | true, h4 =>
      refine wpAny_bind (wpAny_mono h4 (fun x s5 h5 => ?_) fun _ _ z => z)
      refine wpAny_bind (wpAny_standAt (wpAny_bind (wpAny_of_eq (plain x) (wpAny_bind (wpAny_holding (wpAny_mono h5 (fun it1 s6 h6 => ?_) fun _ _ z => z))))))
      refine wpAny_bind (wpAny_runOwn ?_)
      rw [Around.mark_none]
      refine codeAny_mono h6 fun r t hr => ?_
      match r, hr with
      | .ok f, hr =>
        first
          | exact wpAny_pure ⟨rfl, hr⟩
          | exact wpAny_bind (wpAny_pure (wpAny_pure ⟨rfl, hr⟩))
      | .error e, hr => exact False.elim hr
theorem inner_loop (I : Nat → Shared → Prop)
    (turn : ∀ n s, I n s → wpAny (model prog w) A (pyNext it) (Met prog w A R t1 cs1 env it
      (fun s3 => wpAny (model prog w) A (eval kx env) (fun a s4 => wpAny (model prog w) A (eval vx env) (fun b s5 =>
        wpAny (model prog w) A (dictSet Dd a b) (fun _ t => ∃ m, m < n ∧ I m t) (notedBy (model prog w) A env fun e t => R (.error e) t) s5) (notedBy (model prog w) A env fun e t => R (.error e) t) s4) (notedBy (model prog w) A env fun e t => R (.error e) t) s3)
      (fun s3 => ∃ m, m < n ∧ I m s3)) (notedBy (model prog w) A env fun e t => R (.error e) t) s)
    (n : Nat) (start : I n s) : codeAny (model prog w) A (.compLoop (two kx vx t0 i0 t1 i1 cs0 cs1 scope pos) 1 it (.ref Dd) env) R s := by
  refine codeAny_loop rfl I (fun n s hI => ?_) n start
  show wpAny _ A ((compTurn (two kx vx t0 i0 t1 i1 cs0 cs1 scope pos) 1 it (.ref Dd) env).onRaise (fun e => do noteFrame e env; theTreesLotGoes e)) _ _ s
  refine wpAny_noted ?_
  rw [turn_inner]
  refine wpAny_bind (wpAny_standAt (wpAny_bind (wpAny_mono (turn n s hI) (fun r s1 h1 => ?_) fun _ _ z => z)))
  match r, h1 with
  | none, h1 => exact wpAny_pure h1
  | some v, h1 =>
    refine wpAny_bind (wpAny_mono h1 (fun _ s2 h2 => wpAny_bind (wpAny_mono h2 (fun _ s3 h3 => wpAny_bind (wpAny_mono h3 (fun ok s4 h4 => ?_) fun _ _ z => z)) fun _ _ z => z)) fun _ _ z => z)
    match ok, h4 with
    | false, h4 => exact wpAny_pure ⟨rfl, h4⟩
    | true, h4 =>
      exact wpAny_bind (wpAny_bind (wpAny_mono h4 (fun a s5 h5 => wpAny_bind (wpAny_holding (wpAny_mono h5 (fun b s6 h6 => wpAny_bind (wpAny_standAt (wpAny_holding (wpAny_mono h6 (fun _ t h7 => wpAny_pure ⟨rfl, h7⟩) fun _ _ z => z)))) fun _ _ z => z))) fun _ _ z => z))
theorem inner_start (h0 : codeAny (model prog w) A (.compLoop (two kx vx t0 i0 t1 i1 cs0 cs1 scope pos) 1 it (.ref Dd) env) R s)
    (again : wpAny (model prog w) A (pyIter it) (fun it' t => codeAny (model prog w) A (.compLoop (two kx vx t0 i0 t1 i1 cs0 cs1 scope pos) 1 it' (.ref Dd) env) R t) (notedBy (model prog w) A env fun e t => R (.error e) t) s) :
    codeAny (model prog w) A (.compStart (two kx vx t0 i0 t1 i1 cs0 cs1 scope pos) 1 it (.ref Dd) env) R s := by
  refine codeAny_of_tree ?_
  show wpAny _ _ ((compStart (two kx vx t0 i0 t1 i1 cs0 cs1 scope pos) 1 it (.ref Dd) env).onRaise (fun e => do noteFrame e env; standAt theWindowsPlace)) _ _ s
  refine wpAny_notedAt ?_
  unfold compStart
  show wpAny _ _ (ask >>= _) _ _ s
  refine wpAny_bind (wpAny_askSetting (wpAny_ite ?_))
  split
  · first
      | exact wpAny_bind (wpAny_pure (wpAny_pure (And.intro rfl h0)))
      | exact wpAny_pure (And.intro rfl h0)
  · first
      | exact wpAny_bind (wpAny_rule (wpAny_bind (wpAny_standAt (wpAny_bind (wpAny_mono again (fun it' t z => wpAny_pure (And.intro rfl z)) fun _ _ x => x)))))
      | (refine wpAny_bind (wpAny_rule ?_); show wpAny _ _ (standAt i1.pos >>= _) _ _ s; exact wpAny_bind (wpAny_standAt (wpAny_bind (wpAny_mono again (fun it' t z => wpAny_pure (And.intro rfl z)) fun _ _ x => x))))
end

section
variable {X : Cx}
/-- known slots, but for the block's, stay -/
def Kp (vs : List Nat) (σ σ' : St) : Prop := σ.length = σ'.length ∧ ∀ (j : Nat) v, (wipe σ vs)[j]? = some (some v) → σ'[j]? = some (some v)
/-- a dict comprehension whose turns' bodies are B -/
theorem dx_base {o : HO} {pins : List (Addr × Obj)} {s : Shared} {σ : St} {H : Hp} {Q : VK} {kx vx tg iter : Expr} {ifs : List Expr} {rest : List Comprehension} {scope : Scope} {own : List (Str × Nat)} {pos ppos : Pos} {wi : TI} {g : TG} {tt : TT} {tb : Addr → St → Hp → (Hp → Prop) → Prop} {use : Option (Value → Sem Unit)} {Qf : Value → Shared → Prop}
    (B : Addr → Env → (Shared → Prop) → Shared → Prop) (emp : Emp o) (calm : X.calm = true) (nd : X.N.Nodup) (I : Inv X pins σ H s) (walked : PI X tg iter wi) (ok : BlkOk X.N X.env.scope scope own)
    (target : ∀ (s : Shared) (H : Hp) (C : Addr) (cl : List (Str × Addr)) (fp : List Addr), PG (X.blk s H scope (compEnvC scope cl C X.env) fp) tg g) (tests : ∀ (s : Shared) (H : Hp) (C : Addr) (cl : List (Str × Addr)) (fp : List Addr), PTs (X.blk s H scope (compEnvC scope cl C X.env) fp) ifs tt)
    (body : ∀ (s0 : Shared) (H0 : Hp) (C : Addr) (cl : List (Str × Addr)) (fp : List Addr) (Dd : Addr) (ps : List (Addr × Obj)) (τ : St) (Hb : Hp) (t : Shared) (Nx : Hp → Prop) (post : Shared → Prop), Inv (X.blk s0 H0 scope (compEnvC scope cl C X.env) fp) ps τ Hb t → tb Dd τ Hb Nx →
      (∀ τ' H' t', Inv (X.blk s0 H0 scope (compEnvC scope cl C X.env) fp) ps τ' H' t' → Kp (own.map (·.2)) τ τ' → Nx H' → post t') → B Dd (compEnvC scope cl C X.env) post t)
    (loop : ∀ (env : Env) (it : Value) (Dd : Addr) (R : Result → Shared → Prop) (J : Nat → Shared → Prop), (∀ n t, J n t → wpAny (model X.prog X.w) X.A (pyNext it) (Met X.prog X.w X.A R tg ifs env it (B Dd env fun t => ∃ m, m < n ∧ J m t) fun t => ∃ m, m < n ∧ J m t) (notedBy (model X.prog X.w) X.A env fun e t => R (.error e) t) t) →
      ∀ n t, J n t → codeAny (model X.prog X.w) X.A (.compLoop (.DictComp kx vx (⟨tg, iter, ifs, 0⟩ :: rest) scope pos) 0 it (.ref Dd) env) R t)
    (plain : ∀ x, foldedSetIterable iter X.env x = pure x) (h : tDg o wi g tt tb (own.map (·.2)) σ H Q)
    (fin : ∀ Dd C t m H', Inv X pins σ H' t → Q (.ref Dd) H' → t.heap.Ns C m → FpOk X pins H' C → compPost (model X.prog X.w) X.A X.xe use Qf (.ref Dd) C (.ok .next) t) :
    wpAny (model X.prog X.w) X.A (comprehension (.DictComp kx vx (⟨tg, iter, ifs, 0⟩ :: rest) scope pos) scope X.env ppos newDict false (eval iter X.env) use) Qf X.xe s := by
  have cellsThere : ∀ y ∈ scope.names, y.2 = .free → ∃ c, X.env.cells.lookup y.1 = some c := fun y hy e => I.ok.has _ (ok.free y hy e)
  refine wpAny_comprehension_free (use := use) rfl plain (closure_ok cellsThere) ok.kind (fun y hy e => by rw [ok.uniq y hy, e]) (thn (walked.run pins s σ H _ I h) fun xv t1 hx => thn hx fun itv t2 made => ?_)
  obtain ⟨it, fp, tn, J, H2, rfl, I2, T, st2, f2, q⟩ := made
  refine wpAny_newObj_type (newEnv_comp ?_)
  have ⟨Dd, hDd⟩ : ∃ Dd, Dd = t2.heap.objs.size := ⟨_, rfl⟩
  rw [← hDd]
  have free : H2 Dd = none := I2.hok.fresh (Nat.le_of_eq hDd.symm)
  obtain ⟨W, ⟨m0, w0⟩, turn⟩ := q Dd free
  have ⟨t3, ht3⟩ : ∃ t3 : Shared, t3 = { t2 with heap := t2.heap.push { cls := .type "dict", data := .dict #[] } } := ⟨_, rfl⟩
  have hp3 : t3.heap = t2.heap.push { cls := .type "dict", data := .dict #[] } := by rw [ht3]
  have I3 : Inv X pins σ (upd H2 Dd o) t3 := by
    rw [ht3]
    exact I2.laid (t' := t2.toks) (fun b u e => Heap.get?_push_of_some _ e) (Nat.le_of_eq hDd.symm) (hDd ▸ emp_ok emp t2.heap I2.big)
  have f3 : ∀ b ∈ fp, FpOk X pins (upd H2 Dd o) b ∧ b < t3.heap.objs.size := fun b hb => by
    obtain ⟨u, e, _⟩ := T.obj _ _ st2 b hb
    have less := Heap.lt_size e
    exact ⟨⟨by rw [upd_ne (hDd ▸ Nat.ne_of_lt less)]; exact (f2 b hb).1, (f2 b hb).2⟩, by rw [hp3, Heap.size_push]; exact Nat.lt_succ_of_lt less⟩
  have st3 : tn 0 t3.heap := T.keep _ _ _ st2 fun b _ u e => by rw [hp3]; exact Heap.get?_push_of_some _ e
  have I4 := block_start I3 ok nd f3
  rw [← ht3]
  have ⟨H3, hH3⟩ : ∃ H3, H3 = upd H2 Dd o := ⟨_, rfl⟩
  rw [← hH3] at I3 I4 f3 w0
  have nofp : ∀ b ∈ fp, H3 b = none := fun b hb => (f3 b hb).1.1
  have ⟨cl, hcl⟩ : ∃ cl, cl = cellsFrom (t3.heap.objs.size + 1) scope.names (cloFrom X.env.cells scope.names []) := ⟨_, rfl⟩
  show codeAny _ _ (.compStart (.DictComp kx vx (⟨tg, iter, ifs, 0⟩ :: rest) scope pos) 0 (.ref it) (.ref Dd) (compEnvC scope (cellsFrom (t3.heap.objs.size + 1) scope.names (cloFrom X.env.cells scope.names [])) t3.heap.objs.size X.env)) (compPost (model X.prog X.w) X.A X.xe use Qf (.ref Dd) t3.heap.objs.size) _
  rw [← hcl] at I4 ⊢
  have pg := target t3 H3 t3.heap.objs.size cl fp
  have pt := tests t3 H3 t3.heap.objs.size cl fp
  have bd := body t3 H3 t3.heap.objs.size cl fp
  have ⟨ce, hce⟩ : ∃ ce, ce = compEnvC scope cl t3.heap.objs.size X.env := ⟨_, rfl⟩
  rw [← hce] at I4 pg pt bd ⊢
  have cL : ce.locals = t3.heap.objs.size := by rw [hce]; rfl
  have ⟨t4, ht4⟩ : ∃ t4 : Shared, t4 = { t3 with heap := pushCells (t3.heap.push { cls := .type "dict", data := .dict #[] }) scope.names } := ⟨_, rfl⟩
  rw [← ht4] at I4
  have st4 : tn 0 t4.heap := T.keep _ _ _ st3 fun b _ u e => by rw [ht4]; exact pushCells_keeps _ _ _ _ (Heap.get?_push_of_some _ e)
  let Cb := X.blk t3 H3 scope ce fp
  have own0 : ∀ {τ : St} {H' : Hp} {t : Shared}, Inv Cb [] τ H' t → (∀ b ∈ fp, H' b = none) → ∀ b ∈ fp, FpOk Cb [] H' b := fun {τ H' t} I' no b hb =>
    ⟨no b hb, (I'.ok.exf b hb).1, I'.ok.exfs b hb, .inl hb, fun x c e => (I'.ok.exf b hb).2 x c e, fun p hp => by have hp : p ∈ ([] : List (Addr × Obj)) ++ [] := hp; simp at hp⟩
  have all : codeAny (model X.prog X.w) X.A (.compLoop (.DictComp kx vx (⟨tg, iter, ifs, 0⟩ :: rest) scope pos) 0 (.ref it) (.ref Dd) ce) (compPost (model X.prog X.w) X.A X.xe use Qf (.ref Dd) t3.heap.objs.size) t4 := by
    refine loop ce (.ref it) Dd _ (fun n t => ∃ i Hi, Inv Cb [] (wipe σ (own.map (·.2))) Hi t ∧ tn i t.heap ∧ (∀ b ∈ fp, Hi b = none) ∧ W i n Hi) ?_ m0 t4 ⟨0, H3, I4, st4, nofp, w0⟩
    rintro n t5 ⟨i, H5, I5, st5, no5, w5⟩
    rcases turn i n H5 w5 with ⟨stop, last⟩ | ⟨go, Nx, hNx, step⟩
    · refine thnF (T.done Cb rfl rfl rfl calm i [] t5 _ H5 (fun _ _ => False) I5 (own0 I5 no5) st5 stop) fun r t6 ⟨hr, I6⟩ => ?_
      subst hr
      have I7 : Inv X pins σ H5 t6 := I3.call' (ch := fp) I6.os I6.base I6.hok I6.bare fun b hb => have z := (f3 b hb).1; ⟨z.2.2.2.1, z.2.1, z.2.2.2.2.1, z.2.2.2.2.2⟩
      have nC : H5 t3.heap.objs.size = none := cL ▸ (show H5 ce.locals = none from I6.free)
      obtain ⟨mm, hn, _⟩ := I6.loc
      have hn : t6.heap.Ns ce.locals mm := hn
      exact fin Dd t3.heap.objs.size t6 mm H5 I7 last (cL ▸ hn) (I3.fpOk (Nat.le_refl _) nC)
    · refine thnF (T.item Cb rfl rfl rfl calm i [] t5 _ H5 (fun _ _ => False) I5 (own0 I5 no5) st5 go) fun r t6 ⟨u, hr, h6⟩ => ?_
      subst hr
      refine thnF h6 fun _ t7 ⟨x, H7, I7, r7, y7, st7, no7⟩ => ?_
      have I7p := I7.pinned (own0 I7 no7) (T.obj _ _ st7)
      refine thnF (pg.run _ t7 _ H7 x u _ I7p r7 (step x H7 y7)) fun _ t8 ⟨σ8, H8, I8, same8, q8⟩ => ?_
      refine thnF (pt.run _ t8 σ8 H8 _ I8 q8) fun b t9 ⟨H9, I9, q9⟩ => ?_
      have back : ∀ τ' H' t', Inv Cb ([] ++ pinsAt fp t7.heap) τ' H' t' → Kp (own.map (·.2)) σ8 τ' → Nx H' → ∃ m, m < n ∧ ∃ i Hi, Inv Cb [] (wipe σ (own.map (·.2))) Hi t' ∧ tn i t'.heap ∧ (∀ b ∈ fp, Hi b = none) ∧ W i m Hi := fun τ' H' t' I' kp nx => by
        obtain ⟨m1, less, w1⟩ := hNx H' nx
        have pin1 : ∀ b ∈ fp, ∀ u, t7.heap.get? b = some u → t'.heap.get? b = some u ∧ H' b = none := fun b hb u e =>
          have z := I'.pin (b, u) (List.mem_append_right _ (List.mem_append_right _ (mem_pinsAt hb e)))
          ⟨z.1, z.2.1⟩
        refine ⟨m1, less, i + 1, H', (I'.unpinned (pins := [])).weak ?_ (fun j v e => kp.2 j v (by rw [same8]; exact e)), T.keep _ _ _ st7 fun b hb u e => (pin1 b hb u e).1, fun b hb => ?_, w1⟩
        · rw [← same8, wipe_length]; exact kp.1
        · obtain ⟨u, e, _⟩ := T.obj _ _ st7 b hb
          exact (pin1 b hb u e).2
      match b, q9 with
      | false, q9 =>
        simp only [Bool.false_eq_true, if_false] at q9 ⊢
        exact back σ8 H9 t9 I9 ⟨rfl, fun j v e => (wipe_some e).1⟩ q9
      | true, q9 =>
        simp only [if_true] at q9 ⊢
        exact bd Dd _ σ8 H9 t9 Nx _ I9 q9 back
  rw [← ht4]
  exact codeAny_compStart_dict all (T.self X.A 0 _ _ _ st4 all)
theorem dg_core {o : HO} {kx vx tg iter : Expr} {ifs : List Expr} {scope : Scope} {own : List (Str × Nat)} {pos : Pos} {wi : TI} {g : TG} {tt : TT} {tk tv : TE} (emp : Emp o) (calm : X.calm = true) (room : X.A.units + 1 < cLine) (nd : X.N.Nodup) (walked : PI X tg iter wi) (ok : BlkOk X.N X.env.scope scope own)
    (target : ∀ (s : Shared) (H : Hp) (C : Addr) (cl : List (Str × Addr)) (fp : List Addr), PG (X.blk s H scope (compEnvC scope cl C X.env) fp) tg g) (tests : ∀ (s : Shared) (H : Hp) (C : Addr) (cl : List (Str × Addr)) (fp : List Addr), PTs (X.blk s H scope (compEnvC scope cl C X.env) fp) ifs tt)
    (key : ∀ (s : Shared) (H : Hp) (C : Addr) (cl : List (Str × Addr)) (fp : List Addr), PE (X.blk s H scope (compEnvC scope cl C X.env) fp) kx tk) (val : ∀ (s : Shared) (H : Hp) (C : Addr) (cl : List (Str × Addr)) (fp : List Addr), PE (X.blk s H scope (compEnvC scope cl C X.env) fp) vx tv)
    (plain : ∀ x, foldedSetIterable iter X.env x = pure x := by intro _; rfl)
    {pins : List (Addr × Obj)} {s : Shared} {σ : St} {H : Hp} {Q : VK} {ppos : Pos} {use : Option (Value → Sem Unit)} {Qf : Value → Shared → Prop} (I : Inv X pins σ H s) (h : tDg o wi g tt (tPut tk tv) (own.map (·.2)) σ H Q)
    (fin : ∀ Dd C t m H', Inv X pins σ H' t → Q (.ref Dd) H' → t.heap.Ns C m → FpOk X pins H' C → compPost (model X.prog X.w) X.A X.xe use Qf (.ref Dd) C (.ok .next) t) :
    wpAny (model X.prog X.w) X.A (comprehension (.DictComp kx vx [⟨tg, iter, ifs, 0⟩] scope pos) scope X.env ppos newDict false (eval iter X.env) use) Qf X.xe s := by
  refine dx_base (fun Dd env post t => wpAny (model X.prog X.w) X.A (eval kx env) (fun a t4 => wpAny (model X.prog X.w) X.A (eval vx env) (fun b t5 => wpAny (model X.prog X.w) X.A (dictSet Dd a b) (fun _ t6 => post t6) (fun _ _ => False) t5) (fun _ _ => False) t4) (fun _ _ => False) t)
    emp calm nd I walked ok target tests ?_ ?_ plain h fin
  · intro s0 H0 C cl fp Dd ps τ Hb t Nx post Ib hb next
    refine thnF ((key s0 H0 C cl fp).run _ t τ Hb _ Ib hb) fun a t4 ⟨y, H4, I4, r4, q4⟩ => ?_
    refine thnF ((val s0 H0 C cl fp).run _ t4 τ H4 _ I4 q4) fun b t5 ⟨z, H5, I5, r5, H6, dp, nx⟩ => ?_
    exact put_comp (X := X.blk s0 H0 scope (compEnvC scope cl C X.env) fp) room I5 dp r4 r5 fun t6 I6 => next τ H6 t6 I6 ⟨rfl, fun j v e => (wipe_some e).1⟩ nx
  · intro env it Dd R J turn n t hJ
    refine compLoop_anyD J (fun n t hJ => wpAny_mono (turn n t hJ) (fun r t1 m1 => ?_) fun _ _ z => z) n hJ
    match r, m1 with
    | none, m1 => exact m1
    | some v, m1 => exact wpAny_mono m1 (fun _ t2 m2 => wpAny_mono m2 (fun _ t3 m3 => wpAny_mono m3 (fun ok t4 m4 => by
        match ok, m4 with
        | false, m4 => exact m4
        | true, m4 => exact thnF m4 fun a t5 m5 => thnF m5 fun b t6 m6 => thnF m6 fun _ t7 m7 => m7) fun _ _ z => z) fun _ _ z => z) fun _ _ z => z
theorem pe_dg {o : HO} {kx vx tg iter : Expr} {ifs : List Expr} {scope : Scope} {own : List (Str × Nat)} {pos : Pos} {wi : TI} {g : TG} {tt : TT} {tk tv : TE} (emp : Emp o) (calm : X.calm = true) (room : X.A.units + 1 < cLine) (nd : X.N.Nodup) (walked : PI X tg iter wi) (ok : BlkOk X.N X.env.scope scope own)
    (target : ∀ (s : Shared) (H : Hp) (C : Addr) (cl : List (Str × Addr)) (fp : List Addr), PG (X.blk s H scope (compEnvC scope cl C X.env) fp) tg g) (tests : ∀ (s : Shared) (H : Hp) (C : Addr) (cl : List (Str × Addr)) (fp : List Addr), PTs (X.blk s H scope (compEnvC scope cl C X.env) fp) ifs tt)
    (key : ∀ (s : Shared) (H : Hp) (C : Addr) (cl : List (Str × Addr)) (fp : List Addr), PE (X.blk s H scope (compEnvC scope cl C X.env) fp) kx tk) (val : ∀ (s : Shared) (H : Hp) (C : Addr) (cl : List (Str × Addr)) (fp : List Addr), PE (X.blk s H scope (compEnvC scope cl C X.env) fp) vx tv)
    (plain : ∀ x, foldedSetIterable iter X.env x = pure x := by intro _; rfl) : PE X (.DictComp kx vx [⟨tg, iter, ifs, 0⟩] scope pos) (tDg o wi g tt (tPut tk tv) (own.map (·.2))) := by
  refine ⟨fun pins s σ H Q I h => ?_⟩
  rw [arm_eval_DictComp]
  refine dg_core emp calm room nd walked ok target tests key val plain I h fun Dd C t m H' I' q hn f => ⟨m, hn, fun h2 sb => ?_⟩
  have ⟨f0, f1, f2, f3, f4, f5⟩ := f
  exact ⟨.ref Dd, H', I'.turned (t' := t.toks) (fun b u hb e => (sb.2 b hb).trans e) f0 f1 f3 f4 f5, rfl, q⟩
theorem ps_setDg {o : HO} {kx vx tg iter : Expr} {ifs : List Expr} {scope : Scope} {own : List (Str × Nat)} {pos : Pos} {wi : TI} {g : TG} {tt : TT} {tk tv : TE} {i : Nat} {y : Str} {py spos : Pos} (emp : Emp o) (calm : X.calm = true) (room : X.A.units + 1 < cLine) (nd : X.N.Nodup) (walked : PI X tg iter wi) (ok : BlkOk X.N X.env.scope scope own)
    (target : ∀ (s : Shared) (H : Hp) (C : Addr) (cl : List (Str × Addr)) (fp : List Addr), PG (X.blk s H scope (compEnvC scope cl C X.env) fp) tg g) (tests : ∀ (s : Shared) (H : Hp) (C : Addr) (cl : List (Str × Addr)) (fp : List Addr), PTs (X.blk s H scope (compEnvC scope cl C X.env) fp) ifs tt)
    (key : ∀ (s : Shared) (H : Hp) (C : Addr) (cl : List (Str × Addr)) (fp : List Addr), PE (X.blk s H scope (compEnvC scope cl C X.env) fp) kx tk) (val : ∀ (s : Shared) (H : Hp) (C : Addr) (cl : List (Str × Addr)) (fp : List Addr), PE (X.blk s H scope (compEnvC scope cl C X.env) fp) vx tv)
    (plain : ∀ x, foldedSetIterable iter X.env x = pure x := by intro _; rfl)
    (here : X.N[i]? = some y) (loc : X.env.scope.names.lookup y = some .local) (swap : swapsWith (.DictComp kx vx [⟨tg, iter, ifs, 0⟩] scope pos) (some (.Name y py)) spos.line X.env = pure true) :
    PS X (.Assign [.Name y py] (.DictComp kx vx [⟨tg, iter, ifs, 0⟩] scope pos) spos) (tAsg (tDg o wi g tt (tPut tk tv) (own.map (·.2))) (gName i)) := by
  refine ⟨fun pins s σ H D I h => ?_⟩
  rw [exec_Assign_Name_used _ _ _ _ swap]
  refine wpAny_bind (wpAny_standAt (wpAny_bind ?_))
  show wpAny _ X.A (do let _ ← comprehension (.DictComp kx vx [⟨tg, iter, ifs, 0⟩] scope pos) scope X.env (firstIterPos [⟨tg, iter, ifs, 0⟩] pos) newDict false (eval iter X.env) (some (assign (.Name y py) X.env))) _ _ s
  have h : (tDg o wi g tt (tPut tk tv) (own.map (·.2))) σ H (fun x H1 => gName i x σ H1 D.nx) := h
  refine wpAny_bind (thn (dg_core (Qf := fun _ t => SP X pins D .next t) emp calm room nd walked ok target tests key val plain I h fun L C t m H' I' q hn f => ?_) fun _ t hq => wpAny_pure (wpAny_pure hq))
  show wpAny _ _ (assign (.Name y py) X.env (.ref L)) _ _ _
  refine wpAny_assign_Name (store_ok2 (v := V.ref L) I' nd here (.inl loc) rfl (fun t2 I2 ⟨a, sb, ha⟩ => ?_) (.inr loc))
  have ⟨f0, f1, f2, f3, f4, f5⟩ := f
  have neq : C ≠ a := ha.elim (fun z => z ▸ f1) fun z e => f4 y a z e.symm
  exact ⟨m, hn.sameBut sb neq, fun h3 sb3 => ⟨_, H', I2.turned (t' := t2.toks) (fun b u hb e => (sb3.2 b hb).trans e) f0 f1 f3 f4 f5, q⟩⟩
theorem dg2_core {o : HO} {kx vx tg iter tg1 iter1 : Expr} {ifs ifs1 : List Expr} {scope : Scope} {own : List (Str × Nat)} {vs1 : List Nat} {pos : Pos} {wi wi1 : TI} {g g1 : TG} {tt tt1 : TT} {tk tv : TE} (emp : Emp o) (calm : X.calm = true) (room : X.A.units + 1 < cLine) (nd : X.N.Nodup) (walked : PI X tg iter wi) (ok : BlkOk X.N X.env.scope scope own) (inn : ∀ i ∈ vs1, i ∈ own.map (·.2))
    (target : ∀ (s : Shared) (H : Hp) (C : Addr) (cl : List (Str × Addr)) (fp : List Addr), PG (X.blk s H scope (compEnvC scope cl C X.env) fp) tg g) (tests : ∀ (s : Shared) (H : Hp) (C : Addr) (cl : List (Str × Addr)) (fp : List Addr), PTs (X.blk s H scope (compEnvC scope cl C X.env) fp) ifs tt)
    (walked1 : ∀ (s : Shared) (H : Hp) (C : Addr) (cl : List (Str × Addr)) (fp : List Addr), PI (X.blk s H scope (compEnvC scope cl C X.env) fp) tg1 iter1 wi1)
    (target1 : ∀ (s : Shared) (H : Hp) (C : Addr) (cl : List (Str × Addr)) (fp : List Addr), PG (X.blk s H scope (compEnvC scope cl C X.env) fp) tg1 g1) (tests1 : ∀ (s : Shared) (H : Hp) (C : Addr) (cl : List (Str × Addr)) (fp : List Addr), PTs (X.blk s H scope (compEnvC scope cl C X.env) fp) ifs1 tt1)
    (key : ∀ (s : Shared) (H : Hp) (C : Addr) (cl : List (Str × Addr)) (fp : List Addr), PE (X.blk s H scope (compEnvC scope cl C X.env) fp) kx tk) (val : ∀ (s : Shared) (H : Hp) (C : Addr) (cl : List (Str × Addr)) (fp : List Addr), PE (X.blk s H scope (compEnvC scope cl C X.env) fp) vx tv)
    (plain : ∀ x, foldedSetIterable iter X.env x = pure x := by intro _; rfl) (plain1 : ∀ env x, foldedSetIterable iter1 env x = pure x := by intro _ _; rfl)
    {pins : List (Addr × Obj)} {s : Shared} {σ : St} {H : Hp} {Q : VK} {ppos : Pos} {use : Option (Value → Sem Unit)} {Qf : Value → Shared → Prop} (I : Inv X pins σ H s) (h : tDg o wi g tt (tIn wi1 g1 tt1 tk tv vs1) (own.map (·.2)) σ H Q)
    (fin : ∀ Dd C t m H', Inv X pins σ H' t → Q (.ref Dd) H' → t.heap.Ns C m → FpOk X pins H' C → compPost (model X.prog X.w) X.A X.xe use Qf (.ref Dd) C (.ok .next) t) :
    wpAny (model X.prog X.w) X.A (comprehension (two kx vx tg iter tg1 iter1 ifs ifs1 scope pos) scope X.env ppos newDict false (eval iter X.env) use) Qf X.xe s := by
  refine dx_base (fun Dd env post t => wpAny (model X.prog X.w) X.A (eval iter1 env) (fun x t4 => wpAny (model X.prog X.w) X.A (pyIter x) (fun it1 t5 => codeAny (model X.prog X.w) X.A (.compStart (two kx vx tg iter tg1 iter1 ifs ifs1 scope pos) 1 it1 (.ref Dd) env) (fun r t => match r with
          | .ok _ => post t
          | .error _ => False) t5) (fun _ _ => False) t4) (fun _ _ => False) t)
    emp calm nd I walked ok target tests ?_ ?_ plain h fin
  · intro s0 H0 C cl fp Dd ps τ Hb t Nx post Ib hb next
    have pg1 := target1 s0 H0 C cl fp
    have pt1 := tests1 s0 H0 C cl fp
    have pk := key s0 H0 C cl fp
    have pv := val s0 H0 C cl fp
    refine thnF ((walked1 s0 H0 C cl fp).run _ t τ Hb _ Ib hb) fun xv t4 hx => thnF hx fun itv t5 made => ?_
    obtain ⟨it1, fp1, tn1, J1, H5, rfl, I5, T1, st5, f5, W1, ⟨m1, w1⟩, turn1⟩ := made
    let Cb := X.blk s0 H0 scope (compEnvC scope cl C X.env) fp
    have stay : ∀ {H' : Hp}, (∀ b ∈ fp1, H' b = none) → ∀ b ∈ fp1, FpOk Cb ps H' b := fun no b hb => ⟨no b hb, (f5 b hb).2⟩
    have all : codeAny (model X.prog X.w) X.A (.compLoop (two kx vx tg iter tg1 iter1 ifs ifs1 scope pos) 1 (.ref it1) (.ref Dd) (compEnvC scope cl C X.env)) (fun r t => match r with
          | .ok _ => post t
          | .error _ => False) t5 := by
      refine inner_loop (fun k t => ∃ j Hj, Inv Cb ps (wipe τ vs1) Hj t ∧ tn1 j t.heap ∧ (∀ b ∈ fp1, Hj b = none) ∧ W1 j k Hj) ?_ m1 ⟨0, H5, I5.weak (wipe_length _ _) (fun j v e => (wipe_some e).1), st5, fun b hb => (f5 b hb).1, w1⟩
      rintro k t6 ⟨j, H6, I6, st6, no6, w6⟩
      rcases turn1 j k H6 w6 with ⟨stop, last⟩ | ⟨go, Ny, hNy, step⟩
      · refine thnF (T1.done Cb rfl rfl rfl calm j _ t6 (wipe τ vs1) H6 (fun _ _ => False) I6 (stay no6) st6 stop) fun r t7 ⟨hr, I7⟩ => ?_
        subst hr
        exact next _ H6 t7 I7 ⟨(wipe_length _ _).symm, fun j v e => by
          obtain ⟨e1, e2⟩ := wipe_some e
          rw [wipe_out fun z => e2 (inn j z)]; exact e1⟩ last
      · refine thnF (T1.item Cb rfl rfl rfl calm j _ t6 (wipe τ vs1) H6 (fun _ _ => False) I6 (stay no6) st6 go) fun r t7 ⟨u, hr, h7⟩ => ?_
        subst hr
        refine thnF h7 fun _ t8 ⟨x, H8, I8, r8, y8, st8, no8⟩ => ?_
        have I8p := I8.pinned (stay no8) (T1.obj _ _ st8)
        refine thnF (pg1.run _ t8 (wipe τ vs1) H8 x u _ I8p r8 (step x H8 y8)) fun _ t9 ⟨σ9, H9, I9, same9, q9⟩ => ?_
        refine thnF (pt1.run _ t9 σ9 H9 _ I9 q9) fun b t10 ⟨H10, I10, q10⟩ => ?_
        have back : ∀ {t' : Shared} {H' : Hp}, Inv Cb (ps ++ pinsAt fp1 t8.heap) σ9 H' t' → Ny H' → ∃ m, m < k ∧ ∃ j Hj, Inv Cb ps (wipe τ vs1) Hj t' ∧ tn1 j t'.heap ∧ (∀ b ∈ fp1, Hj b = none) ∧ W1 j m Hj := fun {t' H'} I' nx => by
          obtain ⟨m2, less, w2⟩ := hNy H' nx
          have pin1 : ∀ b ∈ fp1, ∀ u, t8.heap.get? b = some u → t'.heap.get? b = some u ∧ H' b = none := fun b hb u e =>
            have z := I'.pin (b, u) (List.mem_append_right _ (List.mem_append_right _ (mem_pinsAt hb e)))
            ⟨z.1, z.2.1⟩
          refine ⟨m2, less, j + 1, H', I'.unpinned.weak (by rw [← same9, wipe_length]) (fun j v e => by rw [← same9] at e; exact (wipe_some e).1), T1.keep _ _ _ st8 fun b hb u e => (pin1 b hb u e).1, fun b hb => ?_, w2⟩
          obtain ⟨u, e, _⟩ := T1.obj _ _ st8 b hb
          exact (pin1 b hb u e).2
        match b, q10 with
        | false, q10 =>
          simp only [Bool.false_eq_true, if_false] at q10 ⊢
          exact back I10 q10
        | true, q10 =>
          simp only [if_true] at q10 ⊢
          refine thnF (pk.run _ t10 σ9 H10 _ I10 q10) fun a t11 ⟨y, H11, I11, r11, q11⟩ => ?_
          refine thnF (pv.run _ t11 σ9 H11 _ I11 q11) fun b t12 ⟨z, H12, I12, r12, H13, dp, nx⟩ => ?_
          exact put_comp (X := Cb) room I12 dp r11 r12 fun t13 I13 => back I13 nx
    exact inner_start all (T1.self X.A 0 _ _ _ st5 all)
  · intro env it Dd R J turn n t hJ
    refine outer_loop (plain1 env) J (fun n t hJ => wpAny_mono (turn n t hJ) (fun r t1 m1 => ?_) fun _ _ z => z) n hJ
    match r, m1 with
    | none, m1 => exact m1
    | some v, m1 => exact wpAny_mono m1 (fun _ t2 m2 => wpAny_mono m2 (fun _ t3 m3 => wpAny_mono m3 (fun ok t4 m4 => by
        match ok, m4 with
        | false, m4 => exact m4
        | true, m4 => exact thnF m4 fun a t5 m5 => thnF m5 fun b t6 m6 => m6) fun _ _ z => z) fun _ _ z => z) fun _ _ z => z
theorem pe_dg2 {o : HO} {kx vx tg iter tg1 iter1 : Expr} {ifs ifs1 : List Expr} {scope : Scope} {own : List (Str × Nat)} {vs1 : List Nat} {pos : Pos} {wi wi1 : TI} {g g1 : TG} {tt tt1 : TT} {tk tv : TE} (emp : Emp o) (calm : X.calm = true) (room : X.A.units + 1 < cLine) (nd : X.N.Nodup) (walked : PI X tg iter wi) (ok : BlkOk X.N X.env.scope scope own) (inn : ∀ i ∈ vs1, i ∈ own.map (·.2))
    (target : ∀ (s : Shared) (H : Hp) (C : Addr) (cl : List (Str × Addr)) (fp : List Addr), PG (X.blk s H scope (compEnvC scope cl C X.env) fp) tg g) (tests : ∀ (s : Shared) (H : Hp) (C : Addr) (cl : List (Str × Addr)) (fp : List Addr), PTs (X.blk s H scope (compEnvC scope cl C X.env) fp) ifs tt)
    (walked1 : ∀ (s : Shared) (H : Hp) (C : Addr) (cl : List (Str × Addr)) (fp : List Addr), PI (X.blk s H scope (compEnvC scope cl C X.env) fp) tg1 iter1 wi1)
    (target1 : ∀ (s : Shared) (H : Hp) (C : Addr) (cl : List (Str × Addr)) (fp : List Addr), PG (X.blk s H scope (compEnvC scope cl C X.env) fp) tg1 g1) (tests1 : ∀ (s : Shared) (H : Hp) (C : Addr) (cl : List (Str × Addr)) (fp : List Addr), PTs (X.blk s H scope (compEnvC scope cl C X.env) fp) ifs1 tt1)
    (key : ∀ (s : Shared) (H : Hp) (C : Addr) (cl : List (Str × Addr)) (fp : List Addr), PE (X.blk s H scope (compEnvC scope cl C X.env) fp) kx tk) (val : ∀ (s : Shared) (H : Hp) (C : Addr) (cl : List (Str × Addr)) (fp : List Addr), PE (X.blk s H scope (compEnvC scope cl C X.env) fp) vx tv)
    (plain : ∀ x, foldedSetIterable iter X.env x = pure x := by intro _; rfl) (plain1 : ∀ env x, foldedSetIterable iter1 env x = pure x := by intro _ _; rfl) : PE X (two kx vx tg iter tg1 iter1 ifs ifs1 scope pos) (tDg o wi g tt (tIn wi1 g1 tt1 tk tv vs1) (own.map (·.2))) := by
  refine ⟨fun pins s σ H Q I h => ?_⟩
  rw [arm_eval_DictComp]
  refine dg2_core emp calm room nd walked ok inn target tests walked1 target1 tests1 key val plain plain1 I h fun Dd C t m H' I' q hn f => ⟨m, hn, fun h2 sb => ?_⟩
  have ⟨f0, f1, f2, f3, f4, f5⟩ := f
  exact ⟨.ref Dd, H', I'.turned (t' := t.toks) (fun b u hb e => (sb.2 b hb).trans e) f0 f1 f3 f4 f5, rfl, q⟩
theorem ps_setDg2 {o : HO} {kx vx tg iter tg1 iter1 : Expr} {ifs ifs1 : List Expr} {scope : Scope} {own : List (Str × Nat)} {vs1 : List Nat} {pos : Pos} {wi wi1 : TI} {g g1 : TG} {tt tt1 : TT} {tk tv : TE} {i : Nat} {y : Str} {py spos : Pos} (emp : Emp o) (calm : X.calm = true) (room : X.A.units + 1 < cLine) (nd : X.N.Nodup) (walked : PI X tg iter wi) (ok : BlkOk X.N X.env.scope scope own) (inn : ∀ i ∈ vs1, i ∈ own.map (·.2))
    (target : ∀ (s : Shared) (H : Hp) (C : Addr) (cl : List (Str × Addr)) (fp : List Addr), PG (X.blk s H scope (compEnvC scope cl C X.env) fp) tg g) (tests : ∀ (s : Shared) (H : Hp) (C : Addr) (cl : List (Str × Addr)) (fp : List Addr), PTs (X.blk s H scope (compEnvC scope cl C X.env) fp) ifs tt)
    (walked1 : ∀ (s : Shared) (H : Hp) (C : Addr) (cl : List (Str × Addr)) (fp : List Addr), PI (X.blk s H scope (compEnvC scope cl C X.env) fp) tg1 iter1 wi1)
    (target1 : ∀ (s : Shared) (H : Hp) (C : Addr) (cl : List (Str × Addr)) (fp : List Addr), PG (X.blk s H scope (compEnvC scope cl C X.env) fp) tg1 g1) (tests1 : ∀ (s : Shared) (H : Hp) (C : Addr) (cl : List (Str × Addr)) (fp : List Addr), PTs (X.blk s H scope (compEnvC scope cl C X.env) fp) ifs1 tt1)
    (key : ∀ (s : Shared) (H : Hp) (C : Addr) (cl : List (Str × Addr)) (fp : List Addr), PE (X.blk s H scope (compEnvC scope cl C X.env) fp) kx tk) (val : ∀ (s : Shared) (H : Hp) (C : Addr) (cl : List (Str × Addr)) (fp : List Addr), PE (X.blk s H scope (compEnvC scope cl C X.env) fp) vx tv)
    (plain : ∀ x, foldedSetIterable iter X.env x = pure x := by intro _; rfl) (plain1 : ∀ env x, foldedSetIterable iter1 env x = pure x := by intro _ _; rfl)
    (here : X.N[i]? = some y) (loc : X.env.scope.names.lookup y = some .local) (swap : swapsWith (two kx vx tg iter tg1 iter1 ifs ifs1 scope pos) (some (.Name y py)) spos.line X.env = pure true) :
    PS X (.Assign [.Name y py] (two kx vx tg iter tg1 iter1 ifs ifs1 scope pos) spos) (tAsg (tDg o wi g tt (tIn wi1 g1 tt1 tk tv vs1) (own.map (·.2))) (gName i)) := by
  refine ⟨fun pins s σ H D I h => ?_⟩
  rw [exec_Assign_Name_used _ _ _ _ swap]
  refine wpAny_bind (wpAny_standAt (wpAny_bind ?_))
  show wpAny _ X.A (do let _ ← comprehension (two kx vx tg iter tg1 iter1 ifs ifs1 scope pos) scope X.env (firstIterPos [⟨tg, iter, ifs, 0⟩, ⟨tg1, iter1, ifs1, 0⟩] pos) newDict false (eval iter X.env) (some (assign (.Name y py) X.env))) _ _ s
  have h : (tDg o wi g tt (tIn wi1 g1 tt1 tk tv vs1) (own.map (·.2))) σ H (fun x H1 => gName i x σ H1 D.nx) := h
  refine wpAny_bind (thn (dg2_core (Qf := fun _ t => SP X pins D .next t) emp calm room nd walked ok inn target tests walked1 target1 tests1 key val plain plain1 I h fun L C t m H' I' q hn f => ?_) fun _ t hq => wpAny_pure (wpAny_pure hq))
  show wpAny _ _ (assign (.Name y py) X.env (.ref L)) _ _ _
  refine wpAny_assign_Name (store_ok2 (v := V.ref L) I' nd here (.inl loc) rfl (fun t2 I2 ⟨a, sb, ha⟩ => ?_) (.inr loc))
  have ⟨f0, f1, f2, f3, f4, f5⟩ := f
  have neq : C ≠ a := ha.elim (fun z => z ▸ f1) fun z e => f4 y a z e.symm
  exact ⟨m, hn.sameBut sb neq, fun h3 sb3 => ⟨_, H', I2.turned (t' := t2.toks) (fun b u hb e => (sb3.2 b hb).trans e) f0 f1 f3 f4 f5, q⟩⟩
theorem sw_dict {kx vx : Expr} {gs : List Comprehension} {scope : Scope} {pos py : Pos} {y : Str} {l : Nat} {env : Env} (fn : env.scope.kind = .function) (loc : env.scope.names.lookup y = some .local) (line : (py.line == pos.line) = true)
    (other : (scope.names.any fun (n, k) => n == y && (k == .local || k == .cell)) = false) : swapsWith (.DictComp kx vx gs scope pos) (some (.Name y py)) l env = pure true := by
  have k1 : env.kindOf y = some .local := loc
  have k2 : env.blockKind = .function := by
    unfold Env.blockKind
    rw [fn]; rfl
  unfold swapsWith
  simp only [k2, k1, other, Expr.pos, line]
  rfl
end
end L2
/-! PwW: dicts locked while they are walked; dict comprehensions read. -/
namespace Pw
open PySem L2
def dicty : HO → Bool
  | .dK _ => true
  | .dT _ => true
  | _ => false
theorem dicty_mut {u : HO} (h : dicty u = true) : Mut (some u) := by
  cases u <;> first | exact True.intro | cases h
/-- the same things may be read -/
structure Sm (H H' : Hp) : Prop where
  t : ∀ a xs, H a = some (.tup xs) → H' a = some (.tup xs)
  l : ∀ a xs, Rd H a (.lst xs) → Rd H' a (.lst xs)
  k : ∀ a ks, Rd H a (.dK ks) → Rd H' a (.dK ks)
  s : ∀ a ks, Rd H a (.dT ks) → Rd H' a (.dT ks)
section
variable {K : PySem.W.Frag} {H H' : Hp} {d : Addr} {u : HO} {od : Obj}
theorem Sm.lock (hd : H d = some u) (hu : dicty u = true) : Sm H (upd H d (.frz od u)) := by
  have other : ∀ a o, H a = some o → a ≠ d → (upd H d (.frz od u)) a = some o := fun a o e n => by rw [upd_ne n]; exact e
  have rd : ∀ a o, dicty o = true ∨ (∃ xs, o = .lst xs) → Rd H a o → Rd (upd H d (.frz od u)) a o := fun a o w h => by
    by_cases e : a = d
    · subst e
      rcases h with h | ⟨o', h⟩
      · rw [hd] at h; cases h; exact .inr ⟨od, upd_same⟩
      · rw [hd] at h; cases h; cases hu
    · exact h.imp (fun h => other a _ h e) fun ⟨o', h⟩ => ⟨o', other a _ h e⟩
  refine ⟨fun a xs h => ?_, fun a xs h => rd a _ (.inr ⟨xs, rfl⟩) h, fun a ks h => rd a _ (.inl rfl) h, fun a ks h => rd a _ (.inl rfl) h⟩
  exact other a _ h fun e => by subst e; rw [hd] at h; cases h; cases hu
theorem Sm.unlock (hd : H d = some (.frz od u)) (hu : dicty u = true) : Sm H (upd H d u) := by
  have other : ∀ a o, H a = some o → a ≠ d → (upd H d u) a = some o := fun a o e n => by rw [upd_ne n]; exact e
  have rd : ∀ a o, (∀ o' v, o ≠ .frz o' v) → Rd H a o → Rd (upd H d u) a o := fun a o w h => by
    by_cases e : a = d
    · subst e
      rcases h with h | ⟨o', h⟩
      · rw [hd] at h; cases h; exact absurd rfl (w od u)
      · rw [hd] at h; cases h; exact .inl upd_same
    · exact h.imp (fun h => other a _ h e) fun ⟨o', h⟩ => ⟨o', other a _ h e⟩
  refine ⟨fun a xs h => ?_, fun a xs h => rd a _ (fun _ _ z => nomatch z) h, fun a ks h => rd a _ (fun _ _ z => nomatch z) h, fun a ks h => rd a _ (fun _ _ z => nomatch z) h⟩
  exact other a _ h fun e => by subst e; rw [hd] at h; cases h
mutual
theorem Rp.same (e : Sm H H') : ∀ (d : D) (v : V), Rp K H d v → Rp K H' d v
  | .non, _, h => h
  | .bl _, _, h => h
  | .int _, _, h => h
  | .str _, _, h => h
  | .lst ds, _, ⟨a, xs, h1, h2, h3⟩ => ⟨a, xs, h1, h2.imp (e.l a xs) id, RpL.same e ds xs h3⟩
  | .tup ds, _, ⟨a, xs, h1, h2, h3⟩ => ⟨a, xs, h1, e.t _ _ h2, RpL.same e ds xs h3⟩
  | .dk _ ds, _, ⟨a, xs, h1, h2, h0, h3⟩ => ⟨a, xs, h1, e.k _ _ h2, h0, RpL.same e ds xs h3⟩
  | .dt _ ds, _, ⟨a, xs, h1, h2, h0, h3⟩ => ⟨a, xs, h1, e.s _ _ h2, h0, RpL.same e ds xs h3⟩
theorem RpL.same (e : Sm H H') : ∀ (ds : List D) (xs : List V), RpL K H ds xs → RpL K H' ds xs
  | [], _, h => h
  | d :: ds, _, ⟨x, r, h1, h2, h3⟩ => ⟨x, r, h1, Rp.same e d x h2, RpL.same e ds r h3⟩
end
theorem Cell.same {B B' : Hp} {a : Addr} {c : D} (e : Sm B B') (q : H' a = H a) (h : Cell K B H a c) : Cell K B' H' a c := by
  cases c with
  | lst ds => obtain ⟨xs, h1, h2⟩ := h; exact ⟨xs, by rw [q]; exact h1, RpL.same e _ _ h2⟩
  | dk ks ds => obtain ⟨xs, h1, h0, h2⟩ := h; exact ⟨xs, by rw [q]; exact h1, h0, RpL.same e _ _ h2⟩
  | dt ks ds => obtain ⟨xs, h1, h0, h2⟩ := h; exact ⟨xs, by rw [q]; exact h1, h0, RpL.same e _ _ h2⟩
  | _ => exact h
theorem hid_lock {m : Addr → Prop} (hm : ¬ m d) (hd : H d = some u) (hu : dicty u = true) : Sm (hid m H) (hid m (upd H d (.frz od u))) := by
  rw [hid_new hm]
  exact Sm.lock (by rw [hid_out hm]; exact hd) hu
theorem hid_unlock {m : Addr → Prop} (hm : ¬ m d) (hd : H d = some (.frz od u)) (hu : dicty u = true) : Sm (hid m H) (hid m (upd H d u)) := by
  rw [hid_new hm]
  exact Sm.unlock (by rw [hid_out hm]; exact hd) hu
end

section
variable {K : PySem.W.Frag} {X : Addr → Prop} {a0 : Addr} {H0 : Hp} {M M' : Msk} {ad ad' : Nat → Addr} {σ σ' τ : L2.St} {H H' H1 : Hp} {env env' env'' : List Bd} {l l' : Lv} {p q : Bool} {d0 d' e : D} {ta tb te ti tx tk tv : TE} {i j : Nat} {b c : Bool} {ts tu : TS} {o : Out} {Dn : Ends} {tsA : TA} {d : Addr} {u : HO} {od : Obj} {g : TG} {vs : List Nat}
theorem ER.lock (E : ER K X a0 H0 M ad σ H env) (hd : H d = some u) (hu : dicty u = true) (hm : ¬ M.m d) (hx : ¬ X d) : ER K X a0 (hid M.m (upd H d (.frz od u))) M ad σ (upd H d (.frz od u)) env := by
  have nd : ∀ a, M.m a → a ≠ d := fun a h z => hm (z ▸ h)
  refine ⟨E.len, hid_all, fun a ha => ?_, fun a ha => by rw [upd_ne (nd a ha)]; exact E.min a ha, fun a ha => hid_in ha, fun j e q => ?_, fun j e q => ?_, fun j e q => ?_, fun j e q => ?_, E.inj, E.nmu, E.mu1⟩
  · rcases E.xin a ha with z | z
    · refine .inl ?_
      rw [hid_out fun m => z.1 (E.mout a m), upd_ne (show a ≠ d from fun z => hx (by rw [← z]; exact ha))]
      exact E.has ha
    · exact .inr z
  · obtain ⟨w, h1, h2⟩ := E.im j e q
    exact ⟨w, h1, Rp.same (hid_lock (fun z => z.elim hm hx) hd hu) _ _ h2⟩
  · obtain ⟨w, h1, h2⟩ := E.rd j e q
    exact ⟨w, h1, Rp.same (hid_lock hm hd hu) _ _ h2⟩
  · obtain ⟨h1, h2, h3⟩ := E.ow j e q
    exact ⟨h1, h2, h3.same (hid_lock (fun z => z.elim hm hx) hd hu) (upd_ne (nd _ (M.le _ h1)))⟩
  · obtain ⟨h1, h2, h3⟩ := E.mu j e q
    exact ⟨h1, h2, h3.same (hid_lock (fun z => z.elim hm hx) hd hu) (upd_ne (nd _ (M.le _ h1)))⟩
theorem ER.locked (E' : ER K X a0 (hid M.m (upd H d (.frz od u))) M' ad' σ' H' env') (hm : ¬ M.m d) : H' d = some (.frz od u) ∧ ¬ M'.m d := by
  have h0 : (hid M.m (upd H d (.frz od u))) d = some (.frz od u) := by rw [hid_out hm, upd_same]
  exact ⟨E'.ex d _ h0, fun z => by rw [E'.mout d z] at h0; cases h0⟩
theorem ER.unlock (E : ER K X a0 H0 M ad σ H env) (hd : H d = some u) (hu : dicty u = true) (hm : ¬ M.m d) (hx : ¬ X d) (E' : ER K X a0 (hid M.m (upd H d (.frz od u))) M' ad' σ' H' env') : ER K X a0 H0 M' ad' σ' (upd H' d u) env' := by
  obtain ⟨hd', hm'⟩ := E'.locked hm
  have nd : ∀ a, M'.m a → a ≠ d := fun a h z => hm' (z ▸ h)
  have up : ∀ a v, H0 a = some v → (hid M.m (upd H d (.frz od u))) a = some v ∨ (a = d ∧ v = u) := fun a v h => by
    have m : ¬ M.m a := fun z => by rw [E.mout a z] at h; cases h
    by_cases z : a = d
    · refine .inr ⟨z, ?_⟩
      have := E.ex a v h
      rw [z, hd] at this; exact (Option.some.inj this).symm
    · refine .inl ?_
      rw [hid_out m, upd_ne z]; exact E.ex a v h
  refine ⟨E'.len, fun a v h => ?_, fun a ha => ?_, fun a ha => by rw [upd_ne (nd a ha)]; exact E'.min a ha, fun a ha => ?_, fun j e q => ?_, fun j e q => ?_, fun j e q => ?_, fun j e q => ?_, E'.inj, E'.nmu, E'.mu1⟩
  · rcases up a v h with z | ⟨z, z'⟩
    · by_cases w : a = d
      · subst w
        rw [hid_out hm, upd_same] at z
        rw [upd_same]
        have := E.ex a v h
        rw [hd] at this; exact this
      · rw [upd_ne w]; exact E'.ex a v z
    · rw [z, z', upd_same]
  · rcases E.xin a ha with z | ⟨z, i, hi⟩
    · exact .inl z
    · subst z
      rcases E'.xin a ha with w | w
      · refine absurd (hid_in ?_) w.1
        cases q : env[i]? with
        | none => rw [q] at hi; cases hi
        | some b =>
          cases b with
          | mu c => exact M.le _ (E.mu i c q).1
          | _ => rw [q] at hi; cases hi
      · exact .inr w
  · have no := E'.mout a ha
    cases q : H0 a with
    | none => rfl
    | some v =>
      rcases up a v q with z | ⟨z, _⟩
      · rw [z] at no; cases no
      · exact absurd z (nd a ha)
  · obtain ⟨w, h1, h2⟩ := E'.im j e q
    exact ⟨w, h1, Rp.same (hid_unlock (fun z => z.elim hm' hx) hd' hu) _ _ h2⟩
  · obtain ⟨w, h1, h2⟩ := E'.rd j e q
    exact ⟨w, h1, Rp.same (hid_unlock hm' hd' hu) _ _ h2⟩
  · obtain ⟨h1, h2, h3⟩ := E'.ow j e q
    exact ⟨h1, h2, h3.same (hid_unlock (fun z => z.elim hm' hx) hd' hu) (upd_ne (nd _ (M'.le _ h1)))⟩
  · obtain ⟨h1, h2, h3⟩ := E'.mu j e q
    exact ⟨h1, h2, h3.same (hid_unlock (fun z => z.elim hm' hx) hd' hu) (upd_ne (nd _ (M'.le _ h1)))⟩

/-! ### the lock, where it is wanted -/
def Fz (i : Nat) (σ : L2.St) (H : Hp) : Prop := ∃ d od u, σ[i]? = some (some (V.ref d)) ∧ dicty u = true ∧ H d = some (.frz od u)
def wG (i : Nat) (wi : TI) : TI := fun σ H R => Fz i σ H → wi σ H R
def tLk (t : TE) : TE := fun σ H Q => tLockE t σ H Q ∨ t σ H Q
def tLkS (t : TS) : TS := fun D σ H => tLock t D σ H ∨ t D σ H
theorem pe_lk {X : Cx} {x : Expr} {t : TE} (h : PE X x t) : PE X x (tLk t) := ⟨fun pins s σ H Q I z => z.elim ((pe_lock h).run pins s σ H Q I) (h.run pins s σ H Q I)⟩
theorem ps_lk {X : Cx} {x : Stmt} {t : TS} (h : PS X x t) : PS X x (tLkS t) := ⟨fun pins s σ H D I z => z.elim ((ps_lock h).run pins s σ H D I) (h.run pins s σ H D I)⟩
def isDct : D → Bool
  | .dk _ _ => true
  | .dt _ _ => true
  | _ => false
theorem dct_at (hc : isDct d0 = true) {B : Hp} {v : V} (r : Rp K B d0 v) : ∃ a u, v = .ref a ∧ dicty u = true ∧ (B a = some u ∨ ∃ od, B a = some (.frz od u)) := by
  cases d0 with
  | dk ks ds => obtain ⟨a, xs, h1, h2, _⟩ := r; exact ⟨a, _, h1, rfl, h2⟩
  | dt ks ds => obtain ⟨a, xs, h1, h2, _⟩ := r; exact ⟨a, _, h1, rfl, h2⟩
  | _ => cases hc
theorem ef_lk {t t' : TE} (hi : env[i]? = some (.im d0)) (hc : isDct d0 = true) (h : EvF K p t' env env' e) (hg : ∀ σ H Q, Fz i σ H → t' σ H Q → t σ H Q) : EvF K p (tLk t) env env' e := fun X a0 H0 M ad σ H Q E k => by
  obtain ⟨v, h1, h2⟩ := E.im i _ hi
  obtain ⟨a, u, rfl, hu, hd⟩ := dct_at hc h2
  rcases hd with hd | ⟨od, hd⟩
  · obtain ⟨hm, hd⟩ := of_hid hd
    have hm1 : ¬ M.m a := fun z => hm (.inl z)
    have hx1 : ¬ X a := fun z => hm (.inr z)
    refine .inl ⟨a, u, hd, dicty_mut hu, fun od => hg _ _ _ ⟨a, od, u, h1, hu, upd_same⟩ ?_⟩
    refine h X a0 _ M ad σ _ _ (E.lock hd hu hm1 hx1) fun b H2 H3 hb hs E2 g0 e1 p1 r1 => ?_
    obtain ⟨q2, _⟩ := E2.locked hm1
    have q3 := g0 _ _ q2
    refine ⟨q3, ?_⟩
    have ba : b ≠ a := fun z => by rw [z, q2] at hb; cases hb
    have nH : ∀ c v, H c = some v → c ≠ a → (upd H a (.frz od u)) c = some v := fun c v z n => by rw [upd_ne n]; exact z
    refine k b (upd H2 a u) (upd H3 a u) (by rw [upd_ne ba]; exact hb) (fun c v z => ?_) (E.unlock hd hu hm1 hx1 E2) (fun c v z => ?_) (fun c v z => ?_) (fun hp c v z => ?_) ?_
    · by_cases w : c = a
      · rw [w, upd_same]; simp
      · rw [upd_ne w]; exact hs c v (nH c v z w)
    · by_cases w : c = a
      · rw [w, upd_same] at z ⊢; exact z
      · rw [upd_ne w] at z ⊢; exact g0 c v z
    · obtain ⟨z1, z2⟩ := of_hid z
      rw [hid_out z1]
      by_cases w : c = a
      · rw [w, upd_same]; rw [w, hd] at z2; exact z2
      · rw [upd_ne w]
        exact (of_hid (e1 c v (by rw [hid_out z1]; exact nH c v z2 w))).2
    · by_cases w : c = a
      · rw [w, upd_same]; rw [w, hd] at z; exact z
      · rw [upd_ne w]; exact p1 hp c v (nH c v z w)
    · exact r1.same (hid_unlock hm q2 hu) (upd_ne ba)
  · obtain ⟨_, hd⟩ := of_hid hd
    exact .inr (hg _ _ _ ⟨a, od, u, h1, hu, hd⟩ (h X a0 H0 M ad σ H Q E k))
def unD (Dn : Ends) (d : Addr) (od : Obj) (u : HO) : Ends := ⟨fun σ' H' => H' d = some (.frz od u) ∧ Dn.nx σ' (upd H' d u), fun v H' => H' d = some (.frz od u) ∧ Dn.rt v (upd H' d u), fun σ' H' => H' d = some (.frz od u) ∧ Dn.bk σ' (upd H' d u), fun σ' H' => H' d = some (.frz od u) ∧ Dn.ct σ' (upd H' d u)⟩
theorem OK.unlock (E : ER K X a0 H0 M ad σ H env) (hd : H d = some u) (hu : dicty u = true) (hm : ¬ M.m d) (hx : ¬ X d) (k : OK K X a0 H0 Dn o) : OK K X a0 (hid M.m (upd H d (.frz od u))) (unD Dn d od u) o := by
  cases o with
  | nx env1 => exact fun M' ad' σ' H' E' => ⟨(E'.locked hm).1, k M' ad' σ' _ (E.unlock hd hu hm hx E')⟩
  | bk env1 => exact fun M' ad' σ' H' E' => ⟨(E'.locked hm).1, k M' ad' σ' _ (E.unlock hd hu hm hx E')⟩
  | ct env1 => exact fun M' ad' σ' H' E' => ⟨(E'.locked hm).1, k M' ad' σ' _ (E.unlock hd hu hm hx E')⟩
  | rx c => exact fun env1 M' ad' σ' v H' E' r => ⟨(E'.locked hm).1, k env1 M' ad' σ' v _ (E.unlock hd hu hm hx E') (Rp.same (hid_unlock hx (E'.locked hm).1 hu) _ _ r)⟩
  | rm c c' => exact fun env1 M' ad' σ' v H' h E' r => ⟨(E'.locked hm).1, k env1 M' ad' σ' v _ h (E.unlock hd hu hm hx E') (Rp.same (hid_unlock hx (E'.locked hm).1 hu) _ _ r)⟩
  | rf c =>
    exact fun env1 M' ad' σ' a H2 H' h E' g0 r => by
      have q := (E'.locked hm).1
      have ba : a ≠ d := fun z => by rw [z, q] at h; cases h
      have q' := g0 _ _ q
      refine ⟨q', k env1 M' ad' σ' a (upd H2 d u) _ (by rw [upd_ne ba]; exact h) (E.unlock hd hu hm hx E') (fun c v z => ?_) (r.same (hid_unlock hx q hu) (upd_ne ba))⟩
      by_cases w : c = d
      · rw [w, upd_same] at z ⊢; exact z
      · rw [upd_ne w] at z ⊢; exact g0 c v z
theorem sd_lk {t t' : TS} (hi : env[i]? = some (.im d0)) (hc : isDct d0 = true) (h : SD K t' env o) (hg : ∀ D σ H, Fz i σ H → t' D σ H → t D σ H) : SD K (tLkS t) env o := fun X a0 H0 M ad σ H Dn E k => by
  obtain ⟨v, h1, h2⟩ := E.im i _ hi
  obtain ⟨a, u, rfl, hu, hd⟩ := dct_at hc h2
  rcases hd with hd | ⟨od, hd⟩
  · obtain ⟨hm, hd⟩ := of_hid hd
    have hm1 : ¬ M.m a := fun z => hm (.inl z)
    have hx1 : ¬ X a := fun z => hm (.inr z)
    exact .inl ⟨a, u, hd, dicty_mut hu, fun od => hg _ _ _ ⟨a, od, u, h1, hu, upd_same⟩ (h X a0 _ M ad σ _ _ (E.lock hd hu hm1 hx1) (OK.unlock E hd hu hm1 hx1 k))⟩
  · obtain ⟨_, hd⟩ := of_hid hd
    exact .inr (hg _ _ _ ⟨a, od, u, h1, hu, hd⟩ (h X a0 H0 M ad σ H Dn E k))

/-! ### the keys of a dict, walked -/
def keyD : Key → D
  | .inl n => .int n
  | .inr s => .str s
theorem keyD_rp (k : Key) (B : Hp) : Rp K B (keyD k) (kV k) := by cases k <;> rfl
theorem keyD_eq {k : Key} {B : Hp} {v : V} (h : Rp K B (keyD k) v) : v = kV k := by cases k <;> exact h
theorem rpl_kd : ∀ (ks : List Key) (B : Hp), RpL K B (ks.map keyD) (ks.map kV)
  | [], _ => rfl
  | k :: ks, B => ⟨_, _, rfl, keyD_rp k B, rpl_kd ks B⟩
theorem scl_kd : ∀ ks : List Key, (ks.map keyD).all scl = true
  | [] => rfl
  | k :: ks => by
    rw [List.map_cons, List.all_cons, scl_kd ks]
    cases k <;> rfl
theorem zip_get {κ : Type} {ks : List κ} {xs : List V} (hl : xs.length = ks.length) {i : Nat} {k : κ} (h : ks[i]? = some k) : ∃ v, (ks.zip xs)[i]? = some (k, v) := by
  have hi : i < ks.length := (List.getElem?_eq_some_iff.mp h).1
  have hx : xs[i]? = some xs[i] := List.getElem?_eq_getElem (by omega)
  exact ⟨xs[i], by rw [List.getElem?_zip_eq_some]; exact ⟨h, hx⟩⟩
theorem ei_keysK {ks : List Key} {ds : List D} (hi : env[i]? = some (.im (.dk ks ds))) : EvI K l true (wG i (iKeys (tVar i))) env env (ks.map keyD) := fun X a0 H0 M ad σ H R E k hf => by
  obtain ⟨v, h1, a, xs, rfl, h2, h3, h4⟩ := E.im i _ hi
  obtain ⟨d, od, u, g1, gu, g2⟩ := hf
  rw [h1] at g1; cases g1
  obtain rfl : u = .dK (ks.zip xs) := by
    rcases h2 with h2 | ⟨o', h2⟩
    · have := (of_hid h2).2; rw [g2] at this; cases this
    · have := (of_hid h2).2; rw [g2] at this; cases this; rfl
  have hl : xs.length = ks.length := by rw [h4.length, h3]
  refine ⟨_, h1, a, od, rfl, .inl ⟨_, g2, k _ H E (Ex.refl _) (fun _ => Ex.refl _) fun n H2 g => ?_⟩⟩
  have hm : ¬ M.m a := fun z => by
    rcases h2 with h2 | ⟨o', h2⟩ <;> exact (of_hid h2).1 (.inl z)
  have fz : H2 a = some (.frz od (.dK (ks.zip xs))) := g a _ (by rw [hid_out hm]; exact g2)
  refine ⟨fun c hc => ?_, fun hn => ⟨fz, by simp [List.length_zip, hl]; simpa using hn⟩⟩
  rw [List.getElem?_map] at hc
  obtain ⟨k0, hk0, rfl⟩ := Option.map_eq_some_iff.mp hc
  obtain ⟨w, hw⟩ := zip_get hl hk0
  refine ⟨⟨fz, (List.getElem?_eq_some_iff.mp hw).1⟩, fun x H' y => .inl ⟨y.1, ?_⟩⟩
  obtain ⟨k1, v1, e1, rfl⟩ := y.2
  rw [hw] at e1; cases e1
  exact keyD_rp k0 _
theorem ei_keysT {ks : List (List Key)} {ds : List D} (hi : env[i]? = some (.im (.dt ks ds))) : EvI K l true (wG i (iKeys (tVar i))) env env (ks.map fun k => .tup (k.map keyD)) := fun X a0 H0 M ad σ H R E k hf => by
  obtain ⟨v, h1, a, xs, rfl, h2, h3, h4⟩ := E.im i _ hi
  obtain ⟨d, od, u, g1, gu, g2⟩ := hf
  rw [h1] at g1; cases g1
  obtain rfl : u = .dT (ks.zip xs) := by
    rcases h2 with h2 | ⟨o', h2⟩
    · have := (of_hid h2).2; rw [g2] at this; cases this
    · have := (of_hid h2).2; rw [g2] at this; cases this; rfl
  have hl : xs.length = ks.length := by rw [h4.length, h3]
  refine ⟨_, h1, a, od, rfl, .inr ⟨_, g2, k _ H E (Ex.refl _) (fun _ => Ex.refl _) fun n H2 g => ?_⟩⟩
  have hm : ¬ M.m a := fun z => by
    rcases h2 with h2 | ⟨o', h2⟩ <;> exact (of_hid h2).1 (.inl z)
  have fz : H2 a = some (.frz od (.dT (ks.zip xs))) := g a _ (by rw [hid_out hm]; exact g2)
  refine ⟨fun c hc => ?_, fun hn => ⟨fz, by simp [List.length_zip, hl]; simpa using hn⟩⟩
  rw [List.getElem?_map] at hc
  obtain ⟨k0, hk0, rfl⟩ := Option.map_eq_some_iff.mp hc
  obtain ⟨w, hw⟩ := zip_get hl hk0
  refine ⟨⟨fz, (List.getElem?_eq_some_iff.mp hw).1⟩, fun x H' y => .inr (.inr (.inl ⟨y.1, ?_⟩))⟩
  obtain ⟨k1, v1, b, e1, rfl, hb⟩ := y.2
  rw [hw] at e1; cases e1
  exact ⟨b, _, _, rfl, hb, rfl, scl_kd k0, fun B' => rpl_kd k0 B'⟩
end
end Pw
/-! PwX: dict comprehensions read. -/
namespace Pw
open PySem L2
theorem rpl_keyD {K : PySem.W.Frag} {B : Hp} : ∀ {ks : List Key} {vs : List V}, RpL K B (ks.map keyD) vs → vs = ks.map kV
  | [], _, h => h
  | k :: ks, _, ⟨x, r, h1, h2, h3⟩ => by rw [h1, keyD_eq h2, rpl_keyD h3]; rfl
/-- a kind of keys: what the dict holds, its data, a key as data -/
structure Kd (κ : Type) [DecidableEq κ] where
  ob : List (κ × V) → HO
  md : List (κ × D) → D
  key : κ → D
  nt : ∀ l xs, ob l ≠ .tup xs
  cell : ∀ (K : PySem.W.Frag) (B H : Hp) (a : Addr) (kvs : List (κ × V)) (l : List (κ × D)), H a = some (ob kvs) → RpK K B kvs l → Cell K B H a (md l)
  put : ∀ (K : PySem.W.Frag) (B H : Hp) (a : Addr) (k : κ) (y v : V) (kvs : List (κ × V)), Rp K B (key k) y → Ex B H → H a = some (ob kvs) → kvs.length < sizeLine → DPut H a y v (upd H a (ob (putK kvs k v)))
def kdK : Kd Key where
  ob := .dK
  md := dkL
  key := keyD
  nt := fun _ _ z => nomatch z
  cell := fun K B H a kvs l h r => by
    obtain ⟨xs, rfl, r2⟩ := of_rpk r
    exact ⟨xs, h, by simp, r2⟩
  put := fun K B H a k y v kvs r e h z => by
    rw [keyD_eq r]
    exact DPut.k h z
def kdT : Kd (List Key) where
  ob := .dT
  md := dtL
  key := fun k => .tup (k.map keyD)
  nt := fun _ _ z => nomatch z
  cell := fun K B H a kvs l h r => by
    obtain ⟨xs, rfl, r2⟩ := of_rpk r
    exact ⟨xs, h, by simp, r2⟩
  put := fun K B H a k y v kvs r e h z => by
    obtain ⟨b, xs, rfl, h1, h2⟩ := r
    have : xs = k.map kV := rpl_keyD h2
    subst this
    exact DPut.t h (e _ _ h1) z
section
variable {K : PySem.W.Frag} {X : Addr → Prop} {a0 : Addr} {H0 : Hp} {M M' : Msk} {ad ad' : Nat → Addr} {σ σ' τ : L2.St} {H H' H1 : Hp} {env env' env'' : List Bd} {l l' : Lv} {p q : Bool} {d d' e : D} {ta tb te ti tx tk tv : TE} {i j : Nat} {b c : Bool} {ts tu : TS} {o : Out} {Dn : Ends} {tsA : TA} {Dl : Addr} {g : TG} {vs : List Nat}
theorem RpK.mono {κ : Type} {B B' : Hp} (e : Ex B B') : ∀ {kvs : List (κ × V)} {ll : List (κ × D)}, RpK K B kvs ll → RpK K B' kvs ll
  | [], [], _ => trivial
  | _ :: _, _ :: _, ⟨h1, h2, h3⟩ => ⟨h1, Rp.mono e _ _ h2, RpK.mono e h3⟩
  | [], _ :: _, h => h.elim
  | _ :: _, [], h => h.elim
theorem ER.updHid (E : ER K X a0 H0 (M.hide Dl) ad τ H env) (hb : H0 Dl = none) (nM : ¬ M.m Dl) {o : HO} (ho : ∀ xs, o ≠ .tup xs) : ER K X a0 H0 (M.hide Dl) ad τ (upd H Dl o) env := by
  have hm1 : hid (fun b => (M.hide Dl).m b ∨ X b) (upd H Dl o) = hid (fun b => (M.hide Dl).m b ∨ X b) H := hid_upd (.inl (.inr rfl))
  have hm2 : hid (M.hide Dl).m (upd H Dl o) = hid (M.hide Dl).m H := hid_upd (.inr rfl)
  refine ⟨E.len, fun b u h => ?_, E.xin, fun b h => ?_, E.mout, fun j e q => ?_, fun j e q => ?_, fun j e q => ?_, fun j e q => ?_, E.inj, E.nmu, E.mu1⟩
  · rw [upd_ne fun (z : b = Dl) => by rw [z, hb] at h; cases h]; exact E.ex b u h
  · by_cases z : b = Dl
    · rw [z, upd_same]; exact ⟨by simp, fun xs e => ho xs (Option.some.inj e)⟩
    · rw [upd_ne z]; exact E.min b h
  · rw [hm1]; exact E.im j e q
  · rw [hm2]; exact E.rd j e q
  · obtain ⟨g1, g2, g3⟩ := E.ow j e q
    rw [hm1]
    exact ⟨g1, g2, g3.mono (Ex.refl _) (upd_ne fun z => nM (M.le _ (by rw [← z]; exact g1)))⟩
  · obtain ⟨g1, g2, g3⟩ := E.mu j e q
    rw [hm1]
    exact ⟨g1, g2, g3.mono (Ex.refl _) (upd_ne fun z => nM (M.le _ (by rw [← z]; exact g1)))⟩
theorem hid_hide (nM : ¬ M.m Dl) (nX : ¬ X Dl) : hid (fun b => (M.hide Dl).m b ∨ X b) H = hid (fun b => M.m b ∨ X b) (hid (fun b => b = Dl) H) := by
  funext a
  by_cases h1 : a = Dl
  · subst h1
    rw [hid_in (.inl (.inr rfl)), hid_out (m := fun b => M.m b ∨ X b) (fun z => z.elim nM nX), hid_in (m := fun b => b = a) rfl]
  · by_cases h2 : M.m a ∨ X a
    · rw [hid_in (m := fun b => M.m b ∨ X b) h2, hid_in (m := fun b => (M.hide Dl).m b ∨ X b) (h2.imp .inl id)]
    · rw [hid_out (m := fun b => M.m b ∨ X b) h2, hid1 h1, hid_out (m := fun b => (M.hide Dl).m b ∨ X b) fun z => by
        rcases z with (z | z) | z
        · exact h2 (.inl z)
        · exact h1 z
        · exact h2 (.inr z)]
theorem hid_hide1 (nM : ¬ M.m Dl) : hid (M.hide Dl).m H = hid M.m (hid (fun b => b = Dl) H) := by
  funext a
  by_cases h1 : a = Dl
  · subst h1
    rw [hid_in (m := (M.hide a).m) (.inr rfl), hid_out (m := M.m) nM, hid_in (m := fun b => b = a) rfl]
  · by_cases h2 : M.m a
    · rw [hid_in (m := M.m) h2, hid_in (m := (M.hide Dl).m) (.inl h2)]
    · rw [hid_out (m := M.m) h2, hid1 h1, hid_out (m := (M.hide Dl).m) fun z => z.elim h2 h1]
/-- the new object forgotten again -/
theorem ER.unhide (E : ER K X a0 H0 (M.hide Dl) ad τ H env) (hb : H0 Dl = none) (nM : ¬ M.m Dl) (nX : ¬ X Dl) : ER K X a0 H0 M ad τ (hid (fun b => b = Dl) H) env := by
  have nD : ∀ b, M.m b → b ≠ Dl := fun b h z => nM (z ▸ h)
  refine ⟨E.len, fun b u h => ?_, E.xin, fun b h => ?_, fun b h => E.mout b (.inl h), fun j e q => ?_, fun j e q => ?_, fun j e q => ?_, fun j e q => ?_, E.inj, E.nmu, E.mu1⟩
  · rw [hid1 fun (z : b = Dl) => by rw [z, hb] at h; cases h]; exact E.ex b u h
  · rw [hid1 (nD b h)]; exact E.min b (.inl h)
  · rw [← hid_hide nM nX]; exact E.im j e q
  · rw [← hid_hide1 nM]; exact E.rd j e q
  · obtain ⟨g1, g2, g3⟩ := E.ow j e q
    rw [← hid_hide nM nX]
    exact ⟨g1, g2, g3.mono (Ex.refl _) (hid1 (nD _ (M.le _ g1)))⟩
  · obtain ⟨g1, g2, g3⟩ := E.mu j e q
    rw [← hid_hide nM nX]
    exact ⟨g1, g2, g3.mono (Ex.refl _) (hid1 (nD _ (M.le _ g1)))⟩
/-- one turn that lays a pair and changes nothing else -/
structure TurnK (K : PySem.W.Frag) (l : Lv) (g : TG) (tk tv : TE) (vs : List Nat) (d : D) (env : List Bd) (kd vd : D) : Prop where
  go : ∃ envt, TgD K l g d env envt ∧ EvD K .l2 true tk envt envt kd ∧ EvD K .l2 true tv envt envt vd ∧ (vs.all fun v => !isMu envt[v]?) = true ∧ env = wipeE envt vs
def putAll {κ α : Type} [DecidableEq κ] (acc : List (κ × α)) (ps : List (κ × α)) : List (κ × α) := ps.foldl (fun a kv => putA a kv.1 kv.2) acc
theorem putAll_len {κ α : Type} [DecidableEq κ] : ∀ (ps acc : List (κ × α)), (putAll acc ps).length ≤ acc.length + ps.length
  | [], acc => Nat.le_refl _
  | p :: ps, acc => by
    have := putAll_len ps (putA acc p.1 p.2)
    have h := putA_len (l := acc) (k := p.1) (v := p.2)
    show (putAll (putA acc p.1 p.2) ps).length ≤ acc.length + (ps.length + 1)
    omega
theorem putAll_app {κ α : Type} [DecidableEq κ] (acc ps qs : List (κ × α)) : putAll acc (ps ++ qs) = putAll (putAll acc ps) qs := List.foldl_append ..
theorem putAll_take {κ α : Type} [DecidableEq κ] {acc ps : List (κ × α)} {i : Nat} {x : κ × α} (h : ps[i]? = some x) : putAll acc (ps.take (i + 1)) = putA (putAll acc (ps.take i)) x.1 x.2 := by
  rw [List.take_add_one, h, putAll_app]
  rfl
/-- a walk that lays a pair a turn -/
theorem walk_put {κ : Type} [DecidableEq κ] (C : Kd κ) (hl : l.lp = true) {J : It} {ds : List D} {ps : List (κ × D)} {acc0 : List (κ × D)} {kvs0 : List (κ × V)} {B H4 : Hp} {Fin : Hp → Prop} (nM : ¬ M.m Dl) (bD : B Dl = none) (it : ItOk K J ds (mx l X) B) (hw : TgW g vs)
    (hlen : ps.length = ds.length) (hn : acc0.length + ds.length < 100000) (turn : ∀ (i : Nat) d kv, ds[i]? = some d → ps[i]? = some kv → TurnK K l g tk tv vs d env (C.key kv.1) kv.2)
    (E : ER K X a0 B (M.hide Dl) ad (wipe τ vs) H4 env) (hD : H4 Dl = some (C.ob kvs0)) (hr : RpK K (hid (fun b => (M.hide Dl).m b ∨ X b) H4) kvs0 acc0)
    (fin : ∀ H kvs, ER K X a0 B (M.hide Dl) ad (wipe τ vs) H env → Ex (hid (fun b => b = Dl) H4) H → H Dl = some (C.ob kvs) → RpK K (hid (fun b => (M.hide Dl).m b ∨ X b) H) kvs (putAll acc0 ps) → Fin H) :
    ∃ W : Nat → Nat → Hp → Prop, (∃ m, W 0 m H4) ∧ ∀ i m Hc, W i m Hc →
      (J.stop i Hc ∧ Fin Hc) ∨ (J.go i Hc ∧ ∃ Nx : Hp → Prop, (∀ Hn, Nx Hn → ∃ m1, m1 < m ∧ W (i + 1) m1 Hn) ∧ ∀ x Hn, J.yld i Hc x Hn → g x (wipe τ vs) Hn fun σ2 H2 => wipe σ2 vs = wipe τ vs ∧ tYes σ2 H2 fun b H3 => if b = true then tPut tk tv Dl σ2 H3 Nx else Nx H3) := by
  let P : Nat → Hp → Prop := fun i H => ∃ kvs, ER K X a0 B (M.hide Dl) ad (wipe τ vs) H env ∧ Ex (hid (fun b => b = Dl) H4) H ∧ H Dl = some (C.ob kvs) ∧ RpK K (hid (fun b => (M.hide Dl).m b ∨ X b) H) kvs (putAll acc0 (ps.take i))
  refine ⟨fun i m H => m = ds.length - i ∧ i ≤ ds.length ∧ P i H, ⟨ds.length, by simp, Nat.zero_le _, kvs0, E, hid_all, hD, hr⟩, ?_⟩
  rintro i m H ⟨rfl, hle, kvs, Ei, exi, hDi, hri⟩
  obtain ⟨it1, it2⟩ := it i H Ei.ex
  by_cases hlt : i < ds.length
  · refine .inr ?_
    have hd : ds[i]? = some ds[i] := List.getElem?_eq_getElem hlt
    have hp : ps[i]? = some ps[i] := List.getElem?_eq_getElem (by omega)
    obtain ⟨go, yl⟩ := it1 _ hd
    obtain ⟨envt, hT, hK, hV, hmu, henv⟩ := (turn i _ _ hd hp).go
    refine ⟨go, P (i + 1), fun Hn n => ⟨ds.length - (i + 1), by omega, rfl, hlt, n⟩, fun x H2 y => ?_⟩
    obtain ⟨gx, E2, r2⟩ := turn_in hl Ei (yl x H2 y)
    refine hw.mono _ _ _ _ _ (fun σ3 H3 z => ⟨z.1.trans wipe_wipe, z.2 (z.1.trans wipe_wipe)⟩) (hw.w x (L2.wipe τ vs) H2 (fun σ3 H3 => L2.wipe σ3 vs = L2.wipe τ vs → _) ?_)
    refine hT X a0 _ _ ad _ H2 x _ E2 r2 fun σ3 E3 hσ => ?_
    show tPut tk tv Dl σ3 H2 (P (i + 1))
    refine hK X a0 _ _ ad σ3 H2 _ E3 fun y1 H5 E5 e5 p5 r5 => ?_
    refine hV X a0 _ _ ad σ3 H5 _ E5 fun v H6 E6 e6 p6 r6 => ?_
    have g6 : Ex H H6 := (gx.trans (p5 rfl)).trans (p6 rfl)
    have hD6 := g6 _ _ hDi
    have hri6 := RpK.mono (hid_ex g6) hri
    have hz : kvs.length < sizeLine := by
      rw [rpk_len hri]
      have a1 := putAll_len (ps.take i) acc0
      have a2 : (ps.take i).length ≤ ds.length := by rw [List.length_take]; omega
      exact Nat.lt_of_le_of_lt (Nat.le_trans a1 (Nat.add_le_add_left a2 _)) (Nat.lt_of_lt_of_le hn (by decide))
    refine ⟨_, C.put K _ H6 Dl (ps[i].1) y1 v kvs (Rp.mono (hid_ex (p6 rfl)) _ _ r5) hid_all hD6 hz, _, ?_, fun b u hb => ?_, upd_same, ?_⟩
    · have E7 := ((E6.wipe hmu).1).updHid bD nM (C.nt (putK kvs (ps[i].1) v))
      rw [hσ, ← henv] at E7
      exact E7
    · obtain ⟨z1, z2⟩ := of_hid hb
      rw [upd_ne z1]
      exact g6 _ _ (exi b u hb)
    · rw [putAll_take hp, show hid (fun b => (M.hide Dl).m b ∨ X b) (upd H6 Dl (C.ob (putK kvs (ps[i].1) v))) = hid (fun b => (M.hide Dl).m b ∨ X b) H6 from hid_upd (.inl (.inr rfl))]
      exact rpk_put r6 hri6
  · have e : i = ds.length := by omega
    subst e
    refine .inl ⟨it2 (Nat.le_refl _), fin H kvs Ei exi hDi ?_⟩
    rw [← hlen, List.take_length] at hri
    exact hri
/-- {k: v for target in iter}, nothing changed within -/
theorem ef_dg {κ : Type} [DecidableEq κ] (C : Kd κ) (hl : l.lp = true) {wi : TI} {ds : List D} {ps : List (κ × D)} (hi : EvI K l true wi env env ds) (hw : TgW g vs) (han : ∀ v ∈ vs, env[v]? = some .an) (hlen : ps.length = ds.length) (hn : ds.length < 100000)
    (turn : ∀ (i : Nat) d kv, ds[i]? = some d → ps[i]? = some kv → TurnK K l g tk tv vs d env (C.key kv.1) kv.2) : EvF K true (tDg (C.ob []) wi g tYes (tPut tk tv) vs) env env (C.md (putAll [] ps)) := fun X a0 H0 M ad σ H Q E k =>
  hi X a0 H0 M ad σ H _ E fun J H1 E1 e1 p1 it => fun Dl hD => by
    have g0 : Ex H1 (upd H1 Dl (C.ob [])) := Ex.new hD
    have nM : ¬ M.m Dl := fun z => (E1.min _ z).1 hD
    have nX : ¬ X Dl := fun z => (E1.has z).1 hD
    have bD : (hid M.m H1) Dl = none := by rw [hid_out nM]; exact hD
    have σan : ∀ (j : Nat) b, env[j]? = some b → b = .an ∨ (wipe σ vs)[j]? = σ[j]? := fun j b hb => by
      by_cases m : j ∈ vs
      · rw [han j m] at hb; exact .inl (Option.some.inj hb).symm
      · rw [wipe_get, if_neg fun z => m z.1]; exact .inr rfl
    have E1w : ER K X a0 (hid M.m H1) M ad (wipe σ vs) H1 env := (E1.rebase).anyAt (wipe_length _ _) σan
    have ES : ER K X a0 (hid M.m H1) (M.hide Dl) ad (wipe σ vs) (upd H1 Dl (C.ob [])) env := E1w.mask hD g0 (by rw [upd_same]; exact ⟨by simp, fun xs e => C.nt _ xs (Option.some.inj e)⟩)
    refine walk_put C hl nM bD it hw hlen (acc0 := []) (by simpa using hn) turn ES (kvs0 := []) upd_same trivial fun H' kvs E' ex' hD' hr' => ?_
    have back := (E'.unhide bD nM nX)
    have EF : ER K X a0 (hid M.m H1) M ad σ (hid (fun b => b = Dl) H') env := back.anyAt (wipe_length _ _).symm fun j b hb => by
      by_cases m : j ∈ vs
      · rw [han j m] at hb; exact .inl (Option.some.inj hb).symm
      · rw [wipe_get, if_neg fun z => m z.1]; exact .inr rfl
    have ne1 : ∀ b o, H1 b = some o → b ≠ Dl := fun b o h z => by rw [z, hD] at h; cases h
    have all : Ex H1 (hid (fun b => b = Dl) H') := fun b o h => by
      have n := ne1 b o h
      rw [hid1 n]
      exact ex' b o (by rw [hid1 n, upd_ne n]; exact h)
    refine k Dl (hid (fun b => b = Dl) H') H' (hid_in (m := fun b => b = Dl) rfl) (fun b o hb => ?_) (E1.back EF) hid_all (e1.trans (hid_ex all)) (fun z => (p1 z).trans all) (C.cell K _ _ _ _ _ hD' (by rw [← hid_hide nM nX]; exact hr'))
    rw [all b o ((p1 rfl) b o hb)]; simp
/-- a turn of the outer walk: the inner items and the pairs they lay -/
structure TurnO (K : PySem.W.Frag) (l l1 : Lv) (g g1 : TG) (wi1 : TI) (tk tv : TE) (vs vs1 : List Nat) (d : D) (env : List Bd) {κ : Type} [DecidableEq κ] (C : Kd κ) (ps : List (κ × D)) : Prop where
  go : ∃ envt ds1, TgD K l g d env envt ∧ EvI K l1 true wi1 envt envt ds1 ∧ (∀ v ∈ vs1, envt[v]? = some .an) ∧ (vs.all fun v => !isMu envt[v]?) = true ∧ env = wipeE envt vs ∧ ps.length = ds1.length ∧
    ∀ (i : Nat) d kv, ds1[i]? = some d → ps[i]? = some kv → TurnK K l1 g1 tk tv vs1 d envt (C.key kv.1) kv.2
theorem wipe_sub {vs vs1 : List Nat} (h : ∀ i ∈ vs1, i ∈ vs) : wipe (wipe σ vs1) vs = wipe σ vs := by
  apply List.ext_getElem?
  intro j
  rw [wipe_get (σ := L2.wipe σ vs1), wipe_get (σ := σ) (vs := vs), wipe_length]
  by_cases hl : j ∈ vs ∧ j < σ.length
  · rw [if_pos hl, if_pos hl]
  · rw [if_neg hl, if_neg hl, wipe_get, if_neg fun z => hl ⟨h j z.1, z.2⟩]
theorem ef_dg2 {κ : Type} [DecidableEq κ] (C : Kd κ) (hl : l.lp = true) {l1 : Lv} (hl1 : l1.lp = true) {wi wi1 : TI} {g1 : TG} {vs1 : List Nat} {ds : List D} {pss : List (List (κ × D))} (hi : EvI K l true wi env env ds) (hw : TgW g vs) (hw1 : TgW g1 vs1) (inn : ∀ i ∈ vs1, i ∈ vs) (han : ∀ v ∈ vs, env[v]? = some .an)
    (hlen : pss.length = ds.length) (hn : ds.length ≤ 100) (hn1 : ∀ ps ∈ pss, ps.length ≤ 100)
    (turn : ∀ (i : Nat) d ps, ds[i]? = some d → pss[i]? = some ps → TurnO K l l1 g g1 wi1 tk tv vs vs1 d env C ps) : EvF K true (tDg (C.ob []) wi g tYes (tIn wi1 g1 tYes tk tv vs1) vs) env env (C.md (putAll [] pss.flatten)) := fun X a0 H0 M ad σ H Q E k =>
  hi X a0 H0 M ad σ H _ E fun J H1 E1 e1 p1 it => fun Dl hD => by
    have g0 : Ex H1 (upd H1 Dl (C.ob [])) := Ex.new hD
    have nM : ¬ M.m Dl := fun z => (E1.min _ z).1 hD
    have nX : ¬ X Dl := fun z => (E1.has z).1 hD
    have bD : (hid M.m H1) Dl = none := by rw [hid_out nM]; exact hD
    have σan : ∀ (j : Nat) b, env[j]? = some b → b = .an ∨ (wipe σ vs)[j]? = σ[j]? := fun j b hb => by
      by_cases m : j ∈ vs
      · rw [han j m] at hb; exact .inl (Option.some.inj hb).symm
      · rw [wipe_get, if_neg fun z => m z.1]; exact .inr rfl
    have E1w : ER K X a0 (hid M.m H1) M ad (wipe σ vs) H1 env := (E1.rebase).anyAt (wipe_length _ _) σan
    have ES : ER K X a0 (hid M.m H1) (M.hide Dl) ad (wipe σ vs) (upd H1 Dl (C.ob [])) env := E1w.mask hD g0 (by rw [upd_same]; exact ⟨by simp, fun xs e => C.nt _ xs (Option.some.inj e)⟩)
    have ne1 : ∀ b o, H1 b = some o → b ≠ Dl := fun b o h z => by rw [z, hD] at h; cases h
    let P : Nat → Hp → Prop := fun i Hi => ∃ kvs, ER K X a0 (hid M.m H1) (M.hide Dl) ad (wipe σ vs) Hi env ∧ Ex H1 (hid (fun b => b = Dl) Hi) ∧ Hi Dl = some (C.ob kvs) ∧ RpK K (hid (fun b => (M.hide Dl).m b ∨ X b) Hi) kvs (putAll [] (pss.take i).flatten)
    refine ⟨fun i m Hi => m = ds.length - i ∧ i ≤ ds.length ∧ P i Hi, ⟨ds.length, by simp, Nat.zero_le _, [], ES, fun b o h => by
      have n := ne1 b o h
      rw [hid1 n, upd_ne n]; exact h, upd_same, trivial⟩, ?_⟩
    rintro i m Hi ⟨rfl, hle, kvs, Ei, exi, hDi, hri⟩
    obtain ⟨it1, it2⟩ := it i Hi Ei.ex
    by_cases hlt : i < ds.length
    · refine .inr ?_
      have hd : ds[i]? = some ds[i] := List.getElem?_eq_getElem hlt
      have hp : pss[i]? = some pss[i] := List.getElem?_eq_getElem (by omega)
      obtain ⟨go, yl⟩ := it1 _ hd
      obtain ⟨envt, ds1, hT, hI1, han1, hmu, henv, hlen1, turn1⟩ := (turn i _ _ hd hp).go
      refine ⟨go, P (i + 1), fun Hn n => ⟨ds.length - (i + 1), by omega, rfl, hlt, n⟩, fun x H2 y => ?_⟩
      obtain ⟨gx, E2, r2⟩ := turn_in hl Ei (yl x H2 y)
      refine hw.mono _ _ _ _ _ (fun σ3 H3 z => ⟨z.1.trans wipe_wipe, z.2 (z.1.trans wipe_wipe)⟩) (hw.w x (L2.wipe σ vs) H2 (fun σ3 H3 => L2.wipe σ3 vs = L2.wipe σ vs → _) ?_)
      refine hT X a0 _ _ ad _ H2 x _ E2 r2 fun σ3 E3 hσ => ?_
      show tIn wi1 g1 tYes tk tv vs1 Dl σ3 H2 (P (i + 1))
      refine hI1 X a0 _ _ ad σ3 H2 _ E3 fun J1 H4 E4 e4 p4 itn => ?_
      have g4 : Ex Hi H4 := gx.trans (p4 rfl)
      have hD4 := g4 _ _ hDi
      have σan1 : ∀ (j : Nat) b, envt[j]? = some b → b = .an ∨ (wipe σ3 vs1)[j]? = σ3[j]? := fun j b hb => by
        by_cases m : j ∈ vs1
        · rw [han1 j m] at hb; exact .inl (Option.some.inj hb).symm
        · rw [wipe_get, if_neg fun z => m z.1]; exact .inr rfl
      have E4w := (E4.rebase).anyAt (wipe_length σ3 vs1) σan1
      have bD4 : (hid (M.hide Dl).m H4) Dl = none := hid_in (m := (M.hide Dl).m) (.inr rfl)
      have small : (putAll [] (pss.take i).flatten).length + ds1.length < 100000 := by
        have a1 := putAll_len (pss.take i).flatten ([] : List (κ × D))
        have a2 : (pss.take i).flatten.length ≤ i * 100 := by
          have : ∀ (n : Nat) (qs : List (List (κ × D))), (∀ q ∈ qs, q.length ≤ 100) → (qs.take n).flatten.length ≤ n * 100 := fun n => by
            induction n with
            | zero => intro qs _; simp
            | succ n ih =>
              intro qs hq
              cases qs with
              | nil => simp
              | cons q qs =>
                have := ih qs fun z hz => hq z (List.mem_cons_of_mem _ hz)
                have := hq q List.mem_cons_self
                rw [List.take_succ_cons, List.flatten_cons, List.length_append]
                omega
          exact this i pss hn1
        have a3 := hn1 _ (List.getElem_mem (show i < pss.length by omega))
        have a4 : ([] : List (κ × D)).length = 0 := rfl
        omega
      refine walk_put C hl1 (B := hid (M.hide Dl).m H4) (kvs0 := kvs) (acc0 := putAll [] (pss.take i).flatten) nM bD4 itn hw1 hlen1 small turn1 E4w hD4 (RpK.mono (hid_ex g4) hri) fun H' kvs' E' ex' hD' hr' => ?_
      have E5 := E4.back E'
      have E6 := (E5.wipe hmu).1
      rw [wipe_sub inn, hσ, ← henv] at E6
      refine ⟨kvs', E6, fun b u hb => ?_, hD', ?_⟩
      · have n := ne1 b u hb
        have := exi b u hb
        rw [hid1 n] at this ⊢
        exact ex' b u (by rw [hid1 n]; exact g4 b u this)
      · rw [List.take_add_one, hp, List.flatten_append, putAll_app]
        simpa using hr'
    · have e : i = ds.length := by omega
      subst e
      refine .inl ⟨it2 (Nat.le_refl _), ?_⟩
      rw [← hlen, List.take_length] at hri
      have back := (Ei.unhide bD nM nX)
      have EF : ER K X a0 (hid M.m H1) M ad σ (hid (fun b => b = Dl) Hi) env := back.anyAt (wipe_length _ _).symm fun j b hb => by
        by_cases m : j ∈ vs
        · rw [han j m] at hb; exact .inl (Option.some.inj hb).symm
        · rw [wipe_get, if_neg fun z => m z.1]; exact .inr rfl
      refine k Dl (hid (fun b => b = Dl) Hi) Hi (hid_in (m := fun b => b = Dl) rfl) (fun b o hb => ?_) (E1.back EF) hid_all (e1.trans (hid_ex exi)) (fun z => (p1 z).trans exi) (C.cell K _ _ _ _ _ hDi (by rw [← hid_hide nM nX]; exact hri))
      rw [exi b o ((p1 rfl) b o hb)]; simp
end
end Pw
/-! PwY: printed readings' rules for dicts: comprehensions, keys, items, values, get. -/
namespace L2
open PySem PySem.Spec PyProof.Rows
section
variable {X : Cx}
/-- max(e.values()), ints, one at least -/
def tMaxVals (td : TE) : TE := fun σ H Q => td σ H fun x H1 => ∃ a kvs ns, x = V.ref a ∧ Rd H1 a (.dK kvs) ∧ kvs.map (·.2) = ns.map V.int ∧ ns ≠ [] ∧ ∀ m, m ∈ ns → (∀ j ∈ ns, j ≤ m) → Q (.int m) H1
theorem pe_maxVals {ob : Expr} {p pos ap mp : Pos} {td : TE} (calm : X.calm = true) (gl : Gl X "max") (none' : X.mg "max" = none) (dict : PE X ob td) (base : attributeBase ob "values" X.env (eval ob X.env) = eval ob X.env := by rfl) (line : (ap.endLine == mp.line) = true := by rfl)
    (star : starEach [Expr.Call (.Attribute ob "values" ap) [] [] mp] X.env = [(false, eval (Expr.Call (.Attribute ob "values" ap) [] [] mp) X.env)] := by rfl) :
    PE X (.Call (.Name "max" p) [.Call (.Attribute ob "values" ap) [] [] mp] [] pos) (tMaxVals td) := by
  refine ⟨fun pins s σ H Q I h => ?_⟩
  refine wpAny_Call_Name_kw (ld_blt I gl none' (u := .builtin "max") (by first | rfl | decide +kernel) ?_ (by first | decide +kernel | decide) (by first | decide +kernel | decide))
  rw [star]
  refine PySem.callWith_builtin1 (wpAny_Call_method0_late base line (thn (dict.run pins s σ H _ I h) fun v t1 ⟨x, H1, I1, r1, a, kvs, ns, ex, ha, hv, some1, q⟩ => ?_))
  subst ex
  obtain rfl : v = Value.ref a := r1
  obtain ⟨_, nsys, vs, rel, whole⟩ := dk_rd I1.hok ha
  obtain ⟨ep, dat⟩ := whole.dictAt
  have dat2 := dat
  obtain ⟨o, es, ho, exd, _⟩ := dat2
  refine ⟨"dict", "dict.values", F.plainAttrs_dict, F.slot_dict_values, F.type_dict_values, ⟨o, ho, exd.1⟩, fun b e => ?_, Calls.callWith_builtin rfl (PySem.evalArgs_none ?_)⟩
  · cases e
    exact ⟨o, ho, exd.2.1⟩
  refine call_meetsIn F.slot_dict_values ⟨o, ho, exd.1⟩ F.entry_dict_values (F.args_dict_values_1 _) (meets_dict_values (mixKind X.prog X.w) a nsys) ⟨⟨vs, whole⟩, ?_⟩
  have old : ∀ b u, t1.heap.get? b = some u → (t1.heap.push { cls := .type "dict_values", data := .fields #[.ref a] }).get? b = some u := fun b u e => Heap.get?_push_of_some _ e
  have dat3 : (t1.heap.push { cls := .type "dict_values", data := .fields #[.ref a] }).DictAt (mixKind X.prog X.w) a vs ep := dat.keep old
  have many : vs.length = ns.length := by
    have := congrArg List.length hv
    simp only [List.length_map] at this
    rw [← this, KV.length rel]
  have pos0 : 0 < vs.length := by rw [many]; exact List.length_pos_iff.mpr some1
  have item : ∀ (i : Nat) (v : Value), (∃ k, vs[i]? = some (k, v)) → ∃ t, v = Value.int (ns.getD i 0) t := fun i v ⟨k, hk⟩ => by
    obtain ⟨x, g1, g2⟩ := KV.at' rel hk
    have g3 : (ns.map V.int)[i]? = some x := by rw [← hv, List.getElem?_map, g1]; rfl
    rw [List.getElem?_map] at g3
    obtain ⟨j, hj, rfl⟩ := Option.map_eq_some_iff.mp g3
    obtain ⟨t, g4⟩ := g2
    exact ⟨t, by rw [g4, List.getD_eq_getElem?_getD, hj]; rfl⟩
  refine call_max_walk (wpAny_pyIter_values (v := t1.heap.objs.size) (d := a) ⟨_, Heap.get?_push_size _ rfl, rfl, rfl⟩ dat3 ?_)
  have below : a < t1.heap.objs.size := Heap.lt_size ho
  have size1 : (t1.heap.push { cls := .type "dict_values", data := .fields #[.ref a] }).objs.size = t1.heap.objs.size + 1 := Heap.size_push _ _
  refine ⟨_, _, _, _, _, _, _, rfl, Walks.dictValues (knd := mixKind X.prog X.w) (A := X.A.in1) (I.ok.hd calm) (t1.heap.push { cls := .type "dict_values", data := .fields #[.ref a] }).objs.size a (by rw [size1]; exact Nat.ne_of_lt (Nat.lt_succ_of_lt below)) vs ep,
    ⟨⟨_, Heap.get?_push_size _ rfl, rfl, rfl⟩, dat3.keep fun b u e => Heap.get?_push_of_some _ e⟩, fun b hb => ?_, pos0, CmpOf.ints_gt (fun i => ns.getD i 0) item, fun v h2 tk hP hk => ?_⟩
  · show b < ((t1.heap.push _).push _).objs.size
    rw [Heap.size_push, Heap.size_push]
    rw [size1] at hb
    have e : b = t1.heap.objs.size + 1 ∨ b = a := by simpa using hb
    rcases e with rfl | rfl
    · exact Nat.lt_succ_self _
    · exact Nat.lt_succ_of_lt (Nat.lt_succ_of_lt below)
  · obtain ⟨t, rfl⟩ := item _ v hP
    obtain ⟨b1, b2⟩ := argBest_gt (fun i => ns.getD i 0) (vs.length - 1)
    refine ⟨.int _, H1, I1.kept (t' := tk) fun b u e => hk b u (fun hmem => ?_) (Heap.get?_push_of_some _ (old b u e)), ⟨t, rfl⟩, q _ ?_ fun j hj => ?_⟩
    · have e1 := List.mem_singleton.mp hmem
      have e2 := Heap.lt_size e
      rw [size1] at e1
      rw [e1] at e2
      exact absurd e2 (Nat.not_lt.mpr (Nat.le_succ _))
    · have inb : argBest (fun i j => decide (ns.getD i 0 > ns.getD j 0)) (vs.length - 1) < ns.length := by omega
      rw [List.getD_eq_getElem?_getD, List.getElem?_eq_getElem inb]
      exact List.getElem_mem inb
    · obtain ⟨i, hi, e⟩ := List.mem_iff_getElem.mp hj
      have e2 : ns.getD i 0 = j := by rw [List.getD_eq_getElem?_getD, List.getElem?_eq_getElem hi, ← e]; rfl
      rw [← e2]
      exact b2 i (by omega)
/-- a value that is locked from here on -/
def tLkR (td : TE) : TE := fun σ H Q => td σ H fun x H1 => ∃ a u, x = V.ref a ∧ H1 a = some u ∧ Mut (some u) ∧ ∀ od, Q x (upd H1 a (.frz od u))
theorem pe_lkR {e : Expr} {td : TE} (h : PE X e td) : PE X e (tLkR td) := ⟨fun pins s σ H Q I z => thn (h.run pins s σ H _ I z) fun v s1 ⟨x, H1, I1, r1, a, u, ex, ha, mu, q⟩ => by
  obtain ⟨od, I2⟩ := I1.lock ha mu
  exact ⟨x, _, I2, r1, q od⟩⟩
end
end L2
namespace Pw
open PySem L2
def maxI : List Int → Option Int
  | [] => none
  | x :: r => some (r.foldl (fun a b => if a < b then b else a) x)
def minI : List Int → Option Int
  | [] => none
  | x :: r => some (r.foldl (fun a b => if b < a then b else a) x)
theorem foldmax : ∀ (r : List Int) (x : Int), r.foldl (fun a b => if a < b then b else a) x ∈ x :: r ∧ ∀ y ∈ x :: r, y ≤ r.foldl (fun a b => if a < b then b else a) x
  | [], x => by simp
  | y :: r, x => by
    have ih := foldmax r (if x < y then y else x)
    rw [List.foldl_cons]
    refine ⟨?_, fun z hz => ?_⟩
    · rcases List.mem_cons.mp ih.1 with h | h
      · rw [h]; split <;> simp
      · exact List.mem_cons_of_mem _ (List.mem_cons_of_mem _ h)
    · have h0 := ih.2 _ (List.mem_cons_self ..)
      have h1 := fun h => ih.2 z (List.mem_cons_of_mem _ h)
      generalize List.foldl _ _ r = F at h0 h1 ⊢
      rcases List.mem_cons.mp hz with h | h
      · rw [h]; split at h0 <;> omega
      · rcases List.mem_cons.mp h with h | h
        · rw [h]; split at h0 <;> omega
        · exact h1 h
theorem foldmin : ∀ (r : List Int) (x : Int), r.foldl (fun a b => if b < a then b else a) x ∈ x :: r ∧ ∀ y ∈ x :: r, r.foldl (fun a b => if b < a then b else a) x ≤ y
  | [], x => by simp
  | y :: r, x => by
    have ih := foldmin r (if y < x then y else x)
    rw [List.foldl_cons]
    refine ⟨?_, fun z hz => ?_⟩
    · rcases List.mem_cons.mp ih.1 with h | h
      · rw [h]; split <;> simp
      · exact List.mem_cons_of_mem _ (List.mem_cons_of_mem _ h)
    · have h0 := ih.2 _ (List.mem_cons_self ..)
      have h1 := fun h => ih.2 z (List.mem_cons_of_mem _ h)
      generalize List.foldl _ _ r = F at h0 h1 ⊢
      rcases List.mem_cons.mp hz with h | h
      · rw [h]; split at h0 <;> omega
      · rcases List.mem_cons.mp h with h | h
        · rw [h]; split at h0 <;> omega
        · exact h1 h
theorem maxI_spec {ns : List Int} {m : Int} (h : maxI ns = some m) : m ∈ ns ∧ ∀ y ∈ ns, y ≤ m := by
  cases ns with
  | nil => cases h
  | cons x r => cases h; exact foldmax r x
theorem minI_spec {ns : List Int} {m : Int} (h : minI ns = some m) : m ∈ ns ∧ ∀ y ∈ ns, m ≤ y := by
  cases ns with
  | nil => cases h
  | cons x r => cases h; exact foldmin r x
section
variable {K : PySem.W.Frag} {X : Addr → Prop} {a0 : Addr} {H0 : Hp} {M M' : Msk} {ad ad' : Nat → Addr} {σ σ' τ : L2.St} {H H' H1 : Hp} {env env' env'' : List Bd} {l l' : Lv} {p q : Bool} {d d' e : D} {ta tb te ti tx tk tv : TE} {i j : Nat} {b c : Bool} {ts tu : TS} {o : Out} {Dn : Ends} {tsA : TA} {g : TG} {vs : List Nat}
theorem zip_snd {κ : Type} {ks : List κ} {xs : List V} (h : xs.length = ks.length) : (ks.zip xs).map (·.2) = xs := by
  rw [show (ks.zip xs).map (·.2) = (ks.zip xs).unzip.2 by rw [List.unzip_eq_map]]
  rw [List.unzip_zip h.symm]
theorem ev_maxVals {l1 : List (Int × Int)} {m : Int} (hm : maxI (l1.map (·.2)) = some m) (h : EvD K l p te env env' (dkL (l1.map fun z => ((Sum.inl z.1 : Key), D.int z.2)))) : EvD K l' p (tMaxVals te) env env' (.int m) := fun X a0 H0 M ad σ H Q E k =>
  h X a0 H0 M ad σ H _ E fun x H1 E1 e1 p1 r1 => by
    obtain ⟨a, xs, rfl, h1, h2, h3⟩ := r1
    have hx : xs = (l1.map (·.2)).map V.int := RpL.ints (by
      have : (l1.map fun z => ((Sum.inl z.1 : Key), D.int z.2)).map (·.2) = (l1.map (·.2)).map D.int := by simp [List.map_map, Function.comp_def]
      rw [← this]; exact h3)
    obtain ⟨m1, m2⟩ := maxI_spec hm
    have hl : xs.length = ((l1.map fun z => ((Sum.inl z.1 : Key), D.int z.2)).map (·.1)).length := by rw [h3.length, h2]
    exact ⟨a, _, l1.map (·.2), rfl, ex_rd hid_all h1, by rw [zip_snd hl, hx], fun z => (by rw [z] at m1; cases m1), fun m' a1 a2 => by
      have : m' = m := Int.le_antisymm (m2 _ a1) (a2 _ m1)
      rw [this]; exact k _ H1 E1 e1 p1 rfl⟩
theorem rc_maxJ {ns : List Int} {m : Int} (hm : maxI ns = some m) : RC K l l' (rMax K) [.lst (ns.map D.int)] (.int m) := fun X a0 H0 M ad σ H env xs Q E r k => by
  obtain ⟨x, rfl, a, ys, rfl, h1, h2⟩ := r.one'
  obtain ⟨m1, m2⟩ := maxI_spec hm
  refine ⟨a, ns, rfl, ex_l hid_all (by rw [← h2.ints]; exact h1), List.length_pos_of_mem m1, fun m' a1 a2 => ?_⟩
  have : m' = m := Int.le_antisymm (m2 _ a1) (a2 _ m1)
  rw [this]; exact k _ H E (Ex.refl _) rfl
theorem rc_minJ {ns : List Int} {m : Int} (hm : minI ns = some m) : RC K l l' (rMin K) [.lst (ns.map D.int)] (.int m) := fun X a0 H0 M ad σ H env xs Q E r k => by
  obtain ⟨x, rfl, a, ys, rfl, h1, h2⟩ := r.one'
  obtain ⟨m1, m2⟩ := minI_spec hm
  refine ⟨a, ns, rfl, ex_l hid_all (by rw [← h2.ints]; exact h1), List.length_pos_of_mem m1, fun m' a1 a2 => ?_⟩
  have : m' = m := Int.le_antisymm (a2 _ m1) (m2 _ a1)
  rw [this]; exact k _ H E (Ex.refl _) rfl
theorem maxLK {Y : Cx} (h : Y.K = K) (hc : Y.calm = true) : CallR Y (.builtin "max") (rMax K) := h ▸ cr_max hc
theorem minLK {Y : Cx} (h : Y.K = K) (hc : Y.calm = true) : CallR Y (.builtin "min") (rMin K) := h ▸ cr_min hc

/-! ### get of a dict that is only read -/
theorem ev_dget2G {l1 : List (List Key × D)} {ns : List Int} (h : EvD K l true ta env env (dtL l1)) (hi : EvA K .l2 true tsA env env (ns.map .int)) (hn : ns.length ≤ 1000) (hx : EvD K .l2 true tx env env e) : EvD K l true (tDGet2 ta (tTup tsA) tx) env env ((getA l1 (ns.map Sum.inl)).getD e) := fun X a0 H0 M ad σ H Q E k =>
  h X a0 H0 M ad σ H _ E fun x H1 E1 e1 p1 r1 => by
    obtain ⟨a, xs, rfl, h1, h2, h3⟩ := r1
    refine ⟨a, rfl, .inr ⟨_, ex_rd hid_all h1⟩, hi X a0 H0 M ad σ H1 _ E1 fun ys H2 E2 e2 p2 r2 => ?_⟩
    have hy := r2.ints
    subst hy
    refine ⟨by rw [List.length_map]; exact Nat.le_trans hn (by decide), fun c hc => ?_⟩
    have g2 : Ex H2 (upd H2 c (.tup (ns.map V.int))) := Ex.new hc
    refine hx X a0 H0 M ad σ _ _ (E2.grow g2) fun z H3 E3 e3 p3 r3 => ?_
    have hck : H3 c = some (.tup ((ns.map Sum.inl : List Key).map kV)) := by
      rw [p3 rfl c _ upd_same, List.map_map]
      rfl
    have w2 : Ex H1 H3 := ((p2 rfl).trans g2).trans (p3 rfl)
    have w1 : Ex (hid M.n H) (hid M.n H3) := ((e1.trans e2).trans (hid_ex g2)).trans e3
    have gg := rpk_get (k := (ns.map Sum.inl : List Key)) (rpk_of h3)
    cases hg : getA l1 (ns.map Sum.inl) with
    | none => exact ⟨none, .inr ⟨_, _, c, ex_rd (hid_all.trans w2) h1, rfl, hck, (gg.2 hg).symm⟩, k z H3 E3 w1 (fun z => (p1 z).trans w2) (by rw [hg]; exact Rp.mono (hid_le mk_le) _ _ r3)⟩
    | some d =>
      obtain ⟨v, q1, q2⟩ := gg.1 d hg
      exact ⟨some v, .inr ⟨_, _, c, ex_rd (hid_all.trans w2) h1, rfl, hck, q1.symm⟩, k v H3 E3 w1 (fun z => (p1 z).trans w2) (by rw [hg]; exact Rp.mono (hid_ex w2) _ _ q2)⟩
theorem ev_dget2Gt {α β : Type} {f : α → D} {f' : β → D} {c : α → β} {l1 : List (List Int × α)} {ns : List Int} {v : β} (hc : ∀ x, f' (c x) = f x) (h : EvD K l true ta env env (dtL (l1.map fun z => ((z.1.map Sum.inl : List Key), f z.2)))) (hi : EvA K .l2 true tsA env env (ns.map .int)) (hn : ns.length ≤ 1000) (hx : EvD K .l2 true tx env env (f' v)) :
    EvD K l true (tDGet2 ta (tTup tsA) tx) env env (f' (((getA l1 ns).map c).getD v)) := by
  have := ev_dget2G h hi hn hx
  rw [getA_map (fun z : List Int => (z.map Sum.inl : List Key)) f inls_inj] at this
  refine ev_is this ?_
  cases getA l1 ns with
  | none => rfl
  | some x => exact (hc x).symm

/-! ### keys, items -/
theorem ei_keysTt {α : Type} {f : α → D} {l1 : List (List Int × α)} (hi : env[i]? = some (.im (dtL (l1.map fun z => ((z.1.map Sum.inl : List Key), f z.2))))) : EvI K l true (wG i (iKeys (tVar i))) env env ((l1.map (·.1)).map fun ns => D.tup (ns.map D.int)) := by
  have h := ei_keysT (K := K) (l := l) (i := i) (env := env) (ks := (l1.map fun (z : List Int × α) => ((z.1.map Sum.inl : List Key), f z.2)).map fun (z : List Key × D) => z.1) (ds := (l1.map fun (z : List Int × α) => ((z.1.map Sum.inl : List Key), f z.2)).map fun (z : List Key × D) => z.2) hi
  have e : (((l1.map fun (z : List Int × α) => ((z.1.map Sum.inl : List Key), f z.2)).map fun (z : List Key × D) => z.1).map fun k => D.tup (List.map keyD k)) = ((l1.map (·.1)).map fun ns => D.tup (ns.map D.int)) := by
    rw [List.map_map, List.map_map, List.map_map]
    refine List.map_congr_left fun z _ => ?_
    show D.tup ((z.1.map Sum.inl : List Key).map keyD) = D.tup (z.1.map D.int)
    rw [List.map_map]; rfl
  rw [← e]; exact h
theorem ei_keysKt {α : Type} {f : α → D} {l1 : List (Int × α)} (hi : env[i]? = some (.im (dkL (l1.map fun z => ((Sum.inl z.1 : Key), f z.2))))) : EvI K l true (wG i (iKeys (tVar i))) env env ((l1.map (·.1)).map D.int) := by
  have h := ei_keysK (K := K) (l := l) (i := i) (env := env) (ks := (l1.map fun (z : Int × α) => ((Sum.inl z.1 : Key), f z.2)).map fun (z : Key × D) => z.1) (ds := (l1.map fun (z : Int × α) => ((Sum.inl z.1 : Key), f z.2)).map fun (z : Key × D) => z.2) hi
  have e : (((l1.map fun (z : Int × α) => ((Sum.inl z.1 : Key), f z.2)).map fun (z : Key × D) => z.1).map keyD) = ((l1.map (·.1)).map D.int) := by
    rw [List.map_map, List.map_map, List.map_map]
    rfl
  rw [← e]; exact h
theorem ei_items {l1 : List (Key × D)} (hl : l.lp = true) (h : EvF K p te env env' (dkL l1)) : EvI K l p (iItems (tLkR te)) env env' (l1.map fun z => .tup [keyD z.1, z.2]) := fun X a0 H0 M ad σ H R E k =>
  h X a0 H0 M ad σ H _ E fun a H1 H2 ha hs E1 g0 e1 p1 rc => by
    obtain ⟨xs, h1, h2, h3⟩ := rc
    refine ⟨a, _, rfl, h1, True.intro, fun od => ⟨a, od, _, rfl, upd_same, ?_⟩⟩
    have ne1 : ∀ b o, H1 b = some o → b ≠ a := fun b o h z => by rw [z, ha] at h; cases h
    have gr : Ex H1 (upd H2 a (.frz od (.dK ((l1.map (·.1)).zip xs)))) := fun b o h => by rw [upd_ne (ne1 b o h)]; exact g0 b o h
    have nm : ¬ M.m a := fun z => (E1.min a z).1 ha
    refine k _ _ (E1.grow gr) (e1.trans (hid_ex gr)) (fun z => (p1 z).trans gr) fun n H3 g3 => ?_
    have fz : H3 a = some (.frz od (.dK ((l1.map (·.1)).zip xs))) := g3 a _ (by rw [hid_out nm, upd_same])
    have hl2 : xs.length = (l1.map (·.1)).length := by rw [h3.length]; simp
    refine ⟨fun c hc => ?_, fun hn => ⟨fz, by simpa [List.length_zip, hl2] using hn⟩⟩
    rw [List.getElem?_map] at hc
    obtain ⟨z0, hz0, rfl⟩ := Option.map_eq_some_iff.mp hc
    have hk : (l1.map (·.1))[n]? = some z0.1 := by rw [List.getElem?_map, hz0]; rfl
    obtain ⟨w, hw⟩ := zip_get hl2 hk
    have hd : (l1.map (·.2))[n]? = some z0.2 := by rw [List.getElem?_map, hz0]; rfl
    obtain ⟨w', hw', rw'⟩ := h3.get hd
    have : w = w' := by
      have := (List.getElem?_zip_eq_some.mp hw).2
      rw [hw'] at this
      exact (Option.some.inj this).symm
    subst this
    refine ⟨⟨fz, (List.getElem?_eq_some_iff.mp hw).1⟩, fun x H4 y => .inr (.inr (.inr ?_))⟩
    obtain ⟨T, kk, vv, y1, y2, y3, y4⟩ := y
    rw [hw] at y1; cases y1
    refine ⟨T, _, _, _, _, y2, y3, y4, rfl, fun B' => keyD_rp _ B', ?_⟩
    rw [← hid_mx hl]
    exact Rp.mono ((hid_ex gr).trans (hid_le mk_le)) _ _ rw'
theorem ei_itemsKt {α : Type} {f : α → D} {l1 : List (Int × α)} (hl : l.lp = true) (h : EvF K p te env env' (dkL (l1.map fun z => ((Sum.inl z.1 : Key), f z.2)))) : EvI K l p (iItems (tLkR te)) env env' (l1.map fun z => D.tup [D.int z.1, f z.2]) := by
  have := ei_items hl h
  rw [List.map_map] at this
  exact this

/-! ### dict comprehensions, printed -/
def dictO {α κ β : Type} [DecidableEq κ] (f : α → Option (κ × β)) (xs : List α) : Option (List (κ × β)) := (compO (fun x => (f x).map some) xs).bind fun ps => (okL xs.length).map fun _ => putAll [] ps
def dictO2 {α γ κ β : Type} [DecidableEq κ] (h : α → Option (List γ)) (f : α → γ → Option (κ × β)) (xs : List α) : Option (List (κ × β)) :=
  if xs.length ≤ 100 then (compO (fun x => ((h x).bind fun ys => if ys.length ≤ 100 then compO (fun y => (f x y).map some) ys else none).map some) xs).map fun pss => putAll [] pss.flatten else none
theorem compL_get {α β : Type} {f : α → Option β} : ∀ {xs : List α} {ys : List β}, compL (fun x => (f x).map some) xs = some ys → ys.length = xs.length ∧ ∀ (i : Nat) x, xs[i]? = some x → ∃ y, ys[i]? = some y ∧ f x = some y
  | [], ys, h => by
    unfold compL at h
    cases h
    exact ⟨rfl, fun i x e => by simp at e⟩
  | x :: xs, ys, h => by
    unfold compL at h
    obtain ⟨r, h1, h⟩ := Option.bind_eq_some_iff.mp h
    obtain ⟨zs, h2, h⟩ := Option.bind_eq_some_iff.mp h
    obtain ⟨y, hy, rfl⟩ := Option.map_eq_some_iff.mp h1
    obtain ⟨l1, g1⟩ := compL_get h2
    have h : y :: zs = ys := Option.some.inj h
    subst h
    refine ⟨by simp [l1], fun i x' e => ?_⟩
    cases i with
    | zero => simp at e; subst e; exact ⟨y, rfl, hy⟩
    | succ i => simpa using g1 i x' (by simpa using e)
theorem putAll_map {κ κ' α β : Type} [DecidableEq κ] [DecidableEq κ'] (f : κ → κ') (g : α → β) (hf : ∀ a b, f a = f b → a = b) : ∀ (ps acc : List (κ × α)), putAll (acc.map fun z => (f z.1, g z.2)) (ps.map fun z => (f z.1, g z.2)) = (putAll acc ps).map fun z => (f z.1, g z.2)
  | [], acc => rfl
  | p :: ps, acc => by
    show putAll (putA (acc.map fun z => (f z.1, g z.2)) (f p.1) (g p.2)) (ps.map fun z => (f z.1, g z.2)) = _
    rw [putA_map f g hf]
    exact putAll_map f g hf ps _
theorem ef_dictG {α κ κ' β : Type} [DecidableEq κ] [DecidableEq κ'] (C : Kd κ') (kf : κ → κ') (hk : ∀ a b, kf a = kf b → a = b) {f : α → Option (κ × β)} {xs : List α} {r : List (κ × β)} {en : α → D} {eb : β → D} {wi : TI} (hs : dictO f xs = some r) (hl : l.lp = true) (hi : EvI K l true wi env env (xs.map en)) (hw : TgW g vs) (han : ∀ v ∈ vs, env[v]? = some .an)
    (turn : ∀ x kv, f x = some kv → TurnK K l g tk tv vs (en x) env (C.key (kf kv.1)) (eb kv.2)) : EvF K true (tDg (C.ob []) wi g tYes (tPut tk tv) vs) env env (C.md (r.map fun z => (kf z.1, eb z.2))) := by
  unfold dictO at hs
  obtain ⟨ps, h1, hs⟩ := Option.bind_eq_some_iff.mp hs
  obtain ⟨u, h2, hs⟩ := Option.map_eq_some_iff.mp hs
  subst hs
  obtain ⟨l1, g1⟩ := compL_get (compO_of h1).2
  rw [← putAll_map kf eb hk ps []]
  refine ef_dg C hl hi hw han (by simp [l1]) (by rw [List.length_map]; exact okL_of h2) fun i d kv hd hkv => ?_
  rw [List.getElem?_map] at hd hkv
  obtain ⟨x, hx, rfl⟩ := Option.map_eq_some_iff.mp hd
  obtain ⟨y, hy, rfl⟩ := Option.map_eq_some_iff.mp hkv
  obtain ⟨y', hy', hf⟩ := g1 i x hx
  rw [hy] at hy'; cases hy'
  exact turn x y hf
theorem ef_dictK {α β : Type} {f : α → Option (Int × β)} {xs : List α} {r : List (Int × β)} {en : α → D} {eb : β → D} {wi : TI} (hs : dictO f xs = some r) (hl : l.lp = true) (hi : EvI K l true wi env env (xs.map en)) (hw : TgW g vs) (han : ∀ v ∈ vs, env[v]? = some .an)
    (turn : ∀ x kv, f x = some kv → TurnK K l g tk tv vs (en x) env (.int kv.1) (eb kv.2)) : EvF K true (tDg (.dK []) wi g tYes (tPut tk tv) vs) env env (dkL (r.map fun z => ((Sum.inl z.1 : Key), eb z.2))) :=
  ef_dictG kdK (fun n : Int => (Sum.inl n : Key)) inl_inj hs hl hi hw han turn
theorem keyI (ns : List Int) : D.tup ((ns.map Sum.inl : List Key).map keyD) = D.tup (ns.map D.int) := by rw [List.map_map]; rfl
theorem ef_dictT {α β : Type} {f : α → Option (List Int × β)} {xs : List α} {r : List (List Int × β)} {en : α → D} {eb : β → D} {wi : TI} (hs : dictO f xs = some r) (hl : l.lp = true) (hi : EvI K l true wi env env (xs.map en)) (hw : TgW g vs) (han : ∀ v ∈ vs, env[v]? = some .an)
    (turn : ∀ x kv, f x = some kv → TurnK K l g tk tv vs (en x) env (.tup (kv.1.map D.int)) (eb kv.2)) : EvF K true (tDg (.dT []) wi g tYes (tPut tk tv) vs) env env (dtL (r.map fun z => ((z.1.map Sum.inl : List Key), eb z.2))) :=
  ef_dictG kdT (fun z : List Int => (z.map Sum.inl : List Key)) inls_inj hs hl hi hw han fun x kv h => by
    show TurnK K l g tk tv vs (en x) env (D.tup ((kv.1.map Sum.inl : List Key).map keyD)) (eb kv.2)
    rw [keyI]; exact turn x kv h
theorem turnK {kd vd : D} {envt : List Bd} (hT : TgD K l g d env envt) (hK : EvD K .l2 true tk envt envt kd) (hV : EvD K .l2 true tv envt envt vd) (hm : (vs.all fun v => !isMu envt[v]?) = true) (he : env = wipeE envt vs) : TurnK K l g tk tv vs d env kd vd := ⟨envt, hT, hK, hV, hm, he⟩
theorem ef_dictT2 {α γ β : Type} {h : α → Option (List γ)} {f : α → γ → Option (List Int × β)} {xs : List α} {r : List (List Int × β)} {en : α → D} {en1 : γ → D} {eb : β → D} {l1 : Lv} {wi wi1 : TI} {g1 : TG} {vs1 : List Nat} (hs : dictO2 h f xs = some r) (hl : l.lp = true) (hl1 : l1.lp = true) (hi : EvI K l true wi env env (xs.map en)) (hw : TgW g vs) (hw1 : TgW g1 vs1) (inn : ∀ i ∈ vs1, i ∈ vs) (han : ∀ v ∈ vs, env[v]? = some .an)
    (turn : ∀ x ys, h x = some ys → ∃ envt, TgD K l g (en x) env envt ∧ EvI K l1 true wi1 envt envt (ys.map en1) ∧ (∀ v ∈ vs1, envt[v]? = some .an) ∧ (vs.all fun v => !isMu envt[v]?) = true ∧ env = wipeE envt vs ∧
      ∀ y kv, f x y = some kv → TurnK K l1 g1 tk tv vs1 (en1 y) envt (.tup (kv.1.map D.int)) (eb kv.2)) : EvF K true (tDg (.dT []) wi g tYes (tIn wi1 g1 tYes tk tv vs1) vs) env env (dtL (r.map fun z => ((z.1.map Sum.inl : List Key), eb z.2))) := by
  unfold dictO2 at hs
  by_cases hn : xs.length ≤ 100
  · rw [if_pos hn] at hs
    obtain ⟨pss, h1, hs⟩ := Option.map_eq_some_iff.mp hs
    subst hs
    obtain ⟨l1', g1'⟩ := compL_get (compO_of h1).2
    have q := putAll_map (fun z : List Int => (z.map Sum.inl : List Key)) eb inls_inj pss.flatten []
    rw [show (putAll [] pss.flatten).map (fun z => ((z.1.map Sum.inl : List Key), eb z.2)) = putAll [] ((pss.map fun ps => ps.map fun z => ((z.1.map Sum.inl : List Key), eb z.2)).flatten) by rw [← q, List.map_flatten]; rfl]
    have shape : ∀ (i : Nat) x, xs[i]? = some x → ∃ ps ys, pss[i]? = some ps ∧ h x = some ys ∧ ys.length ≤ 100 ∧ ps.length = ys.length ∧ ∀ (j : Nat) y, ys[j]? = some y → ∃ kv, ps[j]? = some kv ∧ f x y = some kv := fun i x hx => by
      obtain ⟨ps, hp, hf⟩ := g1' i x hx
      obtain ⟨ys, hy, hf⟩ := Option.bind_eq_some_iff.mp hf
      by_cases hny : ys.length ≤ 100
      · rw [if_pos hny] at hf
        obtain ⟨l2, g2⟩ := compL_get (compO_of hf).2
        exact ⟨ps, ys, hp, hy, hny, l2, g2⟩
      · rw [if_neg hny] at hf; cases hf
    refine ef_dg2 kdT hl hl1 hi hw hw1 inn han (by simp [l1']) (by simpa using hn) (fun ps hps => ?_) fun i d ps hd hps => ?_
    · obtain ⟨qs, hq, rfl⟩ := List.mem_map.mp hps
      obtain ⟨i, hi', e⟩ := List.mem_iff_getElem.mp hq
      obtain ⟨ps', ys, s1, s2, s3, s4, _⟩ := shape i xs[i] (List.getElem?_eq_getElem (by omega))
      rw [List.getElem?_eq_getElem hi', e] at s1
      cases s1
      rw [List.length_map, s4]; exact s3
    · rw [List.getElem?_map] at hd hps
      obtain ⟨x, hx, rfl⟩ := Option.map_eq_some_iff.mp hd
      obtain ⟨qs, hq, rfl⟩ := Option.map_eq_some_iff.mp hps
      obtain ⟨ps', ys, s1, s2, s3, s4, s5⟩ := shape i x hx
      rw [hq] at s1; cases s1
      obtain ⟨envt, t1, t2, t3, t4, t5, t6⟩ := turn x ys s2
      refine ⟨envt, ys.map en1, t1, t2, t3, t4, t5, by simp [s4], fun j d kv hd hkv => ?_⟩
      rw [List.getElem?_map] at hd hkv
      obtain ⟨y, hy, rfl⟩ := Option.map_eq_some_iff.mp hd
      obtain ⟨z, hz, rfl⟩ := Option.map_eq_some_iff.mp hkv
      obtain ⟨kv, u1, u2⟩ := s5 j y hy
      rw [hz] at u1; cases u1
      show TurnK K l1 g1 tk tv vs1 (en1 y) envt (D.tup ((z.1.map Sum.inl : List Key).map keyD)) (eb z.2)
      rw [keyI]; exact t6 y z u2
  · rw [if_neg hn] at hs; cases hs
def toPair : List Int → Option (Int × Int)
  | [a, b] => some (a, b)
  | _ => none
theorem toPair_eq {ns : List Int} {p : Int × Int} (h : toPair ns = some p) : ns = [p.1, p.2] := by
  unfold toPair at h
  split at h
  · cases h; rfl
  · cases h
end
end Pw
/-! PwZ: options opened, tagged tuples, stores of two places at once, list(d). -/
namespace L2
open PySem PySem.Spec PyProof.Rows
def rSetDt : V → V → V → Hp → (Hp → Prop) → Prop := fun o i v H Q => ∃ a H', o = .ref a ∧ DPut H a i v H' ∧ Q H'
theorem set_dict {X : Cx} (room : X.A.units + 1 < cLine) : PSet X rSetDt := by
  intro pins s σ H o i v ov iv u Q I ro ri rv h
  obtain ⟨a, H', rfl, g, q⟩ := h
  cases ro
  exact d_setItem room I g ri rv fun t I' => ⟨H', I', q⟩
/-- a, b, c = x, y, z with plain local names: stored from the right -/
def tPar3 (i j k : Nat) (ta : TA) : TS := fun D σ H => ta σ H fun vs H1 => ∃ v w u, vs = [v, w, u] ∧ D.nx (((σ.set i (some v)).set j (some w)).set k (some u)) H1
theorem ps_par3 {X : Cx} {i j k : Nat} {x y z : Str} {a b c : Expr} {ta : TA} {px py pz pt pt2 pos : Pos} {kt k2 : Nat} (calm : X.calm = true) (nd : X.N.Nodup) (hi : X.N[i]? = some x) (hj : X.N[j]? = some y) (hk : X.N[k]? = some z) (ne : i ≠ j ∧ i ≠ k ∧ j ≠ k)
    (lx : X.env.scope.names.lookup x = some .local) (ly : X.env.scope.names.lookup y = some .local) (lz : X.env.scope.names.lookup z = some .local) (parts : PA X [a, b, c] ta)
    (sw : swappedStores [.Tuple [.Name x px, .Name y py, .Name z pz] kt pt] (.Tuple [a, b, c] k2 pt2) X.env = pure (some [x, y, z]))
    (so : swapsWithSole [.Tuple [.Name x px, .Name y py, .Name z pz] kt pt] (.Tuple [a, b, c] k2 pt2) pos.line X.env = pure false := by rfl) :
    PS X (.Assign [.Tuple [.Name x px, .Name y py, .Name z pz] kt pt] (.Tuple [a, b, c] k2 pt2) pos) (tPar3 i j k ta) := by
  refine ⟨fun pins s σ H D I h => ?_⟩
  rw [exec_Assign_arm]
  refine wpAny_bind (wpAny_standAt ?_)
  rw [so]
  refine wpAny_bind (wpAny_pure ?_)
  rw [if_neg (by decide)]
  refine wpAny_bind (Tuple_ (thn (parts.run _ pins s σ H _ I h) fun us t1 ⟨vs, H1, I1, r1, q1⟩ => ?_))
  obtain ⟨v, w, u, e1, q1⟩ := q1
  subst e1
  obtain ⟨u1, u2, u3, rfl, p1, p2, p3⟩ : ∃ u1 u2 u3, us = [u1, u2, u3] ∧ RelV v u1 ∧ RelV w u2 ∧ RelV u u3 := by
    cases r1 with
    | cons p q =>
      cases q with
      | cons p' q' =>
        cases q' with
        | cons p'' q'' =>
          cases q''
          exact ⟨_, _, _, rfl, p, p', p''⟩
  refine wpAny_newObj_type ?_ (by show 3 ≤ sizeLine; decide)
  have I2 : Inv X pins σ H1 { t1 with heap := t1.heap.push { cls := .type "tuple", data := .seq [u1, u2, u3].toArray } } := I1.kept (t' := t1.toks) fun b o e => Heap.get?_push_of_some _ e
  rw [sw]
  refine wpAny_bind (wpAny_pure ?_)
  show wpAny (model X.prog X.w) X.A (do rule "assign.swapped-stores"; let items ← unpackItems (.ref t1.heap.objs.size) 3 none; assignInOrder [fun v => bindName X.env z v, fun v => bindName X.env y v, fun v => bindName X.env x v] items.reverse; pure Flow.next) _ _ _
  refine wpAny_bind (wpAny_rule (wpAny_bind (unpackItems_tuple (items := #[u1, u2, u3]) (I.ok.hd calm) (IsTup.new t1.heap _) fun h2 ext => ?_)))
  have I3 := I2.kept (h' := h2) (t' := t1.toks) fun b o e => ext b o (Nat.ne_of_lt (Heap.lt_size e)) e
  show wpAny _ _ (assignInOrder [fun v => bindName X.env z v, fun v => bindName X.env y v, fun v => bindName X.env x v] [u3, u2, u1] >>= fun _ => pure Flow.next) _ _ _
  refine wpAny_bind (assignInOrder_cons (wpAny_bindName (store_ok I3 nd hk (.inl lz) p3 (fun t2 I4 => ?_) (.inr lz))))
  refine assignInOrder_cons (wpAny_bindName (store_ok I4 nd hj (.inl ly) p2 (fun t3 I5 => ?_) (.inr ly)))
  refine assignInOrder_cons (wpAny_bindName (store_ok I5 nd hi (.inl lx) p1 (fun t4 I6 => assignInOrder_nil (wpAny_pure ?_)) (.inr lx)))
  rw [List.set_comm _ _ (Ne.symm ne.1), List.set_comm _ _ (Ne.symm ne.2.1), List.set_comm _ _ (Ne.symm ne.2.2)] at I6
  exact ⟨_, H1, I6, q1⟩
/-- code that is never reached -/
def tDead : TS := fun _ _ _ => False
theorem ps_dead {X : Cx} {s : Stmt} : PS X s tDead := ⟨fun pins s σ H D I h => h.elim⟩
end L2
namespace Pw
open PySem L2 PySem.Spec PyProof.Rows
section
variable {K : PySem.W.Frag} {X : Addr → Prop} {a0 : Addr} {H0 : Hp} {M M' : Msk} {ad ad' : Nat → Addr} {σ σ' τ : L2.St} {H H' H1 : Hp} {env env' env'' : List Bd} {l l' : Lv} {p q : Bool} {d d' e : D} {ta tb te ti tx tk tv : TE} {i j : Nat} {b c : Bool} {ts tu : TS} {o : Out} {Dn : Ends} {tsA : TA} {g : TG} {vs : List Nat}
theorem ev_maxOw {k0 : List Int} {r : List (List Int)} (h : env[i]? = some (.ow (.lst ((k0 :: r).map tI)))) : EvD K l true (tCB (rMaxD K) (tCons (tVar i) tNil)) env env (tI (maxK k0 r)) := fun X a0 H0 M ad σ H Q E k => by
  obtain ⟨_, h2, ys, h3, h4⟩ := E.ow i _ h
  refine ⟨_, h2, ad i, ys, pI k0, r.map pI, rfl, SqL.of h3, DpAM hid_all (dp_tIs h4), alikes (k0 :: r), Nat.le_trans (depth_pIs (k0 :: r)) (by decide), fun d hd => ?_, fun j v hv he => ?_⟩
  · obtain ⟨z, _, rfl⟩ := List.mem_map.mp (show d ∈ (k0 :: r).map pI from hd)
    exact lay_pI z
  · obtain ⟨d, hd1, hd2⟩ := h4.get' hv
    rw [List.getElem?_map] at hd1
    obtain ⟨z, hz, rfl⟩ := Option.map_eq_some_iff.mp hd1
    have he' : ((k0 :: r).map pI)[j]? = some (pI (maxK k0 r)) := by rw [← maxD_tI]; exact he
    rw [List.getElem?_map, hz] at he'
    have := pI_inj (Option.some.inj he')
    exact k v H E (Ex.refl _) (fun _ => Ex.refl _) (Rp.mono (hid_le mk_le) _ _ (by rw [← this]; exact hd2))
theorem ev_maxOwT {α : Type} {key : α → List Int} {xs : List α} {m : α} (h : env[i]? = some (.ow (.lst (xs.map fun a => tI (key a))))) (hm : maxO key xs = some m) : EvD K l true (tCB (rMaxD K) (tCons (tVar i) tNil)) env env (tI (key m)) := by
  cases xs with
  | nil => cases hm
  | cons x r =>
    have hm : some (maxT key x r) = some m := hm
    cases hm
    have h' : env[i]? = some (.ow (.lst ((key x :: r.map key).map tI))) := by rw [h, List.map_cons, List.map_cons, List.map_map]; rfl
    have := ev_maxOw (K := K) (l := l) h'
    rw [maxK_key] at this
    exact this
theorem ei_toF {wi : TI} {ds : List D} (h : EvI K l p wi env env' ds) : EvI K l false wi env env' ds := fun X a0 H0 M ad σ H R E k =>
  h X a0 H0 M ad σ H R E fun J H' E' e' p' r => k J H' E' e' (fun z => by cases z) r
theorem ifS {c : Prop} [Decidable c] {u : Unit} (h : (if c then some () else none) = some u) : c := by
  by_cases g : c
  · exact g
  · rw [if_neg g] at h; cases h
theorem ev_some {α : Type} {f : α → D} {v : Option α} {x : α} (hv : v = some x) (h : EvD K l p te env env' (encO f v)) : EvD K l p te env env' (f x) := by
  subst hv; exact h
def encTg : Option (PySem.Str × List Int) → D
  | none => .non
  | some z => .tup (.str z.1 :: z.2.map .int)
/-- d[a, b], xs[n] = x, y for one's own dict and list -/
theorem sd_parDL {α β : Type} {f : α → D} {h : β → D} {l1 : List (List Int × α)} {v : α} {ns : List Int} {xs : List β} {w : β} {n : Int} {jj : Nat} (hij : i ≠ j) (hd : env[i]? = some (.ow (dtL (l1.map fun z => ((z.1.map Sum.inl : List Key), f z.2))))) (hx : env[j]? = some (.ow (.lst (xs.map h))))
    (ha : EvD K .l2 true ta env env (f v)) (hb : EvD K .l2 true tb env env (h w)) (hk : EvA K .l2 true tsA env env (ns.map .int)) (hns : ns.length ≤ 1000) (hn : l1.length < 100000) (hi : EvD K .l2 true ti (env.set i (.ow (dtL ((putA l1 ns v).map fun z => ((z.1.map Sum.inl : List Key), f z.2))))) (env.set i (.ow (dtL ((putA l1 ns v).map fun z => ((z.1.map Sum.inl : List Key), f z.2))))) (.int n)) (hj : ixN xs.length n = some jj) :
    SD K (tAsg (tTup (tCons ta (tCons tb tNil))) (gTup K 2 (gCons (gSub (tVar i) (tTup tsA) rSetDt) (gCons (gSub (tVar j) ti rSetL) gNil)))) env (.nx ((env.set i (.ow (dtL ((putA l1 ns v).map fun z => ((z.1.map Sum.inl : List Key), f z.2))))).set j (.ow (.lst ((xs.set jj w).map h))))) := fun X a0 H0 M ad σ H Dn E k => by
  refine ha X a0 H0 M ad σ H _ E fun x H1 E1 e1 p1 r1 => hb X a0 H0 M ad σ H1 _ E1 fun y H2 E2 e2 p2 r2 => ⟨show 2 ≤ sizeLine from by decide, fun c hc => ?_⟩
  have g2 : Ex H2 (upd H2 c (.tup [x, y])) := Ex.new hc
  have E3 := E2.grow g2
  refine ⟨c, [x, y], rfl, SqT.of upd_same, rfl, x, [y], rfl, ?_⟩
  obtain ⟨_, h2, _⟩ := E3.ow i _ hd
  refine ⟨_, h2, hk X a0 H0 M ad σ _ _ E3 fun zs H4 E4 e4 p4 r4 => ?_⟩
  have hz := r4.ints
  subst hz
  refine ⟨by rw [List.length_map]; exact Nat.le_trans hns (by decide), fun b hb => ?_⟩
  have g5 : Ex H4 (upd H4 b (.tup (ns.map V.int))) := Ex.new hb
  have E5 := E4.grow g5
  obtain ⟨_, _, ys, h4, h0, h5⟩ := E5.ow i _ hd
  have hp := rpk_of (l := l1.map fun z => ((z.1.map Sum.inl : List Key), f z.2)) h5
  have up5 : Ex H1 (upd H4 b (.tup (ns.map V.int))) := (((p2 rfl).trans g2).trans (p4 rfl)).trans g5
  have rx := Rp.mono (hid_ex up5) _ _ r1
  have hzl : ((((l1.map fun z => ((z.1.map Sum.inl : List Key), f z.2)).map (·.1)).zip ys : List (List Key × V))).length < sizeLine := by rw [rpk_len hp, List.length_map]; exact Nat.lt_of_lt_of_le hn (by decide)
  obtain ⟨zs, z1, z2⟩ := of_rpk (rpk_put (k := (ns.map Sum.inl : List Key)) rx hp)
  have hbk : (upd H4 b (.tup (ns.map V.int))) b = some (.tup ((ns.map Sum.inl : List Key).map kV)) := by rw [upd_same, List.map_map]; rfl
  refine ⟨ad i, _, rfl, DPut.t (k := ns.map Sum.inl) h4 hbk hzl, ?_⟩
  have pm := putA_map (fun z : List Int => (z.map Sum.inl : List Key)) f inls_inj ns v l1
  rw [pm] at z1 z2
  have E6 := E5.cellOw (d' := dtL ((putA l1 ns v).map fun (z : List Int × α) => ((z.1.map Sum.inl : List Key), f z.2))) (o := .dT (putK (((l1.map fun (z : List Int × α) => ((z.1.map Sum.inl : List Key), f z.2)).map (·.1)).zip ys) (ns.map Sum.inl) x)) hd ⟨zs, by rw [upd_same, z1], by simp, z2⟩
  refine ⟨y, [], rfl, ?_⟩
  have hj6 : (env.set i (.ow (dtL ((putA l1 ns v).map fun z => ((z.1.map Sum.inl : List Key), f z.2)))))[j]? = some (.ow (.lst (xs.map h))) := by rw [List.getElem?_set_ne hij]; exact hx
  obtain ⟨_, h7, _⟩ := E6.ow j _ hj6
  refine ⟨_, h7, hi X a0 H0 M ad σ _ _ E6 fun m H7 E7 e7 p7 r7 => ?_⟩
  obtain ⟨_, _, us, h8, h9⟩ := E7.ow j _ hj6
  have hm : m = V.int n := r7
  have nMi : M.m (ad i) := M.le _ (E5.ow i _ hd).1
  have up6 : Ex (hid (fun b => M.m b ∨ X b) H2) (hid (fun b => M.m b ∨ X b) H7) := by
    have q1 : Ex H2 (upd H4 b (.tup (ns.map V.int))) := (g2.trans (p4 rfl)).trans g5
    have e6 : ∀ ob, hid (fun b => M.m b ∨ X b) (upd (upd H4 b (.tup (ns.map V.int))) (ad i) ob) = hid (fun b => M.m b ∨ X b) (upd H4 b (.tup (ns.map V.int))) := fun ob => hid_upd (.inl nMi)
    have q2 := hid_ex (m := fun b => M.m b ∨ X b) q1
    rw [← e6] at q2
    exact q2.trans (hid_ex (p7 rfl))
  refine ⟨ad j, us, n, jj, rfl, hm, h8, by rw [h9.length, List.length_map]; exact hj, ?_⟩
  refine ⟨rfl, k M ad σ _ (E7.cellOw hj6 ⟨us.set jj y, upd_same, ?_⟩)⟩
  have := RpL.set (i := jj) h9 (Rp.mono up6 _ _ r2)
  rw [List.map_set]
  exact this
theorem ef_listK {α : Type} {f : α → D} {l1 : List (Int × α)} (h : EvA K l p tsA env env' [dkL (l1.map fun z => ((Sum.inl z.1 : Key), f z.2))]) : EvF K p (tCB (fun xs H Q => ∃ (a : Addr) (kvs : List (Key × V)), xs = [.ref a] ∧ Rd H a (.dK kvs) ∧ ∀ p, H p = none → Q (.ref p) (upd H p (.lst (kvs.map fun kv => kV kv.1)))) tsA) env env' (.lst ((l1.map (·.1)).map D.int)) := fun X a0 H0 M ad σ H Q E k =>
  h X a0 H0 M ad σ H _ E fun xs H1 E1 e1 p1 r1 => by
    obtain ⟨x, rfl, a, ys, rfl, h1, h2, h3⟩ := r1.one'
    refine ⟨a, _, rfl, ex_rd hid_all h1, fun c hc => ?_⟩
    have hl : ys.length = (l1.map fun z => ((Sum.inl z.1 : Key), f z.2)).length := by rw [h3.length, List.length_map]
    refine k c H1 _ hc (stays E E1 e1) E1 (Ex.new hc) e1 p1 ⟨_, upd_same, ?_⟩
    have e : ((((l1.map fun (z : Int × α) => ((Sum.inl z.1 : Key), f z.2)).map (·.1)).zip ys : List (Key × V)).map fun kv => kV kv.1) = (l1.map (·.1)).map V.int := by
      have e1 : ((((l1.map fun (z : Int × α) => ((Sum.inl z.1 : Key), f z.2)).map (·.1)).zip ys : List (Key × V)).map fun kv => kV kv.1) = (((l1.map fun (z : Int × α) => ((Sum.inl z.1 : Key), f z.2)).map (·.1)).zip ys : List (Key × V)).unzip.1.map kV := by
        rw [List.unzip_eq_map]
        exact (List.map_map (g := kV) (f := Prod.fst)).symm
      rw [e1, List.unzip_zip (by rw [hl, List.length_map]), List.map_map, List.map_map, List.map_map]
      rfl
    rw [e]
    exact RpL.ofInts _
/-- list(range(n)) -/
theorem ef_listRg1 {n : Int} {ms : List Int} (hs : rngO 0 n = some ms) (hn : ms.length ≤ 100000) (h : EvD K .l2 p te env env' (.int n)) : EvF K p (tLstRg (tRg1 te)) env env' (.lst (ms.map D.int)) := fun X a0 H0 M ad σ H Q E k =>
  h X a0 H0 M ad σ H _ E fun x H1 E1 e1 p1 r1 => by
    unfold rngO at hs
    by_cases g : (inR 0 && inR n) = true
    · rw [if_pos g] at hs
      cases hs
      have g2 := (Bool.and_eq_true_iff.mp g).2
      unfold inR at g2
      simp only [Bool.and_eq_true, decide_eq_true_eq] at g2
      have hl : (n - 0).toNat ≤ 100000 := by
        have : (rng 0 (n - 0).toNat).length = (n - 0).toNat := by unfold rng; simp
        omega
      have hx : x = V.int n := r1
      refine ⟨n, hx, ⟨by decide, by decide, by omega, by omega, by omega⟩, fun c hc => k c H1 _ hc (stays E E1 e1) E1 (Ex.new hc) e1 p1 ⟨_, upd_same, ?_⟩⟩
      have : rgV 0 n = (rng 0 (n - 0).toNat).map V.int := by unfold rgV rng; rw [List.map_map]; rfl
      rw [this]
      exact RpL.ofInts _
    · rw [if_neg g] at hs; cases hs
theorem sd_endZ {S R : Type} {ev : S → List Bd} {fin : R → Out} {z : S ⊕ R} (vs : List Nat) (h : SD K ts env (outZ ev fin z)) (h1 : ∀ s, z = .inl s → (vs.all fun v => !isMu (ev s)[v]?) = true ∧ Out.nx (wipeE (ev s) vs) = o) (h2 : ∀ r, z = .inr r → fin r = o) : SD K ts env o := by
  cases z with
  | inl s =>
    obtain ⟨g1, g2⟩ := h1 s rfl
    rw [← g2]
    exact sd_wipe vs g1 h
  | inr r =>
    rw [← h2 r rfl]
    exact h
theorem sd_par3 {tA : TA} {x y z : Nat} (h : PF K tA (gCons (gName x) (gCons (gName y) (gCons (gName z) gNil))) env env env') : SD K (tPar3 x y z tA) env (.nx env') := fun X a0 H0 M ad σ H Dn E k =>
  h X a0 H0 M ad ad σ σ H _ E E fun vs M' ad' τ' H' E' g f => by
    obtain ⟨v, r, h1, w, r', h2, u, r'', h3, h4, h5⟩ := f H' (fun s _ => s = τ') rfl
    subst h2 h3 h4
    exact ⟨v, w, u, h1, by rw [h5]; exact k M' ad' τ' H' E'⟩
end
end Pw
namespace K10
open PySem PySem.Spec PyProof.Rows L2 Pw
abbrev RW : PySem.W.OpenLaw := PySem.Challenge.rw_onceonly_k10_reuse_times
def top (i : Nat) : Stmt := PySem.Challenge.pw_onceonly_k10_reuse_times.main.body.getD i (.Pass ⟨0, 0, 0, 0⟩)
abbrev FnP (K : PySem.W.Frag) (x : Str) (st : Stmt) (f : Addr) (fd : FuncData) : Prop := FunD K x x (defArgs st) (defBody st) (defScope st) [] [] f fd
/-- what the row says -/
structure Tx (K : PySem.W.Frag) (mg : Str → Option Value) where
  a_is_number : Addr
  d_is_number : FuncData
  F_is_number : FnP K "is_number" (top 10) a_is_number d_is_number
  g_is_number : mg "is_number" = some (.ref a_is_number)
  a_is_number_within : Addr
  d_is_number_within : FuncData
  F_is_number_within : FnP K "is_number_within" (top 11) a_is_number_within d_is_number_within
  g_is_number_within : mg "is_number_within" = some (.ref a_is_number_within)
  a_are_offsets : Addr
  d_are_offsets : FuncData
  F_are_offsets : FnP K "are_offsets" (top 12) a_are_offsets d_are_offsets
  g_are_offsets : mg "are_offsets" = some (.ref a_are_offsets)
  a_is_call : Addr
  d_is_call : FuncData
  F_is_call : FnP K "is_call" (top 13) a_is_call d_is_call
  g_is_call : mg "is_call" = some (.ref a_is_call)
  a_check_system : Addr
  d_check_system : FuncData
  F_check_system : FnP K "check_system" (top 14) a_check_system d_check_system
  g_check_system : mg "check_system" = some (.ref a_check_system)
  a_calls_to : Addr
  d_calls_to : FuncData
  F_calls_to : FnP K "calls_to" (top 15) a_calls_to d_calls_to
  g_calls_to : mg "calls_to" = some (.ref a_calls_to)
  a_reachable_services : Addr
  d_reachable_services : FuncData
  F_reachable_services : FnP K "reachable_services" (top 16) a_reachable_services d_reachable_services
  g_reachable_services : mg "reachable_services" = some (.ref a_reachable_services)
  a_check_service : Addr
  d_check_service : FuncData
  F_check_service : FnP K "check_service" (top 17) a_check_service d_check_service
  g_check_service : mg "check_service" = some (.ref a_check_service)
  a_shortest_way : Addr
  d_shortest_way : FuncData
  F_shortest_way : FnP K "shortest_way" (top 19) a_shortest_way d_shortest_way
  g_shortest_way : mg "shortest_way" = some (.ref a_shortest_way)
  a_longest_way : Addr
  d_longest_way : FuncData
  F_longest_way : FnP K "longest_way" (top 20) a_longest_way d_longest_way
  g_longest_way : mg "longest_way" = some (.ref a_longest_way)
  a_late_choices : Addr
  d_late_choices : FuncData
  F_late_choices : FnP K "late_choices" (top 21) a_late_choices d_late_choices
  g_late_choices : mg "late_choices" = some (.ref a_late_choices)
  a_early_choices : Addr
  d_early_choices : FuncData
  F_early_choices : FnP K "early_choices" (top 22) a_early_choices d_early_choices
  g_early_choices : mg "early_choices" = some (.ref a_early_choices)
  a_greatest_differences : Addr
  d_greatest_differences : FuncData
  F_greatest_differences : FnP K "greatest_differences" (top 23) a_greatest_differences d_greatest_differences
  g_greatest_differences : mg "greatest_differences" = some (.ref a_greatest_differences)
  a_separate_entries : Addr
  d_separate_entries : FuncData
  F_separate_entries : FnP K "separate_entries" (top 24) a_separate_entries d_separate_entries
  g_separate_entries : mg "separate_entries" = some (.ref a_separate_entries)
  a_difference_schedule : Addr
  d_difference_schedule : FuncData
  F_difference_schedule : FnP K "difference_schedule" (top 25) a_difference_schedule d_difference_schedule
  g_difference_schedule : mg "difference_schedule" = some (.ref a_difference_schedule)
  a_act_times : Addr
  d_act_times : FuncData
  F_act_times : FnP K "act_times" (top 26) a_act_times d_act_times
  g_act_times : mg "act_times" = some (.ref a_act_times)
  a_check_windows : Addr
  d_check_windows : FuncData
  F_check_windows : FnP K "check_windows" (top 29) a_check_windows d_check_windows
  g_check_windows : mg "check_windows" = some (.ref a_check_windows)
  a_deciding_pair : Addr
  d_deciding_pair : FuncData
  F_deciding_pair : FnP K "deciding_pair" (top 30) a_deciding_pair d_deciding_pair
  g_deciding_pair : mg "deciding_pair" = some (.ref a_deciding_pair)
  a_deciding_pairs : Addr
  d_deciding_pairs : FuncData
  F_deciding_pairs : FnP K "deciding_pairs" (top 31) a_deciding_pairs d_deciding_pairs
  g_deciding_pairs : mg "deciding_pairs" = some (.ref a_deciding_pairs)
  a_least_windows : Addr
  d_least_windows : FuncData
  F_least_windows : FnP K "least_windows" (top 32) a_least_windows d_least_windows
  g_least_windows : mg "least_windows" = some (.ref a_least_windows)
  a_memory_spans : Addr
  d_memory_spans : FuncData
  F_memory_spans : FnP K "memory_spans" (top 33) a_memory_spans d_memory_spans
  g_memory_spans : mg "memory_spans" = some (.ref a_memory_spans)
  a_least_reuse_time : Addr
  d_least_reuse_time : FuncData
  F_least_reuse_time : FnP K "least_reuse_time" (top 35) a_least_reuse_time d_least_reuse_time
  g_least_reuse_time : mg "least_reuse_time" = some (.ref a_least_reuse_time)
  a_reuse_conflict : Addr
  d_reuse_conflict : FuncData
  F_reuse_conflict : FnP K "reuse_conflict" (top 36) a_reuse_conflict d_reuse_conflict
  g_reuse_conflict : mg "reuse_conflict" = some (.ref a_reuse_conflict)
  a__law_dice : Addr
  d__law_dice : FuncData
  F__law_dice : FnP K "_law_dice" (top 38) a__law_dice d__law_dice
  g__law_dice : mg "_law_dice" = some (.ref a__law_dice)
  a__law_next : Addr
  d__law_next : FuncData
  F__law_next : FnP K "_law_next" (top 39) a__law_next d__law_next
  g__law_next : mg "_law_next" = some (.ref a__law_next)
  a__law_like : Addr
  d__law_like : FuncData
  F__law_like : FnP K "_law_like" (top 40) a__law_like d__law_like
  g__law_like : mg "_law_like" = some (.ref a__law_like)
  a__law_call : Addr
  d__law_call : FuncData
  F__law_call : FnP K "_law_call" (top 41) a__law_call d__law_call
  g__law_call : mg "_law_call" = some (.ref a__law_call)
  a__law_system : Addr
  d__law_system : FuncData
  F__law_system : FnP K "_law_system" (top 42) a__law_system d__law_system
  g__law_system : mg "_law_system" = some (.ref a__law_system)
  a__law_played : Addr
  d__law_played : FuncData
  F__law_played : FnP K "_law_played" (top 43) a__law_played d__law_played
  g__law_played : mg "_law_played" = some (.ref a__law_played)
  a__law_is_schedule : Addr
  d__law_is_schedule : FuncData
  F__law_is_schedule : FnP K "_law_is_schedule" (top 44) a__law_is_schedule d__law_is_schedule
  g__law_is_schedule : mg "_law_is_schedule" = some (.ref a__law_is_schedule)
  a_law : Addr
  d_law : FuncData
  F_law : FnP K "law" (top 45) a_law d_law
  g_law : mg "law" = some (.ref a_law)
  b_bool : mg "bool" = none
  b_enumerate : mg "enumerate" = none
  b_int : mg "int" = none
  b_isinstance : mg "isinstance" = none
  b_len : mg "len" = none
  b_list : mg "list" = none
  b_max : mg "max" = none
  b_min : mg "min" = none
  b_range : mg "range" = none
  b_set : mg "set" = none
  b_sorted : mg "sorted" = none
  b_str : mg "str" = none
  b_tuple : mg "tuple" = none
  t_LAST_TICK : Nat
  c_LAST_TICK : mg "LAST_TICK" = some (.int 99 t_LAST_TICK)
  t_LONGEST_WINDOW : Nat
  c_LONGEST_WINDOW : mg "LONGEST_WINDOW" = some (.int 9999 t_LONGEST_WINDOW)
  t_MOST_CALLS : Nat
  c_MOST_CALLS : mg "MOST_CALLS" = some (.int 20 t_MOST_CALLS)
  t_MOST_OFFSETS : Nat
  c_MOST_OFFSETS : mg "MOST_OFFSETS" = some (.int 4 t_MOST_OFFSETS)
  t_MOST_SERVICES : Nat
  c_MOST_SERVICES : mg "MOST_SERVICES" = some (.int 8 t_MOST_SERVICES)
section
variable {P : Program} {w : World} {K : PySem.W.Frag} {mg : Str → Option Value} {base : Heap}
/-- is_number -/
def m_is_number (a0 : Int) : Option Bool := some (true && (!false))
def R_is_number : List D → D → Prop := fun ds r => ∃ (a0 : Int) (v : Bool), m_is_number a0 = some v ∧ ds = [(D.int a0)] ∧ r = (D.bl v)
def nm_is_number : List Str := ["value"]
theorem sc_is_number : FnScope ["value"] ["value"] (defScope (top 10)) := ⟨rfl, rfl, rfl, by decide +kernel, rfl, by decide +kernel, by decide +kernel⟩
theorem ok_is_number (T : Tx K mg) : FnOk P w K mg base CX0 1 T.a_is_number T.d_is_number ["value"] (SpP K [true] R_is_number) := by
  refine T.F_is_number.ok sc_is_number (SpP.len rfl) (fun cdv A outer s H vs Q E hr h => ⟨_, PSs.nox (pss_one (ps_ret (pe_and (pe_callB (isiK (K := K) (by rfl)) rfl T.b_isinstance (by decide +kernel) (pa_cons (pv 0) (pa_cons (pe_bltn (v := .ty "int") rfl T.b_int (by decide +kernel) rfl) pa_nil))) (pe_one (pe_not (pe_callB (isiK (K := K) (by rfl)) rfl T.b_isinstance (by decide +kernel) (pa_cons (pv 0) (pa_cons (pe_bltn (v := .ty "bool") rfl T.b_bool (by decide +kernel) rfl) pa_nil)))))))), ?_⟩)
  refine run_P (n := 0) rfl h fun ds r hR => ?_
  obtain ⟨a0, v, h, rfl, rfl⟩ := hR
  unfold m_is_number at h
  refine sd_env (env2 := ([.im (D.int a0)] : List Bd)) rfl ?_
  have h := Option.some.inj h; subst h
  exact (sd_ret (d := (D.bl (true && (!false)))) (ev_lv (l := .l2) rfl (ev_andV (l := .l2) (ev_isi (l := .l2) (ev_im rfl) (show kitB "int" "int" = some true from by decide +kernel)) (fun _ => (ev_notV (l := .l2) (ev_isi (l := .l2) (ev_im rfl) (show kitB "int" "bool" = some false from by decide +kernel)))))))
/-- is_number_within -/
def m_is_number_within (a0 : Int) (a1 : Int) (a2 : Int) : Option Bool := (m_is_number a0).bind fun r1 => some (r1 && ((decide (a1 ≤ a0)) && (decide (a0 ≤ a2))))
def R_is_number_within : List D → D → Prop := fun ds r => ∃ (a0 : Int) (a1 : Int) (a2 : Int) (v : Bool), m_is_number_within a0 a1 a2 = some v ∧ ds = [(D.int a0), (D.int a1), (D.int a2)] ∧ r = (D.bl v)
def nm_is_number_within : List Str := ["value", "low", "high"]
theorem sc_is_number_within : FnScope ["value", "low", "high"] ["value", "low", "high"] (defScope (top 11)) := ⟨rfl, rfl, rfl, by decide +kernel, rfl, by decide +kernel, by decide +kernel⟩
theorem ok_is_number_within (T : Tx K mg) : FnOk P w K mg base CX0 2 T.a_is_number_within T.d_is_number_within ["value", "low", "high"] (SpP K [true, true, true] R_is_number_within) := by
  refine T.F_is_number_within.ok sc_is_number_within (SpP.len rfl) (fun cdv A outer s H vs Q E hr h => ⟨_, PSs.nox (pss_one (ps_ret (pe_and (pe_call (ok_is_number T) (hr.mono (by decide)) rfl T.g_is_number T.F_is_number.kp (T.F_is_number.bindsN fun _ _ _ _ _ _ us hl => match us, hl with | [_], _ => rfl) .nil pass0 (pa_cons (pv 0) pa_nil)) (pe_one (pe_chain op_le op_le (pv 1) (pv 0) (pv 2)))))), ?_⟩)
  refine run_P (n := 0) rfl h fun ds r hR => ?_
  obtain ⟨a0, a1, a2, v, h, rfl, rfl⟩ := hR
  unfold m_is_number_within at h
  refine sd_env (env2 := ([.im (D.int a0), .im (D.int a1), .im (D.int a2)] : List Bd)) rfl ?_
  obtain ⟨r1, hr1, h⟩ := Option.bind_eq_some_iff.mp h
  have h := Option.some.inj h; subst h
  exact (sd_ret (d := (D.bl (r1 && ((decide (a1 ≤ a0)) && (decide (a0 ≤ a2)))))) (ev_lv (l := .l2) rfl (ev_andV (l := .l2) (ev_callK (l := .l2) (ds := [(D.int a0)]) (R := R_is_number) (ek_A (ev_im rfl) ek_nil) ⟨a0, r1, hr1, rfl, rfl⟩) (fun _ => (ev_chain (c := (decide (a0 ≤ a2))) (Bool.eq_false_or_eq_true _) (ev_im rfl) (ev_im rfl) (ev_im rfl) rv_le rv_le)))))
/-- are_offsets -/
def m_are_offsets (a0 : (List Int)) : Option Bool := if ((!true) || (!((decide ((1 : Int) ≤ (List.length a0 : Int))) && (decide ((List.length a0 : Int) ≤ (4 : Int)))))) = true then (some false) else ((foldR (fun (s2 : (Int)) (x1 : Int) => (m_is_number_within x1 s2 (99 : Int)).bind fun r4 => if (!r4) = true then (some (.inr false)) else (some (.inl (x1 + (1 : Int))))) a0 (0 : Int)).bind fun y5 => (match y5 with | .inl y6 => some true | .inr y6 => some y6))
def R_are_offsets : List D → D → Prop := fun ds r => ∃ (a0 : (List Int)) (v : Bool), m_are_offsets a0 = some v ∧ ds = [(D.tup (List.map D.int a0))] ∧ r = (D.bl v)
def nm_are_offsets : List Str := ["value", "low", "offset"]
theorem sc_are_offsets : FnScope ["value", "low", "offset"] ["value"] (defScope (top 12)) := ⟨rfl, rfl, rfl, by decide +kernel, rfl, by decide +kernel, by decide +kernel⟩
theorem ok_are_offsets (T : Tx K mg) : FnOk P w K mg base CX0 3 T.a_are_offsets T.d_are_offsets ["value"] (SpP K [true] R_are_offsets) := by
  refine T.F_are_offsets.ok sc_are_offsets (SpP.len rfl) (fun cdv A outer s H vs Q E hr h => ⟨_, PSs.nox (pss_cons (ps_if (PW.pt (pw_or (pt_not (pt_val (pe_callB (isiK (K := K) (by rfl)) rfl T.b_isinstance (by decide +kernel) (pa_cons (pv 0) (pa_cons (pe_bltn (v := .ty "tuple") rfl T.b_tuple (by decide +kernel) rfl) pa_nil))))) (pw_or1 (pt_not (pt_chain op_le op_le pe_int (pe_callB (lenK (K := K) (by rfl)) rfl T.b_len (by decide +kernel) (pa_cons (pv 0) pa_nil)) (pe_glob (v := .int 4) rfl T.c_MOST_OFFSETS ⟨_, rfl⟩)))))) (pss_one (ps_ret pe_bl)) pss_nil) (pss_cons (ps_set (i := 1) sc_are_offsets.nd rfl (Or.inl rfl) pe_int) (pss_cons (ps_for PassesOwn.never rfl (piTupK (K := K) (by rfl) (pv 0)) (pg_name (i := 2) sc_are_offsets.nd rfl (Or.inl rfl)) (pss_cons (ps_if (pt_not (pt_val (pe_call (ok_is_number_within T) (hr.mono (by decide)) rfl T.g_is_number_within T.F_is_number_within.kp (T.F_is_number_within.bindsN fun _ _ _ _ _ _ us hl => match us, hl with | [_, _, _], _ => rfl) .nil pass0 (pa_cons (pv 2) (pa_cons (pv 1) (pa_cons (pe_glob (v := .int 99) rfl T.c_LAST_TICK ⟨_, rfl⟩) pa_nil)))))) (pss_one (ps_ret pe_bl)) pss_nil) (pss_one (ps_set (i := 1) sc_are_offsets.nd rfl (Or.inl rfl) (pe_op op_add (pv 2) pe_int))))) (pss_one (ps_ret pe_bl))))), ?_⟩)
  refine run_P (n := 2) rfl h fun ds r hR => ?_
  obtain ⟨a0, v, h, rfl, rfl⟩ := hR
  unfold m_are_offsets at h
  refine sd_env (env2 := ([.im (D.tup (List.map D.int a0)), .an, .an] : List Bd)) rfl ?_
  refine sd_ifs (eb_or (eb_not (eb_B (l := .l2) (ev_isi (l := .l2) (ev_im rfl) (show kitB "tuple" "tuple" = some true from by decide +kernel)))) (fun _ => (eb_not (eb_test (l := .l2) (ev_chain (c := (decide ((List.length a0 : Int) ≤ (4 : Int)))) (Bool.eq_false_or_eq_true _) ev_int (ev_cb (l := .l2) (ea_consP (ev_im rfl) ea_nil) (rc_len_tm (f := D.int))) ev_int rv_le rv_le))))) (fun hb => ?_) (fun hb => ?_)
  · replace h := ifT hb h
    have h := Option.some.inj h; subst h
    exact sd_out (sd_ret (d := (D.bl false)) ev_bl) rfl
  · replace h := ifF hb h
    refine sd_seqNext ?_
    refine sd_seq (sd_asg (d := (D.int (0 : Int))) rfl ev_int) ?_
    refine sd_env (env2 := ([.im (D.tup (List.map D.int a0)), .im (D.int (0 : Int)), .an] : List Bd)) (by kernel_rfl) ?_
    obtain ⟨y5, hy5, h⟩ := Option.bind_eq_some_iff.mp h
    refine sd_wp' [2] (by kernel_rfl) (env2 := ([.im (D.tup (List.map D.int a0)), .im (D.int (0 : Int)), .an] : List Bd)) (by kernel_rfl) ?_
    refine sd_seqZ (sd_for (l := .l2) rfl (ei_tup rfl (ev_im rfl)) (loop_foldZ (en := D.int) (ev := fun (s2 : (Int)) => ([.im (D.tup (List.map D.int a0)), .im (D.int s2), .an] : List Bd)) (fin := (fun (r : Bool) => Out.rx (D.bl r))) (fun _ => rfl) (fun x1 s2 z3 h => ?_) _ (0 : Int) _ hy5)) (fun _ => rfl) (fun y6 e => ?_) (fun y6 e => ?_)
    · refine sdt (tg_name rfl) ?_
      obtain ⟨r4, hr4, h⟩ := Option.bind_eq_some_iff.mp h
      refine sd_ifs (eb_not (eb_B (l := .l2) (ev_callK (l := .l2) (ds := [(D.int x1), (D.int s2), (D.int (99 : Int))]) (R := R_is_number_within) (ek_A (ev_im rfl) (ek_A (ev_im rfl) (ek_A ev_int ek_nil))) ⟨x1, s2, (99 : Int), r4, hr4, rfl, rfl⟩))) (fun hb => ?_) (fun hb => ?_)
      · replace h := ifT hb h
        have h := Option.some.inj h; subst h
        exact sd_out (sd_ret (d := (D.bl false)) ev_bl) rfl
      · replace h := ifF hb h
        refine sd_seqNext ?_
        have h := Option.some.inj h; subst h
        exact sd_endW [2] (sd_asg (d := (D.int (x1 + (1 : Int)))) rfl (ev_opP (l := .l2) (ev_im rfl) ev_int rv_add)) (by kernel_rfl) (by kernel_rfl)
    · subst e; replace h : _ = _ := h
      have h := Option.some.inj h; subst h
      exact (sd_ret (d := (D.bl true)) ev_bl)
    · subst e; have h := Option.some.inj h; subst h; rfl
/-- is_call -/
def m_is_call (a0 : (Int × Int × (List Int) × Int × Int)) (a1 : Int) : Option Bool := if ((!true) || (!decide ((5 : Int) = (5 : Int)))) = true then (some false) else ((m_is_number_within a0.1 (0 : Int) (a1 - (1 : Int))).bind fun r1 => (if r1 = true then (m_is_number_within a0.2.1 (a0.1 + (1 : Int)) (a1 - (1 : Int))).bind fun r2 => (if r2 = true then (m_are_offsets a0.2.2.1).bind fun r3 => (if r3 = true then (m_is_number_within a0.2.2.2.1 (0 : Int) (99 : Int)).bind fun r4 => (if r4 = true then (m_is_number_within a0.2.2.2.2 a0.2.2.2.1 (99 : Int)).bind fun r5 => some r5 else some false).bind fun c6 => some c6 else some false).bind fun c7 => some c7 else some false).bind fun c8 => some c8 else some false).bind fun c9 => some c9)
def R_is_call : List D → D → Prop := fun ds r => ∃ (a0 : (Int × Int × (List Int) × Int × Int)) (a1 : Int) (v : Bool), m_is_call a0 a1 = some v ∧ ds = [(D.tup [(D.int a0.1), (D.int a0.2.1), (D.tup (List.map D.int a0.2.2.1)), (D.int a0.2.2.2.1), (D.int a0.2.2.2.2)]), (D.int a1)] ∧ r = (D.bl v)
def nm_is_call : List Str := ["value", "count", "caller", "target", "offsets", "least", "most"]
theorem sc_is_call : FnScope ["value", "count", "caller", "target", "offsets", "least", "most"] ["value", "count"] (defScope (top 13)) := ⟨rfl, rfl, rfl, by decide +kernel, rfl, by decide +kernel, by decide +kernel⟩
theorem ok_is_call (T : Tx K mg) : FnOk P w K mg base CX0 4 T.a_is_call T.d_is_call ["value", "count"] (SpP K [true, true] R_is_call) := by
  refine T.F_is_call.ok sc_is_call (SpP.len rfl) (fun cdv A outer s H vs Q E hr h => ⟨_, PSs.nox (pss_cons (ps_if (PW.pt (pw_or (pt_not (pt_val (pe_callB (isiK (K := K) (by rfl)) rfl T.b_isinstance (by decide +kernel) (pa_cons (pv 0) (pa_cons (pe_bltn (v := .ty "tuple") rfl T.b_tuple (by decide +kernel) rfl) pa_nil))))) (pw_or1 (pt_cmpR op_ne (pe_callB (lenK (K := K) (by rfl)) rfl T.b_len (by decide +kernel) (pa_cons (pv 0) pa_nil)) pe_int (nomark _))))) (pss_one (ps_ret pe_bl)) pss_nil) (pss_cons (ps_asg (pv 0) (pgTupK (K := K) (n := 5) (by rfl) rfl (pgs_cons (pg_name (i := 2) sc_is_call.nd rfl (Or.inl rfl)) (pgs_cons (pg_name (i := 3) sc_is_call.nd rfl (Or.inl rfl)) (pgs_cons (pg_name (i := 4) sc_is_call.nd rfl (Or.inl rfl)) (pgs_cons (pg_name (i := 5) sc_is_call.nd rfl (Or.inl rfl)) (pgs_cons (pg_name (i := 6) sc_is_call.nd rfl (Or.inl rfl)) pgs_nil))))) (by rfl) (by rfl))) (pss_one (ps_ret (pe_and (pe_call (ok_is_number_within T) (hr.mono (by decide)) rfl T.g_is_number_within T.F_is_number_within.kp (T.F_is_number_within.bindsN fun _ _ _ _ _ _ us hl => match us, hl with | [_, _, _], _ => rfl) .nil pass0 (pa_cons (pv 2) (pa_cons pe_int (pa_cons (pe_op op_sub (pv 1) pe_int) pa_nil)))) (pe_and (pe_call (ok_is_number_within T) (hr.mono (by decide)) rfl T.g_is_number_within T.F_is_number_within.kp (T.F_is_number_within.bindsN fun _ _ _ _ _ _ us hl => match us, hl with | [_, _, _], _ => rfl) .nil pass0 (pa_cons (pv 3) (pa_cons (pe_op op_add (pv 2) pe_int) (pa_cons (pe_op op_sub (pv 1) pe_int) pa_nil)))) (pe_and (pe_call (ok_are_offsets T) (hr.mono (by decide)) rfl T.g_are_offsets T.F_are_offsets.kp (T.F_are_offsets.bindsN fun _ _ _ _ _ _ us hl => match us, hl with | [_], _ => rfl) .nil pass0 (pa_cons (pv 4) pa_nil)) (pe_and (pe_call (ok_is_number_within T) (hr.mono (by decide)) rfl T.g_is_number_within T.F_is_number_within.kp (T.F_is_number_within.bindsN fun _ _ _ _ _ _ us hl => match us, hl with | [_, _, _], _ => rfl) .nil pass0 (pa_cons (pv 5) (pa_cons pe_int (pa_cons (pe_glob (v := .int 99) rfl T.c_LAST_TICK ⟨_, rfl⟩) pa_nil)))) (pe_one (pe_call (ok_is_number_within T) (hr.mono (by decide)) rfl T.g_is_number_within T.F_is_number_within.kp (T.F_is_number_within.bindsN fun _ _ _ _ _ _ us hl => match us, hl with | [_, _, _], _ => rfl) .nil pass0 (pa_cons (pv 6) (pa_cons (pv 5) (pa_cons (pe_glob (v := .int 99) rfl T.c_LAST_TICK ⟨_, rfl⟩) pa_nil))))))))))))), ?_⟩)
  refine run_P (n := 5) rfl h fun ds r hR => ?_
  obtain ⟨a0, a1, v, h, rfl, rfl⟩ := hR
  unfold m_is_call at h
  refine sd_env (env2 := ([.im (D.tup [(D.int a0.1), (D.int a0.2.1), (D.tup (List.map D.int a0.2.2.1)), (D.int a0.2.2.2.1), (D.int a0.2.2.2.2)]), .im (D.int a1), .an, .an, .an, .an, .an] : List Bd)) rfl ?_
  refine sd_ifs (eb_or (eb_not (eb_B (l := .l2) (ev_isi (l := .l2) (ev_im rfl) (show kitB "tuple" "tuple" = some true from by decide +kernel)))) (fun _ => (eb_test (l := .l2) (ev_opP (l := .l2) (ev_cb (l := .l2) (ea_consP (ev_im rfl) ea_nil) rc_len_t) ev_int rv_neI)))) (fun hb => ?_) (fun hb => ?_)
  · replace h := ifT hb h
    have h := Option.some.inj h; subst h
    exact sd_out (sd_ret (d := (D.bl false)) ev_bl) rfl
  · replace h := ifF hb h
    refine sd_seqNext ?_
    refine sd_seq (sd_asgG (l := .l2) (d := (D.tup [(D.int a0.1), (D.int a0.2.1), (D.tup (List.map D.int a0.2.2.1)), (D.int a0.2.2.2.1), (D.int a0.2.2.2.2)])) (ev_im rfl) (tg_tup rfl (tgs_cons (tg_name rfl) (tgs_cons (tg_name rfl) (tgs_cons (tg_name rfl) (tgs_cons (tg_name rfl) (tgs_cons (tg_name rfl) tgs_nil))))))) ?_
    refine sd_env (env2 := ([.im (D.tup [(D.int a0.1), (D.int a0.2.1), (D.tup (List.map D.int a0.2.2.1)), (D.int a0.2.2.2.1), (D.int a0.2.2.2.2)]), .im (D.int a1), .im (D.int a0.1), .im (D.int a0.2.1), .im (D.tup (List.map D.int a0.2.2.1)), .im (D.int a0.2.2.2.1), .im (D.int a0.2.2.2.2)] : List Bd)) (by kernel_rfl) ?_
    obtain ⟨r1, hr1, h⟩ := Option.bind_eq_some_iff.mp h
    obtain ⟨c9, hc9, h⟩ := Option.bind_eq_some_iff.mp h
    have h := Option.some.inj h; subst h
    exact (sd_ret (d := (D.bl c9)) (ev_lv (l := .l2) rfl (ev_andW (c := c9) (l := .l2) (ev_callK (l := .l2) (ds := [(D.int a0.1), (D.int (0 : Int)), (D.int (a1 - (1 : Int)))]) (R := R_is_number_within) (ek_A (ev_im rfl) (ek_A ev_int (ek_A (ev_opP (l := .l2) (ev_im rfl) ev_int rv_sub) ek_nil))) ⟨a0.1, (0 : Int), (a1 - (1 : Int)), r1, hr1, rfl, rfl⟩) (fun hb => by have wc9 := ifT hb hc9; obtain ⟨r2, hr2, wc9⟩ := Option.bind_eq_some_iff.mp wc9; obtain ⟨c8, hc8, wc9⟩ := Option.bind_eq_some_iff.mp wc9; have wc9 := Option.some.inj wc9; subst wc9; exact (ev_andW (c := c8) (l := .l2) (ev_callK (l := .l2) (ds := [(D.int a0.2.1), (D.int (a0.1 + (1 : Int))), (D.int (a1 - (1 : Int)))]) (R := R_is_number_within) (ek_A (ev_im rfl) (ek_A (ev_opP (l := .l2) (ev_im rfl) ev_int rv_add) (ek_A (ev_opP (l := .l2) (ev_im rfl) ev_int rv_sub) ek_nil))) ⟨a0.2.1, (a0.1 + (1 : Int)), (a1 - (1 : Int)), r2, hr2, rfl, rfl⟩) (fun hb => by have wc8 := ifT hb hc8; obtain ⟨r3, hr3, wc8⟩ := Option.bind_eq_some_iff.mp wc8; obtain ⟨c7, hc7, wc8⟩ := Option.bind_eq_some_iff.mp wc8; have wc8 := Option.some.inj wc8; subst wc8; exact (ev_andW (c := c7) (l := .l2) (ev_callK (l := .l2) (ds := [(D.tup (List.map D.int a0.2.2.1))]) (R := R_are_offsets) (ek_A (ev_im rfl) ek_nil) ⟨a0.2.2.1, r3, hr3, rfl, rfl⟩) (fun hb => by have wc7 := ifT hb hc7; obtain ⟨r4, hr4, wc7⟩ := Option.bind_eq_some_iff.mp wc7; obtain ⟨c6, hc6, wc7⟩ := Option.bind_eq_some_iff.mp wc7; have wc7 := Option.some.inj wc7; subst wc7; exact (ev_andW (c := c6) (l := .l2) (ev_callK (l := .l2) (ds := [(D.int a0.2.2.2.1), (D.int (0 : Int)), (D.int (99 : Int))]) (R := R_is_number_within) (ek_A (ev_im rfl) (ek_A ev_int (ek_A ev_int ek_nil))) ⟨a0.2.2.2.1, (0 : Int), (99 : Int), r4, hr4, rfl, rfl⟩) (fun hb => by have wc6 := ifT hb hc6; obtain ⟨r5, hr5, wc6⟩ := Option.bind_eq_some_iff.mp wc6; have wc6 := Option.some.inj wc6; subst wc6; exact (ev_callK (l := .l2) (ds := [(D.int a0.2.2.2.2), (D.int a0.2.2.2.1), (D.int (99 : Int))]) (R := R_is_number_within) (ek_A (ev_im rfl) (ek_A (ev_im rfl) (ek_A ev_int ek_nil))) ⟨a0.2.2.2.2, a0.2.2.2.1, (99 : Int), r5, hr5, rfl, rfl⟩)) (fun hb => by have wc6 := ifF hb hc6; exact (Option.some.inj wc6).symm))) (fun hb => by have wc7 := ifF hb hc7; exact (Option.some.inj wc7).symm))) (fun hb => by have wc8 := ifF hb hc8; exact (Option.some.inj wc8).symm))) (fun hb => by have wc9 := ifF hb hc9; exact (Option.some.inj wc9).symm))))
/-- check_system -/
def m_check_system (a0 : (Int × (List (Int × Int × (List Int) × Int × Int)))) : Option Unit := if ((!true) || (!decide ((2 : Int) = (2 : Int)))) = true then (none) else ((m_is_number_within a0.1 (1 : Int) (8 : Int)).bind fun r1 => if (!r1) = true then (none) else (if (!true) = true then (none) else ((List.foldlM (fun (s3 : Unit) (x2 : (Int × (Int × Int × (List Int) × Int × Int))) => (if (decide ((20 : Int) ≤ x2.1)) = true then some true else (m_is_call x2.2 a0.1).bind fun r5 => some (!r5)).bind fun c6 => if c6 = true then (none) else (some ())) () (enumT a0.2)).bind fun y7 => some ())))
def R_check_system : List D → D → Prop := fun ds r => ∃ (a0 : (Int × (List (Int × Int × (List Int) × Int × Int)))) (v : Unit), m_check_system a0 = some v ∧ ds = [(D.tup [(D.int a0.1), (D.tup (List.map (fun (z12 : (Int × Int × (List Int) × Int × Int)) => (D.tup [(D.int z12.1), (D.int z12.2.1), (D.tup (List.map D.int z12.2.2.1)), (D.int z12.2.2.2.1), (D.int z12.2.2.2.2)])) a0.2))])] ∧ r = D.non
def nm_check_system : List Str := ["system", "count", "calls", "index", "call"]
theorem sc_check_system : FnScope ["system", "count", "calls", "index", "call"] ["system"] (defScope (top 14)) := ⟨rfl, rfl, rfl, by decide +kernel, rfl, by decide +kernel, by decide +kernel⟩
theorem ok_check_system (T : Tx K mg) : FnOk P w K mg base CX0 5 T.a_check_system T.d_check_system ["system"] (SpP K [true] R_check_system) := by
  refine T.F_check_system.ok sc_check_system (SpP.len rfl) (fun cdv A outer s H vs Q E hr h => ⟨_, PSs.nox (pss_cons (ps_if (PW.pt (pw_or (pt_not (pt_val (pe_callB (isiK (K := K) (by rfl)) rfl T.b_isinstance (by decide +kernel) (pa_cons (pv 0) (pa_cons (pe_bltn (v := .ty "tuple") rfl T.b_tuple (by decide +kernel) rfl) pa_nil))))) (pw_or1 (pt_cmpR op_ne (pe_callB (lenK (K := K) (by rfl)) rfl T.b_len (by decide +kernel) (pa_cons (pv 0) pa_nil)) pe_int (nomark _))))) (pss_one ps_never) pss_nil) (pss_cons (ps_asg (pv 0) (pgTupK (K := K) (n := 2) (by rfl) rfl (pgs_cons (pg_name (i := 1) sc_check_system.nd rfl (Or.inl rfl)) (pgs_cons (pg_name (i := 2) sc_check_system.nd rfl (Or.inl rfl)) pgs_nil)) (by rfl) (by rfl))) (pss_cons (ps_if (pt_not (pt_val (pe_call (ok_is_number_within T) (hr.mono (by decide)) rfl T.g_is_number_within T.F_is_number_within.kp (T.F_is_number_within.bindsN fun _ _ _ _ _ _ us hl => match us, hl with | [_, _, _], _ => rfl) .nil pass0 (pa_cons (pv 1) (pa_cons pe_int (pa_cons (pe_glob (v := .int 8) rfl T.c_MOST_SERVICES ⟨_, rfl⟩) pa_nil)))))) (pss_one ps_never) pss_nil) (pss_cons (ps_if (pt_not (pt_val (pe_callB (isiK (K := K) (by rfl)) rfl T.b_isinstance (by decide +kernel) (pa_cons (pv 2) (pa_cons (pe_bltn (v := .ty "tuple") rfl T.b_tuple (by decide +kernel) rfl) pa_nil))))) (pss_one ps_never) pss_nil) (pss_one (ps_for PassesOwn.never rfl (pi_enT rfl T.b_enumerate (pa_cons (pv 2) pa_nil)) (pgTupK (K := K) (n := 2) (by rfl) rfl (pgs_cons (pg_name (i := 3) sc_check_system.nd rfl (Or.inl rfl)) (pgs_cons (pg_name (i := 4) sc_check_system.nd rfl (Or.inl rfl)) pgs_nil)) (by rfl) (by rfl)) (pss_one (ps_if (PW.pt (pw_or (pt_cmpR op_ge (pv 3) (pe_glob (v := .int 20) rfl T.c_MOST_CALLS ⟨_, rfl⟩) (nomark _)) (pw_or1 (pt_not (pt_val (pe_call (ok_is_call T) (hr.mono (by decide)) rfl T.g_is_call T.F_is_call.kp (T.F_is_call.bindsN fun _ _ _ _ _ _ us hl => match us, hl with | [_, _], _ => rfl) .nil pass0 (pa_cons (pv 4) (pa_cons (pv 1) pa_nil)))))))) (pss_one ps_never) pss_nil)))))))), ?_⟩)
  refine run_N (n := 4) rfl h fun ds r hR => ?_
  obtain ⟨a0, v, h, rfl, rfl⟩ := hR
  unfold m_check_system at h
  refine ⟨rfl, ([.im (D.tup [(D.int a0.1), (D.tup (List.map (fun (z13 : (Int × Int × (List Int) × Int × Int)) => (D.tup [(D.int z13.1), (D.int z13.2.1), (D.tup (List.map D.int z13.2.2.1)), (D.int z13.2.2.2.1), (D.int z13.2.2.2.2)])) a0.2))]), .an, .an, .an, .an] : List Bd), ?_⟩
  refine sd_env (env2 := ([.im (D.tup [(D.int a0.1), (D.tup (List.map (fun (z14 : (Int × Int × (List Int) × Int × Int)) => (D.tup [(D.int z14.1), (D.int z14.2.1), (D.tup (List.map D.int z14.2.2.1)), (D.int z14.2.2.2.1), (D.int z14.2.2.2.2)])) a0.2))]), .an, .an, .an, .an] : List Bd)) rfl ?_
  refine sd_ifs (eb_or (eb_not (eb_B (l := .l2) (ev_isi (l := .l2) (ev_im rfl) (show kitB "tuple" "tuple" = some true from by decide +kernel)))) (fun _ => (eb_test (l := .l2) (ev_opP (l := .l2) (ev_cb (l := .l2) (ea_consP (ev_im rfl) ea_nil) rc_len_t) ev_int rv_neI)))) (fun hb => ?_) (fun hb => ?_)
  · replace h := ifT hb h
    cases h
  · replace h := ifF hb h
    refine sd_seqNext ?_
    refine sd_seq (sd_asgG (l := .l2) (d := (D.tup [(D.int a0.1), (D.tup (List.map (fun (z1 : (Int × Int × (List Int) × Int × Int)) => (D.tup [(D.int z1.1), (D.int z1.2.1), (D.tup (List.map D.int z1.2.2.1)), (D.int z1.2.2.2.1), (D.int z1.2.2.2.2)])) a0.2))])) (ev_im rfl) (tg_tup rfl (tgs_cons (tg_name rfl) (tgs_cons (tg_name rfl) tgs_nil)))) ?_
    refine sd_env (env2 := ([.im (D.tup [(D.int a0.1), (D.tup (List.map (fun (z2 : (Int × Int × (List Int) × Int × Int)) => (D.tup [(D.int z2.1), (D.int z2.2.1), (D.tup (List.map D.int z2.2.2.1)), (D.int z2.2.2.2.1), (D.int z2.2.2.2.2)])) a0.2))]), .im (D.int a0.1), .im (D.tup (List.map (fun (z3 : (Int × Int × (List Int) × Int × Int)) => (D.tup [(D.int z3.1), (D.int z3.2.1), (D.tup (List.map D.int z3.2.2.1)), (D.int z3.2.2.2.1), (D.int z3.2.2.2.2)])) a0.2)), .an, .an] : List Bd)) (by kernel_rfl) ?_
    obtain ⟨r1, hr1, h⟩ := Option.bind_eq_some_iff.mp h
    refine sd_ifs (eb_not (eb_B (l := .l2) (ev_callK (l := .l2) (ds := [(D.int a0.1), (D.int (1 : Int)), (D.int (8 : Int))]) (R := R_is_number_within) (ek_A (ev_im rfl) (ek_A ev_int (ek_A ev_int ek_nil))) ⟨a0.1, (1 : Int), (8 : Int), r1, hr1, rfl, rfl⟩))) (fun hb => ?_) (fun hb => ?_)
    · replace h := ifT hb h
      cases h
    · replace h := ifF hb h
      refine sd_seqNext ?_
      refine sd_ifs (eb_not (eb_B (l := .l2) (ev_isi (l := .l2) (ev_im rfl) (show kitB "tuple" "tuple" = some true from by decide +kernel)))) (fun hb => ?_) (fun hb => ?_)
      · replace h := ifT hb h
        cases h
      · replace h := ifF hb h
        refine sd_seqNext ?_
        obtain ⟨y7, hy7, h⟩ := Option.bind_eq_some_iff.mp h
        refine sd_wp' [3, 4] (by kernel_rfl) (env2 := ([.im (D.tup [(D.int a0.1), (D.tup (List.map (fun (z7 : (Int × Int × (List Int) × Int × Int)) => (D.tup [(D.int z7.1), (D.int z7.2.1), (D.tup (List.map D.int z7.2.2.1)), (D.int z7.2.2.2.1), (D.int z7.2.2.2.2)])) a0.2))]), .im (D.int a0.1), .im (D.tup (List.map (fun (z8 : (Int × Int × (List Int) × Int × Int)) => (D.tup [(D.int z8.1), (D.int z8.2.1), (D.tup (List.map D.int z8.2.2.1)), (D.int z8.2.2.2.1), (D.int z8.2.2.2.2)])) a0.2)), .an, .an] : List Bd)) (by kernel_rfl) ?_
        refine (sd_endW [1, 2, 3, 4] (sd_for (l := .l2) (o := .nx ([.im (D.tup [(D.int a0.1), (D.tup (List.map (fun (z9 : (Int × Int × (List Int) × Int × Int)) => (D.tup [(D.int z9.1), (D.int z9.2.1), (D.tup (List.map D.int z9.2.2.1)), (D.int z9.2.2.2.1), (D.int z9.2.2.2.2)])) a0.2))]), .im (D.int a0.1), .im (D.tup (List.map (fun (z10 : (Int × Int × (List Int) × Int × Int)) => (D.tup [(D.int z10.1), (D.int z10.2.1), (D.tup (List.map D.int z10.2.2.1)), (D.int z10.2.2.2.1), (D.int z10.2.2.2.2)])) a0.2)), .an, .an] : List Bd)) rfl (ei_enumTT (f := (fun (z4 : (Int × Int × (List Int) × Int × Int)) => (D.tup [(D.int z4.1), (D.int z4.2.1), (D.tup (List.map D.int z4.2.2.1)), (D.int z4.2.2.2.1), (D.int z4.2.2.2.2)]))) rfl (ea_consP (ev_im rfl) ea_nil)) (loop_foldN (en := (fun (z11 : (Int × (Int × Int × (List Int) × Int × Int))) => (D.tup [(D.int z11.1), (D.tup [(D.int z11.2.1), (D.int z11.2.2.1), (D.tup (List.map D.int z11.2.2.2.1)), (D.int z11.2.2.2.2.1), (D.int z11.2.2.2.2.2)])]))) (ev := fun (s3 : Unit) => ([.im (D.tup [(D.int a0.1), (D.tup (List.map (fun (z5 : (Int × Int × (List Int) × Int × Int)) => (D.tup [(D.int z5.1), (D.int z5.2.1), (D.tup (List.map D.int z5.2.2.1)), (D.int z5.2.2.2.1), (D.int z5.2.2.2.2)])) a0.2))]), .im (D.int a0.1), .im (D.tup (List.map (fun (z6 : (Int × Int × (List Int) × Int × Int)) => (D.tup [(D.int z6.1), (D.int z6.2.1), (D.tup (List.map D.int z6.2.2.1)), (D.int z6.2.2.2.1), (D.int z6.2.2.2.2)])) a0.2)), .an, .an] : List Bd)) (fun x2 s3 z4 h => ?_) _ () y7 hy7)) (by kernel_rfl) (by kernel_rfl))
        · refine sdt (tg_tup rfl (tgs_cons (tg_name rfl) (tgs_cons (tg_name rfl) tgs_nil))) ?_
          obtain ⟨c6, hc6, h⟩ := Option.bind_eq_some_iff.mp h
          refine sd_if (eb_orW (c := c6) (eb_test (l := .l2) (ev_opP (l := .l2) (ev_im rfl) ev_int rv_ge)) (fun hb => by have wc6 := ifF hb hc6; obtain ⟨r5, hr5, wc6⟩ := Option.bind_eq_some_iff.mp wc6; have wc6 := Option.some.inj wc6; subst wc6; exact (eb_not (eb_B (l := .l2) (ev_callK (l := .l2) (ds := [(D.tup [(D.int x2.2.1), (D.int x2.2.2.1), (D.tup (List.map D.int x2.2.2.2.1)), (D.int x2.2.2.2.2.1), (D.int x2.2.2.2.2.2)]), (D.int a0.1)]) (R := R_is_call) (ek_A (ev_im rfl) (ek_A (ev_im rfl) ek_nil)) ⟨x2.2, a0.1, r5, hr5, rfl, rfl⟩)))) (fun hb => by have wc6 := ifT hb hc6; exact (Option.some.inj wc6).symm)) (fun hb => ?_) (fun hb => ?_)
          · replace h := ifT hb h
            cases h
          · replace h := ifF hb h
            have h := Option.some.inj h; subst h
            exact sd_nextW [3, 4] (by kernel_rfl) (by kernel_rfl)
/-- calls_to -/
def m_calls_to (a0 : (List (Int × Int × (List Int) × Int × Int))) (a1 : (List Int)) (a2 : Int) : Option (List Int) := (compO (fun (x1 : (Int × (Int × Int × (List Int) × Int × Int))) => if ((decide (x1.2.1 ∈ a1)) && (decide (x1.2.2.1 = a2))) = true then some (some x1.1) else some none) (enumT a0)).bind fun ys2 => some ys2
def R_calls_to : List D → D → Prop := fun ds r => ∃ (a0 : (List (Int × Int × (List Int) × Int × Int))) (a1 : (List Int)) (a2 : Int) (v : (List Int)), m_calls_to a0 a1 a2 = some v ∧ ds = [(D.tup (List.map (fun (z17 : (Int × Int × (List Int) × Int × Int)) => (D.tup [(D.int z17.1), (D.int z17.2.1), (D.tup (List.map D.int z17.2.2.1)), (D.int z17.2.2.2.1), (D.int z17.2.2.2.2)])) a0)), (D.lst (List.map D.int a1)), (D.int a2)] ∧ r = (D.lst (List.map D.int v))
def nm_calls_to : List Str := ["calls", "callers", "target", "index", "call"]
theorem sc_calls_to : FnScope ["calls", "callers", "target", "index", "call"] ["calls", "callers", "target"] (defScope (top 15)) := ⟨rfl, rfl, rfl, by decide +kernel, rfl, by decide +kernel, by decide +kernel⟩
theorem ok_calls_to (T : Tx K mg) : FnOk P w K mg base CX0 1 T.a_calls_to T.d_calls_to ["calls", "callers", "target"] (SpP K [true, false, true] R_calls_to) := by
  refine T.F_calls_to.ok sc_calls_to (SpP.len rfl) (fun cdv A outer s H vs Q E hr h => ⟨_, PSs.nox (pss_one (ps_ret (pe_lc (own := [("index", 3), ("call", 4)]) rfl sc_calls_to.nd (pi_enT rfl T.b_enumerate (pa_cons (pv 0) pa_nil)) (blkOk_by (own := [("index", 3), ("call", 4)]) (N := nm_calls_to) (sc := defScope (top 15)) (by decide +kernel)) (fun _ _ _ _ _ => (pgTupK (K := K) (n := 2) (by rfl) rfl (pgs_cons (pg_name (i := 3) sc_calls_to.nd rfl (Or.inl rfl)) (pgs_cons (pg_name (i := 4) sc_calls_to.nd rfl (Or.inl rfl)) pgs_nil)) (by rfl) (by rfl))) (fun _ _ _ _ _ => (pts_one (PW.pt (pw_and (pt_cmpR (inK (K := K) (by rfl)) (pe_ix (ixTK (K := K) (by rfl)) (pv 4) pe_int (fun _ _ => rfl)) (pv 1) rfl) (pw_and1 (pt_cmpR op_eq (pe_ix (ixTK (K := K) (by rfl)) (pv 4) pe_int (fun _ _ => rfl)) (pv 2) (nomark _))))))) (fun _ _ _ _ _ => (pv 3))))), ?_⟩)
  refine run_P (n := 2) rfl h fun ds r hR => ?_
  obtain ⟨a0, a1, a2, v, h, rfl, rfl⟩ := hR
  unfold m_calls_to at h
  refine sd_env (env2 := ([.im (D.tup (List.map (fun (z18 : (Int × Int × (List Int) × Int × Int)) => (D.tup [(D.int z18.1), (D.int z18.2.1), (D.tup (List.map D.int z18.2.2.1)), (D.int z18.2.2.2.1), (D.int z18.2.2.2.2)])) a0)), .rd (D.lst (List.map D.int a1)), .im (D.int a2), .an, .an] : List Bd)) rfl ?_
  obtain ⟨ys2, hys2, h⟩ := Option.bind_eq_some_iff.mp h
  have h := Option.some.inj h; subst h
  exact (sd_ret (d := (D.lst (List.map D.int ys2))) (ef_ev (ef_lcO (l := .l2) (en := (fun (z16 : (Int × (Int × Int × (List Int) × Int × Int))) => (D.tup [(D.int z16.1), (D.tup [(D.int z16.2.1), (D.int z16.2.2.1), (D.tup (List.map D.int z16.2.2.2.1)), (D.int z16.2.2.2.2.1), (D.int z16.2.2.2.2.2)])]))) (eb := D.int) hys2 rfl (ei_enumTT (f := (fun (z15 : (Int × Int × (List Int) × Int × Int)) => (D.tup [(D.int z15.1), (D.int z15.2.1), (D.tup (List.map D.int z15.2.2.1)), (D.int z15.2.2.2.1), (D.int z15.2.2.2.2)]))) rfl (ea_consP (ev_im rfl) ea_nil)) (tw_tup (tws_cons (tw_name (i := 3) (vs := [3, 4]) (by decide)) (tws_cons (tw_name (i := 4) (vs := [3, 4]) (by decide)) tws_nil))) (anC (v := 3) rfl (anC (v := 4) rfl anN)) (fun x1 rr wys2 => by exact (Bool.eq_false_or_eq_true (((decide (x1.2.1 ∈ a1)) && (decide (x1.2.2.1 = a2))))).elim (fun hb => by have wys2 := ifT hb wys2; have wys2 := Option.some.inj wys2; subst wys2; exact turn_yes (tg_tup rfl (tgs_cons (tg_name rfl) (tgs_cons (tg_name rfl) tgs_nil))) (eb_is (eb_and (eb_test (l := .l2) (ev_opP (l := .l1) (ev_opP (l := .l1) (ev_im rfl) ev_int (rv_ixTn 0 rfl)) (ev_rd (.inr rfl) rfl) rv_in0)) (fun _ => (eb_test (l := .l2) (ev_opP (l := .l2) (ev_opP (l := .l2) (ev_im rfl) ev_int (rv_ixTn 1 rfl)) (ev_im rfl) rv_eqI)))) hb) (ev_im rfl) rfl rfl rfl (anC (v := 3) rfl (anC (v := 4) rfl anN))) (fun hb => by have wys2 := ifF hb wys2; have wys2 := Option.some.inj wys2; subst wys2; exact turn_no (tg_tup rfl (tgs_cons (tg_name rfl) (tgs_cons (tg_name rfl) tgs_nil))) (eb_is (eb_and (eb_test (l := .l2) (ev_opP (l := .l1) (ev_opP (l := .l1) (ev_im rfl) ev_int (rv_ixTn 0 rfl)) (ev_rd (.inr rfl) rfl) rv_in0)) (fun _ => (eb_test (l := .l2) (ev_opP (l := .l2) (ev_opP (l := .l2) (ev_im rfl) ev_int (rv_ixTn 1 rfl)) (ev_im rfl) rv_eqI)))) hb) rfl rfl (anC (v := 3) rfl (anC (v := 4) rfl anN)))))))
/-- reachable_services -/
def m_reachable_services (a0 : (Int × (List (Int × Int × (List Int) × Int × Int)))) : Option (List Int) := (m_check_system a0).bind fun r1 => (rngO (1 : Int) a0.1).bind fun x2 => (List.foldlM (fun (s4 : ((List Int))) (x3 : Int) => (m_calls_to a0.2 s4 x3).bind fun r6 => if (!List.isEmpty r6) = true then ((okL (List.length s4)).bind fun x7 => some (s4 ++ [x3])) else (some s4)) ([(0 : Int)] : List Int) x2).bind fun y8 => some y8
def R_reachable_services : List D → D → Prop := fun ds r => ∃ (a0 : (Int × (List (Int × Int × (List Int) × Int × Int)))) (v : (List Int)), m_reachable_services a0 = some v ∧ ds = [(D.tup [(D.int a0.1), (D.tup (List.map (fun (z33 : (Int × Int × (List Int) × Int × Int)) => (D.tup [(D.int z33.1), (D.int z33.2.1), (D.tup (List.map D.int z33.2.2.1)), (D.int z33.2.2.2.1), (D.int z33.2.2.2.2)])) a0.2))])] ∧ r = (D.lst (List.map D.int v))
def nm_reachable_services : List Str := ["system", "reached", "service", "count", "calls"]
theorem sc_reachable_services : FnScope ["system", "reached", "service", "count", "calls"] ["system"] (defScope (top 16)) := ⟨rfl, rfl, rfl, by decide +kernel, rfl, by decide +kernel, by decide +kernel⟩
theorem ok_reachable_services (T : Tx K mg) : FnOk P w K mg base CX0 6 T.a_reachable_services T.d_reachable_services ["system"] (SpP K [true] R_reachable_services) := by
  refine T.F_reachable_services.ok sc_reachable_services (SpP.len rfl) (fun cdv A outer s H vs Q E hr h => ⟨_, PSs.nox (pss_cons (ps_expr (pe_call (ok_check_system T) (hr.mono (by decide)) rfl T.g_check_system T.F_check_system.kp (T.F_check_system.bindsN fun _ _ _ _ _ _ us hl => match us, hl with | [_], _ => rfl) .nil pass0 (pa_cons (pv 0) pa_nil))) (pss_cons (ps_asg (pv 0) (pgTupK (K := K) (n := 2) (by rfl) rfl (pgs_cons (pg_name (i := 3) sc_reachable_services.nd rfl (Or.inl rfl)) (pgs_cons (pg_name (i := 4) sc_reachable_services.nd rfl (Or.inl rfl)) pgs_nil)) (by rfl) (by rfl))) (pss_cons (ps_set (i := 1) sc_reachable_services.nd rfl (Or.inl rfl) (pe_lst (pa_cons pe_int pa_nil))) (pss_cons (ps_for PassesOwn.never rfl (pi_range2 rfl T.b_range (pa_cons pe_int (pa_cons (pv 3) pa_nil))) (pg_name (i := 2) sc_reachable_services.nd rfl (Or.inl rfl)) (pss_one (ps_if (pt_truth (pe_call (ok_calls_to T) (hr.mono (by decide)) rfl T.g_calls_to T.F_calls_to.kp (T.F_calls_to.bindsN fun _ _ _ _ _ _ us hl => match us, hl with | [_, _, _], _ => rfl) .nil pass0 (pa_cons (pv 4) (pa_cons (pv 1) (pa_cons (pv 2) pa_nil)))) (by intro _; rfl)) (pss_one (ps_expr (pe_bm PySem.F.plainAttrs_list PySem.F.slot_list_append PySem.F.type_list_append mt_append (pv 1) (pa_cons (pv 2) pa_nil)))) pss_nil))) (pss_one (ps_ret (pv 1))))))), ?_⟩)
  refine run_P (n := 4) rfl h fun ds r hR => ?_
  obtain ⟨a0, v, h, rfl, rfl⟩ := hR
  unfold m_reachable_services at h
  refine sd_env (env2 := ([.im (D.tup [(D.int a0.1), (D.tup (List.map (fun (z34 : (Int × Int × (List Int) × Int × Int)) => (D.tup [(D.int z34.1), (D.int z34.2.1), (D.tup (List.map D.int z34.2.2.1)), (D.int z34.2.2.2.1), (D.int z34.2.2.2.2)])) a0.2))]), .an, .an, .an, .an] : List Bd)) rfl ?_
  obtain ⟨r1, hr1, h⟩ := Option.bind_eq_some_iff.mp h
  refine sd_seq (sd_drop (d := D.non) (l := .l2) (ev_callK (l := .l2) (ds := [(D.tup [(D.int a0.1), (D.tup (List.map (fun (z19 : (Int × Int × (List Int) × Int × Int)) => (D.tup [(D.int z19.1), (D.int z19.2.1), (D.tup (List.map D.int z19.2.2.1)), (D.int z19.2.2.2.1), (D.int z19.2.2.2.2)])) a0.2))])]) (R := R_check_system) (ek_A (ev_im rfl) ek_nil) ⟨a0, r1, hr1, rfl, rfl⟩)) ?_
  refine sd_env (env2 := ([.im (D.tup [(D.int a0.1), (D.tup (List.map (fun (z20 : (Int × Int × (List Int) × Int × Int)) => (D.tup [(D.int z20.1), (D.int z20.2.1), (D.tup (List.map D.int z20.2.2.1)), (D.int z20.2.2.2.1), (D.int z20.2.2.2.2)])) a0.2))]), .an, .an, .an, .an] : List Bd)) (by kernel_rfl) ?_
  refine sd_seq (sd_asgG (l := .l2) (d := (D.tup [(D.int a0.1), (D.tup (List.map (fun (z21 : (Int × Int × (List Int) × Int × Int)) => (D.tup [(D.int z21.1), (D.int z21.2.1), (D.tup (List.map D.int z21.2.2.1)), (D.int z21.2.2.2.1), (D.int z21.2.2.2.2)])) a0.2))])) (ev_im rfl) (tg_tup rfl (tgs_cons (tg_name rfl) (tgs_cons (tg_name rfl) tgs_nil)))) ?_
  refine sd_env (env2 := ([.im (D.tup [(D.int a0.1), (D.tup (List.map (fun (z22 : (Int × Int × (List Int) × Int × Int)) => (D.tup [(D.int z22.1), (D.int z22.2.1), (D.tup (List.map D.int z22.2.2.1)), (D.int z22.2.2.2.1), (D.int z22.2.2.2.2)])) a0.2))]), .an, .an, .im (D.int a0.1), .im (D.tup (List.map (fun (z23 : (Int × Int × (List Int) × Int × Int)) => (D.tup [(D.int z23.1), (D.int z23.2.1), (D.tup (List.map D.int z23.2.2.1)), (D.int z23.2.2.2.1), (D.int z23.2.2.2.2)])) a0.2))] : List Bd)) (by kernel_rfl) ?_
  refine sd_seq (sd_asgF (d := (D.lst (List.map D.int ([(0 : Int)] : List Int)))) rfl (ef_is (D.lst (List.map D.int ([(0 : Int)] : List Int))) (ef_lst (ea_consP ev_int ea_nil) (show 1 ≤ 1000 from by decide)) rfl)) ?_
  refine sd_env (env2 := ([.im (D.tup [(D.int a0.1), (D.tup (List.map (fun (z24 : (Int × Int × (List Int) × Int × Int)) => (D.tup [(D.int z24.1), (D.int z24.2.1), (D.tup (List.map D.int z24.2.2.1)), (D.int z24.2.2.2.1), (D.int z24.2.2.2.2)])) a0.2))]), .ow (D.lst (List.map D.int ([(0 : Int)] : List Int))), .an, .im (D.int a0.1), .im (D.tup (List.map (fun (z25 : (Int × Int × (List Int) × Int × Int)) => (D.tup [(D.int z25.1), (D.int z25.2.1), (D.tup (List.map D.int z25.2.2.1)), (D.int z25.2.2.2.1), (D.int z25.2.2.2.2)])) a0.2))] : List Bd)) (by kernel_rfl) ?_
  obtain ⟨x2, hx2, h⟩ := Option.bind_eq_some_iff.mp h
  obtain ⟨y8, hy8, h⟩ := Option.bind_eq_some_iff.mp h
  refine sd_wp' [2] (by kernel_rfl) (env2 := ([.im (D.tup [(D.int a0.1), (D.tup (List.map (fun (z29 : (Int × Int × (List Int) × Int × Int)) => (D.tup [(D.int z29.1), (D.int z29.2.1), (D.tup (List.map D.int z29.2.2.1)), (D.int z29.2.2.2.1), (D.int z29.2.2.2.2)])) a0.2))]), .ow (D.lst (List.map D.int ([(0 : Int)] : List Int))), .an, .im (D.int a0.1), .im (D.tup (List.map (fun (z30 : (Int × Int × (List Int) × Int × Int)) => (D.tup [(D.int z30.1), (D.int z30.2.1), (D.tup (List.map D.int z30.2.2.1)), (D.int z30.2.2.2.1), (D.int z30.2.2.2.2)])) a0.2))] : List Bd)) (by kernel_rfl) ?_
  refine sd_seq (sd_for (l := .l2) (o := .nx ([.im (D.tup [(D.int a0.1), (D.tup (List.map (fun (z31 : (Int × Int × (List Int) × Int × Int)) => (D.tup [(D.int z31.1), (D.int z31.2.1), (D.tup (List.map D.int z31.2.2.1)), (D.int z31.2.2.2.1), (D.int z31.2.2.2.2)])) a0.2))]), .ow (D.lst (List.map D.int y8)), .an, .im (D.int a0.1), .im (D.tup (List.map (fun (z32 : (Int × Int × (List Int) × Int × Int)) => (D.tup [(D.int z32.1), (D.int z32.2.1), (D.tup (List.map D.int z32.2.2.1)), (D.int z32.2.2.2.1), (D.int z32.2.2.2.2)])) a0.2))] : List Bd)) rfl (ei_rng2T (l' := .l2) hx2 (ea_consP ev_int (ea_consP (ev_im rfl) ea_nil))) (loop_foldN (en := D.int) (ev := fun (s4 : ((List Int))) => ([.im (D.tup [(D.int a0.1), (D.tup (List.map (fun (z27 : (Int × Int × (List Int) × Int × Int)) => (D.tup [(D.int z27.1), (D.int z27.2.1), (D.tup (List.map D.int z27.2.2.1)), (D.int z27.2.2.2.1), (D.int z27.2.2.2.2)])) a0.2))]), .ow (D.lst (List.map D.int s4)), .an, .im (D.int a0.1), .im (D.tup (List.map (fun (z28 : (Int × Int × (List Int) × Int × Int)) => (D.tup [(D.int z28.1), (D.int z28.2.1), (D.tup (List.map D.int z28.2.2.1)), (D.int z28.2.2.2.1), (D.int z28.2.2.2.2)])) a0.2))] : List Bd)) (fun x3 s4 z5 h => ?_) _ ([(0 : Int)] : List Int) y8 hy8)) ?_
  · refine sdt (tg_name rfl) ?_
    obtain ⟨r6, hr6, h⟩ := Option.bind_eq_some_iff.mp h
    refine sd_if (eb_truLT (l := .l2) (f := D.int) (ev_callK (l := .l2) (ds := [(D.tup (List.map (fun (z26 : (Int × Int × (List Int) × Int × Int)) => (D.tup [(D.int z26.1), (D.int z26.2.1), (D.tup (List.map D.int z26.2.2.1)), (D.int z26.2.2.2.1), (D.int z26.2.2.2.2)])) a0.2)), (D.lst (List.map D.int s4)), (D.int x3)]) (R := R_calls_to) (ek_A (ev_im rfl) (ek_R (ev_ow (.inl rfl) rfl) (ek_A (ev_im rfl) ek_nil))) ⟨a0.2, s4, x3, r6, hr6, rfl, rfl⟩)) (fun hb => ?_) (fun hb => ?_)
    · replace h := ifT hb h
      obtain ⟨x7, hx7, h⟩ := Option.bind_eq_some_iff.mp h
      have h := Option.some.inj h; subst h
      exact sd_endW [2] (sd_appendT (f := D.int) (xs := s4) (v := x3) hx7 rfl rfl (ev_im rfl)) (by kernel_rfl) (by kernel_rfl)
    · replace h := ifF hb h
      have h := Option.some.inj h; subst h
      exact sd_nextW [2] (by kernel_rfl) (by kernel_rfl)
  have h := Option.some.inj h; subst h
  exact (sd_ret (d := (D.lst (List.map D.int y8))) (ev_ow (.inr rfl) rfl))
/-- check_service -/
def m_check_service (a0 : (Int × (List (Int × Int × (List Int) × Int × Int)))) (a1 : Int) : Option Unit := (m_reachable_services a0).bind fun r1 => (m_is_number a1).bind fun r2 => if ((!r2) || (!decide (a1 ∈ r1))) = true then (none) else (some ())
def R_check_service : List D → D → Prop := fun ds r => ∃ (a0 : (Int × (List (Int × Int × (List Int) × Int × Int)))) (a1 : Int) (v : Unit), m_check_service a0 a1 = some v ∧ ds = [(D.tup [(D.int a0.1), (D.tup (List.map (fun (z37 : (Int × Int × (List Int) × Int × Int)) => (D.tup [(D.int z37.1), (D.int z37.2.1), (D.tup (List.map D.int z37.2.2.1)), (D.int z37.2.2.2.1), (D.int z37.2.2.2.2)])) a0.2))]), (D.int a1)] ∧ r = D.non
def nm_check_service : List Str := ["system", "service", "reached"]
theorem sc_check_service : FnScope ["system", "service", "reached"] ["system", "service"] (defScope (top 17)) := ⟨rfl, rfl, rfl, by decide +kernel, rfl, by decide +kernel, by decide +kernel⟩
theorem ok_check_service (T : Tx K mg) : FnOk P w K mg base CX0 7 T.a_check_service T.d_check_service ["system", "service"] (SpP K [true, true] R_check_service) := by
  refine T.F_check_service.ok sc_check_service (SpP.len rfl) (fun cdv A outer s H vs Q E hr h => ⟨_, PSs.nox (pss_cons (ps_set (i := 2) sc_check_service.nd rfl (Or.inl rfl) (pe_call (ok_reachable_services T) (hr.mono (by decide)) rfl T.g_reachable_services T.F_reachable_services.kp (T.F_reachable_services.bindsN fun _ _ _ _ _ _ us hl => match us, hl with | [_], _ => rfl) .nil pass0 (pa_cons (pv 0) pa_nil))) (pss_one (ps_if (PW.pt (pw_or (pt_not (pt_val (pe_call (ok_is_number T) (hr.mono (by decide)) rfl T.g_is_number T.F_is_number.kp (T.F_is_number.bindsN fun _ _ _ _ _ _ us hl => match us, hl with | [_], _ => rfl) .nil pass0 (pa_cons (pv 1) pa_nil)))) (pw_or1 (pt_cmpR (notInK (K := K) (by rfl)) (pv 1) (pv 2) rfl)))) (pss_one ps_never) pss_nil))), ?_⟩)
  refine run_N (n := 1) rfl h fun ds r hR => ?_
  obtain ⟨a0, a1, v, h, rfl, rfl⟩ := hR
  unfold m_check_service at h
  refine ⟨rfl, ([.im (D.tup [(D.int a0.1), (D.tup (List.map (fun (z38 : (Int × Int × (List Int) × Int × Int)) => (D.tup [(D.int z38.1), (D.int z38.2.1), (D.tup (List.map D.int z38.2.2.1)), (D.int z38.2.2.2.1), (D.int z38.2.2.2.2)])) a0.2))]), .im (D.int a1), .an] : List Bd), ?_⟩
  refine sd_env (env2 := ([.im (D.tup [(D.int a0.1), (D.tup (List.map (fun (z39 : (Int × Int × (List Int) × Int × Int)) => (D.tup [(D.int z39.1), (D.int z39.2.1), (D.tup (List.map D.int z39.2.2.1)), (D.int z39.2.2.2.1), (D.int z39.2.2.2.2)])) a0.2))]), .im (D.int a1), .an] : List Bd)) rfl ?_
  obtain ⟨r1, hr1, h⟩ := Option.bind_eq_some_iff.mp h
  refine sd_seq (sd_asg (d := (D.lst (List.map D.int r1))) rfl (ev_callK (l := .l2) (ds := [(D.tup [(D.int a0.1), (D.tup (List.map (fun (z35 : (Int × Int × (List Int) × Int × Int)) => (D.tup [(D.int z35.1), (D.int z35.2.1), (D.tup (List.map D.int z35.2.2.1)), (D.int z35.2.2.2.1), (D.int z35.2.2.2.2)])) a0.2))])]) (R := R_reachable_services) (ek_A (ev_im rfl) ek_nil) ⟨a0, r1, hr1, rfl, rfl⟩)) ?_
  refine sd_env (env2 := ([.im (D.tup [(D.int a0.1), (D.tup (List.map (fun (z36 : (Int × Int × (List Int) × Int × Int)) => (D.tup [(D.int z36.1), (D.int z36.2.1), (D.tup (List.map D.int z36.2.2.1)), (D.int z36.2.2.2.1), (D.int z36.2.2.2.2)])) a0.2))]), .im (D.int a1), .im (D.lst (List.map D.int r1))] : List Bd)) (by kernel_rfl) ?_
  obtain ⟨r2, hr2, h⟩ := Option.bind_eq_some_iff.mp h
  refine sd_if (eb_or (eb_not (eb_B (l := .l2) (ev_callK (l := .l2) (ds := [(D.int a1)]) (R := R_is_number) (ek_A (ev_im rfl) ek_nil) ⟨a1, r2, hr2, rfl, rfl⟩))) (fun _ => (eb_test (l := .l2) (ev_opP (l := .l2) (ev_im rfl) (ev_im rfl) rv_in1)))) (fun hb => ?_) (fun hb => ?_)
  · replace h := ifT hb h
    cases h
  · replace h := ifF hb h
    exact sd_nextW [2] (by kernel_rfl) (by kernel_rfl)
/-- shortest_way -/
def m_shortest_way (a0 : (Int × Int × (List Int) × Int × Int)) : Option Int := (atI a0.2.2.1 (0 : Int)).bind fun x1 => some (x1 + a0.2.2.2.1)
def R_shortest_way : List D → D → Prop := fun ds r => ∃ (a0 : (Int × Int × (List Int) × Int × Int)) (v : Int), m_shortest_way a0 = some v ∧ ds = [(D.tup [(D.int a0.1), (D.int a0.2.1), (D.tup (List.map D.int a0.2.2.1)), (D.int a0.2.2.2.1), (D.int a0.2.2.2.2)])] ∧ r = (D.int v)
def nm_shortest_way : List Str := ["call", "offsets", "least"]
theorem sc_shortest_way : FnScope ["call", "offsets", "least"] ["call"] (defScope (top 19)) := ⟨rfl, rfl, rfl, by decide +kernel, rfl, by decide +kernel, by decide +kernel⟩
theorem ok_shortest_way (T : Tx K mg) : FnOk P w K mg base CX0 1 T.a_shortest_way T.d_shortest_way ["call"] (SpP K [true] R_shortest_way) := by
  refine T.F_shortest_way.ok sc_shortest_way (SpP.len rfl) (fun cdv A outer s H vs Q E hr h => ⟨_, PSs.nox (pss_cons (ps_par (i := 1) (j := 2) rfl sc_shortest_way.nd rfl rfl (by decide) rfl rfl (pa_cons (pe_ix (ixTK (K := K) (by rfl)) (pv 0) pe_int (fun _ _ => rfl)) (pa_cons (pe_ix (ixTK (K := K) (by rfl)) (pv 0) pe_int (fun _ _ => rfl)) pa_nil)) (by rfl)) (pss_one (ps_ret (pe_op op_add (pe_ix (ixTK (K := K) (by rfl)) (pv 1) pe_int (fun _ _ => rfl)) (pv 2))))), ?_⟩)
  refine run_P (n := 2) rfl h fun ds r hR => ?_
  obtain ⟨a0, v, h, rfl, rfl⟩ := hR
  unfold m_shortest_way at h
  refine sd_env (env2 := ([.im (D.tup [(D.int a0.1), (D.int a0.2.1), (D.tup (List.map D.int a0.2.2.1)), (D.int a0.2.2.2.1), (D.int a0.2.2.2.2)]), .an, .an] : List Bd)) rfl ?_
  refine sd_seq (sd_par (pf_im (d := (D.tup (List.map D.int a0.2.2.1))) rfl (ev_opP (l := .l2) (ev_im rfl) ev_int (rv_ixTn 2 rfl)) (pf_im (d := (D.int a0.2.2.2.1)) rfl (ev_opP (l := .l2) (ev_im rfl) ev_int (rv_ixTn 3 rfl)) pf_nil))) ?_
  refine sd_env (env2 := ([.im (D.tup [(D.int a0.1), (D.int a0.2.1), (D.tup (List.map D.int a0.2.2.1)), (D.int a0.2.2.2.1), (D.int a0.2.2.2.2)]), .im (D.tup (List.map D.int a0.2.2.1)), .im (D.int a0.2.2.2.1)] : List Bd)) (by kernel_rfl) ?_
  obtain ⟨x1, hx1, h⟩ := Option.bind_eq_some_iff.mp h
  have h := Option.some.inj h; subst h
  exact (sd_ret (d := (D.int (x1 + a0.2.2.2.1))) (ev_opP (l := .l2) (ev_opP (l := .l2) (ev_im rfl) ev_int (rv_ixTm (f := D.int) (xs := a0.2.2.1) (v := x1) hx1)) (ev_im rfl) rv_add))
/-- longest_way -/
def m_longest_way (a0 : (Int × Int × (List Int) × Int × Int)) : Option Int := (atI a0.2.2.1 (-(1 : Int))).bind fun x1 => some (x1 + a0.2.2.2.2)
def R_longest_way : List D → D → Prop := fun ds r => ∃ (a0 : (Int × Int × (List Int) × Int × Int)) (v : Int), m_longest_way a0 = some v ∧ ds = [(D.tup [(D.int a0.1), (D.int a0.2.1), (D.tup (List.map D.int a0.2.2.1)), (D.int a0.2.2.2.1), (D.int a0.2.2.2.2)])] ∧ r = (D.int v)
def nm_longest_way : List Str := ["call", "offsets", "most"]
theorem sc_longest_way : FnScope ["call", "offsets", "most"] ["call"] (defScope (top 20)) := ⟨rfl, rfl, rfl, by decide +kernel, rfl, by decide +kernel, by decide +kernel⟩
theorem ok_longest_way (T : Tx K mg) : FnOk P w K mg base CX0 1 T.a_longest_way T.d_longest_way ["call"] (SpP K [true] R_longest_way) := by
  refine T.F_longest_way.ok sc_longest_way (SpP.len rfl) (fun cdv A outer s H vs Q E hr h => ⟨_, PSs.nox (pss_cons (ps_par (i := 1) (j := 2) rfl sc_longest_way.nd rfl rfl (by decide) rfl rfl (pa_cons (pe_ix (ixTK (K := K) (by rfl)) (pv 0) pe_int (fun _ _ => rfl)) (pa_cons (pe_ix (ixTK (K := K) (by rfl)) (pv 0) pe_int (fun _ _ => rfl)) pa_nil)) (by rfl)) (pss_one (ps_ret (pe_op op_add (pe_ix (ixTK (K := K) (by rfl)) (pv 1) (pe_un un_neg pe_int) (fun _ _ => rfl)) (pv 2))))), ?_⟩)
  refine run_P (n := 2) rfl h fun ds r hR => ?_
  obtain ⟨a0, v, h, rfl, rfl⟩ := hR
  unfold m_longest_way at h
  refine sd_env (env2 := ([.im (D.tup [(D.int a0.1), (D.int a0.2.1), (D.tup (List.map D.int a0.2.2.1)), (D.int a0.2.2.2.1), (D.int a0.2.2.2.2)]), .an, .an] : List Bd)) rfl ?_
  refine sd_seq (sd_par (pf_im (d := (D.tup (List.map D.int a0.2.2.1))) rfl (ev_opP (l := .l2) (ev_im rfl) ev_int (rv_ixTn 2 rfl)) (pf_im (d := (D.int a0.2.2.2.2)) rfl (ev_opP (l := .l2) (ev_im rfl) ev_int (rv_ixTn 4 rfl)) pf_nil))) ?_
  refine sd_env (env2 := ([.im (D.tup [(D.int a0.1), (D.int a0.2.1), (D.tup (List.map D.int a0.2.2.1)), (D.int a0.2.2.2.1), (D.int a0.2.2.2.2)]), .im (D.tup (List.map D.int a0.2.2.1)), .im (D.int a0.2.2.2.2)] : List Bd)) (by kernel_rfl) ?_
  obtain ⟨x1, hx1, h⟩ := Option.bind_eq_some_iff.mp h
  have h := Option.some.inj h; subst h
  exact (sd_ret (d := (D.int (x1 + a0.2.2.2.2))) (ev_opP (l := .l2) (ev_opP (l := .l2) (ev_im rfl) (ev_un (f := fun i => V.int (-i)) (e := D.int (-(1 : Int))) (l := .l2) ev_int (fun _ => rfl)) (rv_ixTm (f := D.int) (xs := a0.2.2.1) (v := x1) hx1)) (ev_im rfl) rv_add))
/-- late_choices -/
def m_late_choices (a0 : (List (Int × Int × (List Int) × Int × Int))) (a1 : (List Int)) (a2 : (List (List Int × (Int × (Option Int))))) (a3 : Int) : Option (List (Int × Int)) := (compO (fun (x1 : Int) => (atI a0 x1).bind fun x2 => (getA a2 [x2.1, a3]).bind fun x3 => (atI a0 x1).bind fun x4 => (m_longest_way x4).bind fun r5 => some (some ((x3.1 + r5), x1))) a1).bind fun ys6 => some ys6
def R_late_choices : List D → D → Prop := fun ds r => ∃ (a0 : (List (Int × Int × (List Int) × Int × Int))) (a1 : (List Int)) (a2 : (List (List Int × (Int × (Option Int))))) (a3 : Int) (v : (List (Int × Int))), m_late_choices a0 a1 a2 a3 = some v ∧ ds = [(D.tup (List.map (fun (z45 : (Int × Int × (List Int) × Int × Int)) => (D.tup [(D.int z45.1), (D.int z45.2.1), (D.tup (List.map D.int z45.2.2.1)), (D.int z45.2.2.2.1), (D.int z45.2.2.2.2)])) a0)), (D.lst (List.map D.int a1)), (dtL (List.map (fun (z : List Int × (Int × (Option Int))) => ((z.1.map Sum.inl : List Key), (D.tup [(D.int z.2.1), (encO D.int z.2.2)]))) a2)), (D.int a3)] ∧ r = (D.lst (List.map (fun (z46 : (Int × Int)) => (D.tup [(D.int z46.1), (D.int z46.2)])) v))
def nm_late_choices : List Str := ["calls", "indexes", "table", "other", "index"]
theorem sc_late_choices : FnScope ["calls", "indexes", "table", "other", "index"] ["calls", "indexes", "table", "other"] (defScope (top 21)) := ⟨rfl, rfl, rfl, by decide +kernel, rfl, by decide +kernel, by decide +kernel⟩
theorem ok_late_choices (T : Tx K mg) : FnOk P w K mg base CX0 2 T.a_late_choices T.d_late_choices ["calls", "indexes", "table", "other"] (SpP K [true, true, false, true] R_late_choices) := by
  refine T.F_late_choices.ok sc_late_choices (SpP.len rfl) (fun cdv A outer s H vs Q E hr h => ⟨_, PSs.nox (pss_one (ps_ret (pe_lc (own := [("index", 4)]) rfl sc_late_choices.nd (piListK (K := K) (by rfl) (pv 1)) (blkOk_by (own := [("index", 4)]) (N := nm_late_choices) (sc := defScope (top 21)) (by decide +kernel)) (fun _ _ _ _ _ => (pg_name (i := 4) sc_late_choices.nd rfl (Or.inl rfl))) (fun _ _ _ _ _ => pts_nil) (fun _ _ _ _ _ => (pe_tup (pa_cons (pe_op op_add (pe_ix (ixTK (K := K) (by rfl)) (pe_dget (hu_of hr) (pv 2) (pe_tup (pa_cons (pe_ix (ixTK (K := K) (by rfl)) (pe_ix (ixTK (K := K) (by rfl)) (pv 0) (pv 4) (fun _ _ => rfl)) pe_int (fun _ _ => rfl)) (pa_cons (pv 3) pa_nil))) (fun _ _ => rfl)) pe_int (fun _ _ => rfl)) (pe_call (ok_longest_way T) (hr.mono (by decide)) rfl T.g_longest_way T.F_longest_way.kp (T.F_longest_way.bindsN fun _ _ _ _ _ _ us hl => match us, hl with | [_], _ => rfl) .nil pass0 (pa_cons (pe_ix (ixTK (K := K) (by rfl)) (pv 0) (pv 4) (fun _ _ => rfl)) pa_nil))) (pa_cons (pv 4) pa_nil))))))), ?_⟩)
  refine run_P (n := 1) rfl h fun ds r hR => ?_
  obtain ⟨a0, a1, a2, a3, v, h, rfl, rfl⟩ := hR
  unfold m_late_choices at h
  refine sd_env (env2 := ([.im (D.tup (List.map (fun (z47 : (Int × Int × (List Int) × Int × Int)) => (D.tup [(D.int z47.1), (D.int z47.2.1), (D.tup (List.map D.int z47.2.2.1)), (D.int z47.2.2.2.1), (D.int z47.2.2.2.2)])) a0)), .im (D.lst (List.map D.int a1)), .rd (dtL (List.map (fun (z : List Int × (Int × (Option Int))) => ((z.1.map Sum.inl : List Key), (D.tup [(D.int z.2.1), (encO D.int z.2.2)]))) a2)), .im (D.int a3), .an] : List Bd)) rfl ?_
  obtain ⟨ys6, hys6, h⟩ := Option.bind_eq_some_iff.mp h
  have h := Option.some.inj h; subst h
  exact (sd_ret (d := (D.lst (List.map (fun (z44 : (Int × Int)) => (D.tup [(D.int z44.1), (D.int z44.2)])) ys6))) (ef_ev (ef_lcO (l := .l2) (en := D.int) (eb := (fun (z43 : (Int × Int)) => (D.tup [(D.int z43.1), (D.int z43.2)]))) hys6 rfl (ei_list rfl (ev_im rfl)) (tw_name (i := 4) (vs := [4]) (by decide)) (anC (v := 4) rfl anN) (fun x1 rr wys6 => by obtain ⟨x2, hx2, wys6⟩ := Option.bind_eq_some_iff.mp wys6; obtain ⟨x3, hx3, wys6⟩ := Option.bind_eq_some_iff.mp wys6; obtain ⟨x4, hx4, wys6⟩ := Option.bind_eq_some_iff.mp wys6; obtain ⟨r5, hr5, wys6⟩ := Option.bind_eq_some_iff.mp wys6; have wys6 := Option.some.inj wys6; subst wys6; exact turn_yes (tg_name rfl) eb_yes (ev_tup (ea_consP (ev_opP (l := .l2) (ev_lv (l := .l1) rfl (ev_opP (l := .l1) (ev_dgetTt (f := (fun (z41 : (Int × (Option Int))) => (D.tup [(D.int z41.1), (encO D.int z41.2)]))) (ns := [x2.1, a3]) (v := x3) hx3 (ev_rd (.inr rfl) rfl) (ea_consP (ev_opP (l := .l2) (ev_opP (l := .l2) (ev_im rfl) (ev_im rfl) (rv_ixTm (f := (fun (z40 : (Int × Int × (List Int) × Int × Int)) => (D.tup [(D.int z40.1), (D.int z40.2.1), (D.tup (List.map D.int z40.2.2.1)), (D.int z40.2.2.2.1), (D.int z40.2.2.2.2)]))) (xs := a0) (v := x2) hx2)) ev_int (rv_ixTn 0 rfl)) (ea_consP (ev_im rfl) ea_nil)) (show 2 ≤ 1000 from by decide)) ev_int (rv_ixTn 0 rfl))) (ev_callK (l := .l2) (ds := [(D.tup [(D.int x4.1), (D.int x4.2.1), (D.tup (List.map D.int x4.2.2.1)), (D.int x4.2.2.2.1), (D.int x4.2.2.2.2)])]) (R := R_longest_way) (ek_A (ev_opP (l := .l2) (ev_im rfl) (ev_im rfl) (rv_ixTm (f := (fun (z42 : (Int × Int × (List Int) × Int × Int)) => (D.tup [(D.int z42.1), (D.int z42.2.1), (D.tup (List.map D.int z42.2.2.1)), (D.int z42.2.2.2.1), (D.int z42.2.2.2.2)]))) (xs := a0) (v := x4) hx4)) ek_nil) ⟨x4, r5, hr5, rfl, rfl⟩) rv_add) (ea_consP (ev_im rfl) ea_nil)) (show 2 ≤ 1000 from by decide)) rfl rfl rfl (anC (v := 4) rfl anN)))))
/-- early_choices -/
def m_early_choices (a0 : (List (Int × Int × (List Int) × Int × Int))) (a1 : (List Int)) (a2 : (List (List Int × (Int × (Option Int))))) (a3 : Int) : Option (List (Int × Int)) := (compO (fun (x1 : Int) => (atI a0 x1).bind fun x2 => (getA a2 [a3, x2.1]).bind fun x3 => (atI a0 x1).bind fun x4 => (m_shortest_way x4).bind fun r5 => some (some ((x3.1 - r5), x1))) a1).bind fun ys6 => some ys6
def R_early_choices : List D → D → Prop := fun ds r => ∃ (a0 : (List (Int × Int × (List Int) × Int × Int))) (a1 : (List Int)) (a2 : (List (List Int × (Int × (Option Int))))) (a3 : Int) (v : (List (Int × Int))), m_early_choices a0 a1 a2 a3 = some v ∧ ds = [(D.tup (List.map (fun (z53 : (Int × Int × (List Int) × Int × Int)) => (D.tup [(D.int z53.1), (D.int z53.2.1), (D.tup (List.map D.int z53.2.2.1)), (D.int z53.2.2.2.1), (D.int z53.2.2.2.2)])) a0)), (D.lst (List.map D.int a1)), (dtL (List.map (fun (z : List Int × (Int × (Option Int))) => ((z.1.map Sum.inl : List Key), (D.tup [(D.int z.2.1), (encO D.int z.2.2)]))) a2)), (D.int a3)] ∧ r = (D.lst (List.map (fun (z54 : (Int × Int)) => (D.tup [(D.int z54.1), (D.int z54.2)])) v))
def nm_early_choices : List Str := ["calls", "indexes", "table", "other", "index"]
theorem sc_early_choices : FnScope ["calls", "indexes", "table", "other", "index"] ["calls", "indexes", "table", "other"] (defScope (top 22)) := ⟨rfl, rfl, rfl, by decide +kernel, rfl, by decide +kernel, by decide +kernel⟩
theorem ok_early_choices (T : Tx K mg) : FnOk P w K mg base CX0 2 T.a_early_choices T.d_early_choices ["calls", "indexes", "table", "other"] (SpP K [true, true, false, true] R_early_choices) := by
  refine T.F_early_choices.ok sc_early_choices (SpP.len rfl) (fun cdv A outer s H vs Q E hr h => ⟨_, PSs.nox (pss_one (ps_ret (pe_lc (own := [("index", 4)]) rfl sc_early_choices.nd (piListK (K := K) (by rfl) (pv 1)) (blkOk_by (own := [("index", 4)]) (N := nm_early_choices) (sc := defScope (top 22)) (by decide +kernel)) (fun _ _ _ _ _ => (pg_name (i := 4) sc_early_choices.nd rfl (Or.inl rfl))) (fun _ _ _ _ _ => pts_nil) (fun _ _ _ _ _ => (pe_tup (pa_cons (pe_op op_sub (pe_ix (ixTK (K := K) (by rfl)) (pe_dget (hu_of hr) (pv 2) (pe_tup (pa_cons (pv 3) (pa_cons (pe_ix (ixTK (K := K) (by rfl)) (pe_ix (ixTK (K := K) (by rfl)) (pv 0) (pv 4) (fun _ _ => rfl)) pe_int (fun _ _ => rfl)) pa_nil))) (fun _ _ => rfl)) pe_int (fun _ _ => rfl)) (pe_call (ok_shortest_way T) (hr.mono (by decide)) rfl T.g_shortest_way T.F_shortest_way.kp (T.F_shortest_way.bindsN fun _ _ _ _ _ _ us hl => match us, hl with | [_], _ => rfl) .nil pass0 (pa_cons (pe_ix (ixTK (K := K) (by rfl)) (pv 0) (pv 4) (fun _ _ => rfl)) pa_nil))) (pa_cons (pv 4) pa_nil))))))), ?_⟩)
  refine run_P (n := 1) rfl h fun ds r hR => ?_
  obtain ⟨a0, a1, a2, a3, v, h, rfl, rfl⟩ := hR
  unfold m_early_choices at h
  refine sd_env (env2 := ([.im (D.tup (List.map (fun (z55 : (Int × Int × (List Int) × Int × Int)) => (D.tup [(D.int z55.1), (D.int z55.2.1), (D.tup (List.map D.int z55.2.2.1)), (D.int z55.2.2.2.1), (D.int z55.2.2.2.2)])) a0)), .im (D.lst (List.map D.int a1)), .rd (dtL (List.map (fun (z : List Int × (Int × (Option Int))) => ((z.1.map Sum.inl : List Key), (D.tup [(D.int z.2.1), (encO D.int z.2.2)]))) a2)), .im (D.int a3), .an] : List Bd)) rfl ?_
  obtain ⟨ys6, hys6, h⟩ := Option.bind_eq_some_iff.mp h
  have h := Option.some.inj h; subst h
  exact (sd_ret (d := (D.lst (List.map (fun (z52 : (Int × Int)) => (D.tup [(D.int z52.1), (D.int z52.2)])) ys6))) (ef_ev (ef_lcO (l := .l2) (en := D.int) (eb := (fun (z51 : (Int × Int)) => (D.tup [(D.int z51.1), (D.int z51.2)]))) hys6 rfl (ei_list rfl (ev_im rfl)) (tw_name (i := 4) (vs := [4]) (by decide)) (anC (v := 4) rfl anN) (fun x1 rr wys6 => by obtain ⟨x2, hx2, wys6⟩ := Option.bind_eq_some_iff.mp wys6; obtain ⟨x3, hx3, wys6⟩ := Option.bind_eq_some_iff.mp wys6; obtain ⟨x4, hx4, wys6⟩ := Option.bind_eq_some_iff.mp wys6; obtain ⟨r5, hr5, wys6⟩ := Option.bind_eq_some_iff.mp wys6; have wys6 := Option.some.inj wys6; subst wys6; exact turn_yes (tg_name rfl) eb_yes (ev_tup (ea_consP (ev_opP (l := .l2) (ev_lv (l := .l1) rfl (ev_opP (l := .l1) (ev_dgetTt (f := (fun (z49 : (Int × (Option Int))) => (D.tup [(D.int z49.1), (encO D.int z49.2)]))) (ns := [a3, x2.1]) (v := x3) hx3 (ev_rd (.inr rfl) rfl) (ea_consP (ev_im rfl) (ea_consP (ev_opP (l := .l2) (ev_opP (l := .l2) (ev_im rfl) (ev_im rfl) (rv_ixTm (f := (fun (z48 : (Int × Int × (List Int) × Int × Int)) => (D.tup [(D.int z48.1), (D.int z48.2.1), (D.tup (List.map D.int z48.2.2.1)), (D.int z48.2.2.2.1), (D.int z48.2.2.2.2)]))) (xs := a0) (v := x2) hx2)) ev_int (rv_ixTn 0 rfl)) ea_nil)) (show 2 ≤ 1000 from by decide)) ev_int (rv_ixTn 0 rfl))) (ev_callK (l := .l2) (ds := [(D.tup [(D.int x4.1), (D.int x4.2.1), (D.tup (List.map D.int x4.2.2.1)), (D.int x4.2.2.2.1), (D.int x4.2.2.2.2)])]) (R := R_shortest_way) (ek_A (ev_opP (l := .l2) (ev_im rfl) (ev_im rfl) (rv_ixTm (f := (fun (z50 : (Int × Int × (List Int) × Int × Int)) => (D.tup [(D.int z50.1), (D.int z50.2.1), (D.tup (List.map D.int z50.2.2.1)), (D.int z50.2.2.2.1), (D.int z50.2.2.2.2)]))) (xs := a0) (v := x4) hx4)) ek_nil) ⟨x4, r5, hr5, rfl, rfl⟩) rv_sub) (ea_consP (ev_im rfl) ea_nil)) (show 2 ≤ 1000 from by decide)) rfl rfl rfl (anC (v := 4) rfl anN)))))
/-- greatest_differences -/
def m_greatest_differences (a0 : (Int × (List (Int × Int × (List Int) × Int × Int)))) : Option (List (List Int × (Int × (Option Int)))) := (m_reachable_services a0).bind fun r1 => (List.foldlM (fun (s3 : ((List (List Int × (Int × (Option Int)))))) (x2 : Int) => (m_calls_to a0.2 r1 x2).bind fun r5 => (List.foldlM (fun (s7 : ((List (List Int × (Int × (Option Int)))))) (x6 : Int) => if (decide (x6 < x2)) = true then ((m_late_choices a0.2 r5 s7 x6).bind fun r9 => (maxO (fun (k10 : (Int × Int)) => [k10.1, k10.2]) r9).bind fun x11 => (okL (List.length s7)).bind fun x12 => (m_early_choices a0.2 r5 (putA s7 [x2, x6] (x11.1, (some x11.2))) x6).bind fun r13 => (maxO (fun (k14 : (Int × Int)) => [k14.1, k14.2]) r13).bind fun x15 => (okL (List.length (putA s7 [x2, x6] (x11.1, (some x11.2))))).bind fun x16 => some (putA (putA s7 [x2, x6] (x11.1, (some x11.2))) [x6, x2] (x15.1, (some x15.2)))) else (some s7)) s3 r1).bind fun y17 => (okL (List.length y17)).bind fun x18 => some (putA y17 [x2, x2] ((0 : Int), (none : (Option Int))))) ([] : List (List Int × (Int × (Option Int)))) r1).bind fun y19 => some y19
def R_greatest_differences : List D → D → Prop := fun ds r => ∃ (a0 : (Int × (List (Int × Int × (List Int) × Int × Int)))) (v : (List (List Int × (Int × (Option Int))))), m_greatest_differences a0 = some v ∧ ds = [(D.tup [(D.int a0.1), (D.tup (List.map (fun (z85 : (Int × Int × (List Int) × Int × Int)) => (D.tup [(D.int z85.1), (D.int z85.2.1), (D.tup (List.map D.int z85.2.2.1)), (D.int z85.2.2.2.1), (D.int z85.2.2.2.2)])) a0.2))])] ∧ r = (dtL (List.map (fun (z : List Int × (Int × (Option Int))) => ((z.1.map Sum.inl : List Key), (D.tup [(D.int z.2.1), (encO D.int z.2.2)]))) v))
def nm_greatest_differences : List Str := ["system", "reached", "calls", "table", "service", "indexes", "other"]
theorem sc_greatest_differences : FnScope ["system", "reached", "calls", "table", "service", "indexes", "other"] ["system"] (defScope (top 23)) := ⟨rfl, rfl, rfl, by decide +kernel, rfl, by decide +kernel, by decide +kernel⟩
theorem ok_greatest_differences (T : Tx K mg) : FnOk P w K mg base CX0 7 T.a_greatest_differences T.d_greatest_differences ["system"] (SpP K [true] R_greatest_differences) := by
  refine T.F_greatest_differences.ok sc_greatest_differences (SpP.len rfl) (fun cdv A outer s H vs Q E hr h => ⟨_, PSs.nox (pss_cons (ps_set (i := 1) sc_greatest_differences.nd rfl (Or.inl rfl) (pe_call (ok_reachable_services T) (hr.mono (by decide)) rfl T.g_reachable_services T.F_reachable_services.kp (T.F_reachable_services.bindsN fun _ _ _ _ _ _ us hl => match us, hl with | [_], _ => rfl) .nil pass0 (pa_cons (pv 0) pa_nil))) (pss_cons (ps_set (i := 2) sc_greatest_differences.nd rfl (Or.inl rfl) (pe_ix (ixTK (K := K) (by rfl)) (pv 0) pe_int (fun _ _ => rfl))) (pss_cons (ps_set (i := 3) sc_greatest_differences.nd rfl (Or.inl rfl) pe_dnewT) (pss_cons (ps_for PassesOwn.never rfl (piListK (K := K) (by rfl) (pv 1)) (pg_name (i := 4) sc_greatest_differences.nd rfl (Or.inl rfl)) (pss_cons (ps_set (i := 5) sc_greatest_differences.nd rfl (Or.inl rfl) (pe_call (ok_calls_to T) (hr.mono (by decide)) rfl T.g_calls_to T.F_calls_to.kp (T.F_calls_to.bindsN fun _ _ _ _ _ _ us hl => match us, hl with | [_, _, _], _ => rfl) .nil pass0 (pa_cons (pv 2) (pa_cons (pv 1) (pa_cons (pv 4) pa_nil))))) (pss_cons (ps_for PassesOwn.never rfl (piListK (K := K) (by rfl) (pv 1)) (pg_name (i := 6) sc_greatest_differences.nd rfl (Or.inl rfl)) (pss_one (ps_if (pt_cmpR op_lt (pv 6) (pv 4) (nomark _)) (pss_cons (ps_dput (hu_of hr) (pv 3) (pe_tup (pa_cons (pv 4) (pa_cons (pv 6) pa_nil))) (pe_callB (maxDK (K := K) (by rfl) rfl (hu64 hr)) rfl T.b_max (by decide +kernel) (pa_cons (pe_call (ok_late_choices T) (hr.mono (by decide)) rfl T.g_late_choices T.F_late_choices.kp (T.F_late_choices.bindsN fun _ _ _ _ _ _ us hl => match us, hl with | [_, _, _, _], _ => rfl) .nil pass0 (pa_cons (pv 2) (pa_cons (pv 5) (pa_cons (pv 3) (pa_cons (pv 6) pa_nil))))) pa_nil)) rfl) (pss_one (ps_dput (hu_of hr) (pv 3) (pe_tup (pa_cons (pv 6) (pa_cons (pv 4) pa_nil))) (pe_callB (maxDK (K := K) (by rfl) rfl (hu64 hr)) rfl T.b_max (by decide +kernel) (pa_cons (pe_call (ok_early_choices T) (hr.mono (by decide)) rfl T.g_early_choices T.F_early_choices.kp (T.F_early_choices.bindsN fun _ _ _ _ _ _ us hl => match us, hl with | [_, _, _, _], _ => rfl) .nil pass0 (pa_cons (pv 2) (pa_cons (pv 5) (pa_cons (pv 3) (pa_cons (pv 6) pa_nil))))) pa_nil)) rfl))) pss_nil))) (pss_one (ps_dput (hu_of hr) (pv 3) (pe_tup (pa_cons (pv 4) (pa_cons (pv 4) pa_nil))) (pe_tup (pa_cons pe_int (pa_cons pe_non pa_nil))) rfl))))) (pss_one (ps_ret (pv 3))))))), ?_⟩)
  refine run_P (n := 6) rfl h fun ds r hR => ?_
  obtain ⟨a0, v, h, rfl, rfl⟩ := hR
  unfold m_greatest_differences at h
  refine sd_env (env2 := ([.im (D.tup [(D.int a0.1), (D.tup (List.map (fun (z86 : (Int × Int × (List Int) × Int × Int)) => (D.tup [(D.int z86.1), (D.int z86.2.1), (D.tup (List.map D.int z86.2.2.1)), (D.int z86.2.2.2.1), (D.int z86.2.2.2.2)])) a0.2))]), .an, .an, .an, .an, .an, .an] : List Bd)) rfl ?_
  obtain ⟨r1, hr1, h⟩ := Option.bind_eq_some_iff.mp h
  refine sd_seq (sd_asg (d := (D.lst (List.map D.int r1))) rfl (ev_callK (l := .l2) (ds := [(D.tup [(D.int a0.1), (D.tup (List.map (fun (z56 : (Int × Int × (List Int) × Int × Int)) => (D.tup [(D.int z56.1), (D.int z56.2.1), (D.tup (List.map D.int z56.2.2.1)), (D.int z56.2.2.2.1), (D.int z56.2.2.2.2)])) a0.2))])]) (R := R_reachable_services) (ek_A (ev_im rfl) ek_nil) ⟨a0, r1, hr1, rfl, rfl⟩)) ?_
  refine sd_env (env2 := ([.im (D.tup [(D.int a0.1), (D.tup (List.map (fun (z57 : (Int × Int × (List Int) × Int × Int)) => (D.tup [(D.int z57.1), (D.int z57.2.1), (D.tup (List.map D.int z57.2.2.1)), (D.int z57.2.2.2.1), (D.int z57.2.2.2.2)])) a0.2))]), .im (D.lst (List.map D.int r1)), .an, .an, .an, .an, .an] : List Bd)) (by kernel_rfl) ?_
  refine sd_seq (sd_asg (d := (D.tup (List.map (fun (z58 : (Int × Int × (List Int) × Int × Int)) => (D.tup [(D.int z58.1), (D.int z58.2.1), (D.tup (List.map D.int z58.2.2.1)), (D.int z58.2.2.2.1), (D.int z58.2.2.2.2)])) a0.2))) rfl (ev_opP (l := .l2) (ev_im rfl) ev_int (rv_ixTn 1 rfl))) ?_
  refine sd_env (env2 := ([.im (D.tup [(D.int a0.1), (D.tup (List.map (fun (z59 : (Int × Int × (List Int) × Int × Int)) => (D.tup [(D.int z59.1), (D.int z59.2.1), (D.tup (List.map D.int z59.2.2.1)), (D.int z59.2.2.2.1), (D.int z59.2.2.2.2)])) a0.2))]), .im (D.lst (List.map D.int r1)), .im (D.tup (List.map (fun (z60 : (Int × Int × (List Int) × Int × Int)) => (D.tup [(D.int z60.1), (D.int z60.2.1), (D.tup (List.map D.int z60.2.2.1)), (D.int z60.2.2.2.1), (D.int z60.2.2.2.2)])) a0.2)), .an, .an, .an, .an] : List Bd)) (by kernel_rfl) ?_
  refine sd_seq (sd_asgF (d := (dtL (List.map (fun (z : List Int × (Int × (Option Int))) => ((z.1.map Sum.inl : List Key), (D.tup [(D.int z.2.1), (encO D.int z.2.2)]))) ([] : List (List Int × (Int × (Option Int))))))) rfl (ef_is (dtL (List.map (fun (z : List Int × (Int × (Option Int))) => ((z.1.map Sum.inl : List Key), (D.tup [(D.int z.2.1), (encO D.int z.2.2)]))) ([] : List (List Int × (Int × (Option Int)))))) ef_dt rfl)) ?_
  refine sd_env (env2 := ([.im (D.tup [(D.int a0.1), (D.tup (List.map (fun (z61 : (Int × Int × (List Int) × Int × Int)) => (D.tup [(D.int z61.1), (D.int z61.2.1), (D.tup (List.map D.int z61.2.2.1)), (D.int z61.2.2.2.1), (D.int z61.2.2.2.2)])) a0.2))]), .im (D.lst (List.map D.int r1)), .im (D.tup (List.map (fun (z62 : (Int × Int × (List Int) × Int × Int)) => (D.tup [(D.int z62.1), (D.int z62.2.1), (D.tup (List.map D.int z62.2.2.1)), (D.int z62.2.2.2.1), (D.int z62.2.2.2.2)])) a0.2)), .ow (dtL (List.map (fun (z : List Int × (Int × (Option Int))) => ((z.1.map Sum.inl : List Key), (D.tup [(D.int z.2.1), (encO D.int z.2.2)]))) ([] : List (List Int × (Int × (Option Int)))))), .an, .an, .an] : List Bd)) (by kernel_rfl) ?_
  obtain ⟨y19, hy19, h⟩ := Option.bind_eq_some_iff.mp h
  refine sd_wp' [4, 5, 6] (by kernel_rfl) (env2 := ([.im (D.tup [(D.int a0.1), (D.tup (List.map (fun (z81 : (Int × Int × (List Int) × Int × Int)) => (D.tup [(D.int z81.1), (D.int z81.2.1), (D.tup (List.map D.int z81.2.2.1)), (D.int z81.2.2.2.1), (D.int z81.2.2.2.2)])) a0.2))]), .im (D.lst (List.map D.int r1)), .im (D.tup (List.map (fun (z82 : (Int × Int × (List Int) × Int × Int)) => (D.tup [(D.int z82.1), (D.int z82.2.1), (D.tup (List.map D.int z82.2.2.1)), (D.int z82.2.2.2.1), (D.int z82.2.2.2.2)])) a0.2)), .ow (dtL (List.map (fun (z : List Int × (Int × (Option Int))) => ((z.1.map Sum.inl : List Key), (D.tup [(D.int z.2.1), (encO D.int z.2.2)]))) ([] : List (List Int × (Int × (Option Int)))))), .an, .an, .an] : List Bd)) (by kernel_rfl) ?_
  refine sd_seq (sd_for (l := .l2) (o := .nx ([.im (D.tup [(D.int a0.1), (D.tup (List.map (fun (z83 : (Int × Int × (List Int) × Int × Int)) => (D.tup [(D.int z83.1), (D.int z83.2.1), (D.tup (List.map D.int z83.2.2.1)), (D.int z83.2.2.2.1), (D.int z83.2.2.2.2)])) a0.2))]), .im (D.lst (List.map D.int r1)), .im (D.tup (List.map (fun (z84 : (Int × Int × (List Int) × Int × Int)) => (D.tup [(D.int z84.1), (D.int z84.2.1), (D.tup (List.map D.int z84.2.2.1)), (D.int z84.2.2.2.1), (D.int z84.2.2.2.2)])) a0.2)), .ow (dtL (List.map (fun (z : List Int × (Int × (Option Int))) => ((z.1.map Sum.inl : List Key), (D.tup [(D.int z.2.1), (encO D.int z.2.2)]))) y19)), .an, .an, .an] : List Bd)) rfl (ei_list rfl (ev_im rfl)) (loop_foldN (en := D.int) (ev := fun (s3 : ((List (List Int × (Int × (Option Int)))))) => ([.im (D.tup [(D.int a0.1), (D.tup (List.map (fun (z79 : (Int × Int × (List Int) × Int × Int)) => (D.tup [(D.int z79.1), (D.int z79.2.1), (D.tup (List.map D.int z79.2.2.1)), (D.int z79.2.2.2.1), (D.int z79.2.2.2.2)])) a0.2))]), .im (D.lst (List.map D.int r1)), .im (D.tup (List.map (fun (z80 : (Int × Int × (List Int) × Int × Int)) => (D.tup [(D.int z80.1), (D.int z80.2.1), (D.tup (List.map D.int z80.2.2.1)), (D.int z80.2.2.2.1), (D.int z80.2.2.2.2)])) a0.2)), .ow (dtL (List.map (fun (z : List Int × (Int × (Option Int))) => ((z.1.map Sum.inl : List Key), (D.tup [(D.int z.2.1), (encO D.int z.2.2)]))) s3)), .an, .an, .an] : List Bd)) (fun x2 s3 z4 h => ?_) _ ([] : List (List Int × (Int × (Option Int)))) y19 hy19)) ?_
  · refine sdt (tg_name rfl) ?_
    obtain ⟨r5, hr5, h⟩ := Option.bind_eq_some_iff.mp h
    refine sd_seq (sd_asg (d := (D.lst (List.map D.int r5))) rfl (ev_callK (l := .l2) (ds := [(D.tup (List.map (fun (z63 : (Int × Int × (List Int) × Int × Int)) => (D.tup [(D.int z63.1), (D.int z63.2.1), (D.tup (List.map D.int z63.2.2.1)), (D.int z63.2.2.2.1), (D.int z63.2.2.2.2)])) a0.2)), (D.lst (List.map D.int r1)), (D.int x2)]) (R := R_calls_to) (ek_A (ev_im rfl) (ek_R (ev_im rfl) (ek_A (ev_im rfl) ek_nil))) ⟨a0.2, r1, x2, r5, hr5, rfl, rfl⟩)) ?_
    refine sd_env (env2 := ([.im (D.tup [(D.int a0.1), (D.tup (List.map (fun (z64 : (Int × Int × (List Int) × Int × Int)) => (D.tup [(D.int z64.1), (D.int z64.2.1), (D.tup (List.map D.int z64.2.2.1)), (D.int z64.2.2.2.1), (D.int z64.2.2.2.2)])) a0.2))]), .im (D.lst (List.map D.int r1)), .im (D.tup (List.map (fun (z65 : (Int × Int × (List Int) × Int × Int)) => (D.tup [(D.int z65.1), (D.int z65.2.1), (D.tup (List.map D.int z65.2.2.1)), (D.int z65.2.2.2.1), (D.int z65.2.2.2.2)])) a0.2)), .ow (dtL (List.map (fun (z : List Int × (Int × (Option Int))) => ((z.1.map Sum.inl : List Key), (D.tup [(D.int z.2.1), (encO D.int z.2.2)]))) s3)), .im (D.int x2), .im (D.lst (List.map D.int r5)), .an] : List Bd)) (by kernel_rfl) ?_
    obtain ⟨y17, hy17, h⟩ := Option.bind_eq_some_iff.mp h
    refine sd_wp' [6] (by kernel_rfl) (env2 := ([.im (D.tup [(D.int a0.1), (D.tup (List.map (fun (z74 : (Int × Int × (List Int) × Int × Int)) => (D.tup [(D.int z74.1), (D.int z74.2.1), (D.tup (List.map D.int z74.2.2.1)), (D.int z74.2.2.2.1), (D.int z74.2.2.2.2)])) a0.2))]), .im (D.lst (List.map D.int r1)), .im (D.tup (List.map (fun (z75 : (Int × Int × (List Int) × Int × Int)) => (D.tup [(D.int z75.1), (D.int z75.2.1), (D.tup (List.map D.int z75.2.2.1)), (D.int z75.2.2.2.1), (D.int z75.2.2.2.2)])) a0.2)), .ow (dtL (List.map (fun (z : List Int × (Int × (Option Int))) => ((z.1.map Sum.inl : List Key), (D.tup [(D.int z.2.1), (encO D.int z.2.2)]))) s3)), .im (D.int x2), .im (D.lst (List.map D.int r5)), .an] : List Bd)) (by kernel_rfl) ?_
    refine sd_seq (sd_for (l := .l2) (o := .nx ([.im (D.tup [(D.int a0.1), (D.tup (List.map (fun (z76 : (Int × Int × (List Int) × Int × Int)) => (D.tup [(D.int z76.1), (D.int z76.2.1), (D.tup (List.map D.int z76.2.2.1)), (D.int z76.2.2.2.1), (D.int z76.2.2.2.2)])) a0.2))]), .im (D.lst (List.map D.int r1)), .im (D.tup (List.map (fun (z77 : (Int × Int × (List Int) × Int × Int)) => (D.tup [(D.int z77.1), (D.int z77.2.1), (D.tup (List.map D.int z77.2.2.1)), (D.int z77.2.2.2.1), (D.int z77.2.2.2.2)])) a0.2)), .ow (dtL (List.map (fun (z : List Int × (Int × (Option Int))) => ((z.1.map Sum.inl : List Key), (D.tup [(D.int z.2.1), (encO D.int z.2.2)]))) y17)), .im (D.int x2), .im (D.lst (List.map D.int r5)), .an] : List Bd)) rfl (ei_list rfl (ev_im rfl)) (loop_foldN (en := D.int) (ev := fun (s7 : ((List (List Int × (Int × (Option Int)))))) => ([.im (D.tup [(D.int a0.1), (D.tup (List.map (fun (z72 : (Int × Int × (List Int) × Int × Int)) => (D.tup [(D.int z72.1), (D.int z72.2.1), (D.tup (List.map D.int z72.2.2.1)), (D.int z72.2.2.2.1), (D.int z72.2.2.2.2)])) a0.2))]), .im (D.lst (List.map D.int r1)), .im (D.tup (List.map (fun (z73 : (Int × Int × (List Int) × Int × Int)) => (D.tup [(D.int z73.1), (D.int z73.2.1), (D.tup (List.map D.int z73.2.2.1)), (D.int z73.2.2.2.1), (D.int z73.2.2.2.2)])) a0.2)), .ow (dtL (List.map (fun (z : List Int × (Int × (Option Int))) => ((z.1.map Sum.inl : List Key), (D.tup [(D.int z.2.1), (encO D.int z.2.2)]))) s7)), .im (D.int x2), .im (D.lst (List.map D.int r5)), .an] : List Bd)) (fun x6 s7 z8 h => ?_) _ s3 y17 hy17)) ?_
    · refine sdt (tg_name rfl) ?_
      refine sd_if (eb_test (l := .l2) (ev_opP (l := .l2) (ev_im rfl) (ev_im rfl) rv_lt)) (fun hb => ?_) (fun hb => ?_)
      · replace h := ifT hb h
        obtain ⟨r9, hr9, h⟩ := Option.bind_eq_some_iff.mp h
        obtain ⟨x11, hx11, h⟩ := Option.bind_eq_some_iff.mp h
        obtain ⟨x12, hx12, h⟩ := Option.bind_eq_some_iff.mp h
        refine sd_seq (sd_dputTt (f := (fun (z67 : (Int × (Option Int))) => (D.tup [(D.int z67.1), (encO D.int z67.2)]))) (l1 := s7) (v := (x11.1, (some x11.2))) (ns := [x2, x6]) rfl (ev_is (ev_cb (l := .l2) (ea_consP (ev_callK (l := .l2) (ds := [(D.tup (List.map (fun (z66 : (Int × Int × (List Int) × Int × Int)) => (D.tup [(D.int z66.1), (D.int z66.2.1), (D.tup (List.map D.int z66.2.2.1)), (D.int z66.2.2.2.1), (D.int z66.2.2.2.2)])) a0.2)), (D.lst (List.map D.int r5)), (dtL (List.map (fun (z : List Int × (Int × (Option Int))) => ((z.1.map Sum.inl : List Key), (D.tup [(D.int z.2.1), (encO D.int z.2.2)]))) s7)), (D.int x6)]) (R := R_late_choices) (ek_A (ev_im rfl) (ek_A (ev_im rfl) (ek_R (ev_ow (.inl rfl) rfl) (ek_A (ev_im rfl) ek_nil)))) ⟨a0.2, r5, s7, x6, r9, hr9, rfl, rfl⟩) ea_nil) (rc_maxT (key := (fun (k10 : (Int × Int)) => [k10.1, k10.2])) hx11)) (show _ = (D.tup [(D.int x11.1), (encO D.int (some x11.2))]) from rfl)) (ea_consP (ev_im rfl) (ea_consP (ev_im rfl) ea_nil)) (show 2 ≤ 1000 from by decide) (okL_of hx12)) ?_
        refine sd_env (env2 := ([.im (D.tup [(D.int a0.1), (D.tup (List.map (fun (z68 : (Int × Int × (List Int) × Int × Int)) => (D.tup [(D.int z68.1), (D.int z68.2.1), (D.tup (List.map D.int z68.2.2.1)), (D.int z68.2.2.2.1), (D.int z68.2.2.2.2)])) a0.2))]), .im (D.lst (List.map D.int r1)), .im (D.tup (List.map (fun (z69 : (Int × Int × (List Int) × Int × Int)) => (D.tup [(D.int z69.1), (D.int z69.2.1), (D.tup (List.map D.int z69.2.2.1)), (D.int z69.2.2.2.1), (D.int z69.2.2.2.2)])) a0.2)), .ow (dtL (List.map (fun (z : List Int × (Int × (Option Int))) => ((z.1.map Sum.inl : List Key), (D.tup [(D.int z.2.1), (encO D.int z.2.2)]))) (putA s7 [x2, x6] (x11.1, (some x11.2))))), .im (D.int x2), .im (D.lst (List.map D.int r5)), .im (D.int x6)] : List Bd)) (by kernel_rfl) ?_
        obtain ⟨r13, hr13, h⟩ := Option.bind_eq_some_iff.mp h
        obtain ⟨x15, hx15, h⟩ := Option.bind_eq_some_iff.mp h
        obtain ⟨x16, hx16, h⟩ := Option.bind_eq_some_iff.mp h
        have h := Option.some.inj h; subst h
        exact sd_endW [6] (sd_dputTt (f := (fun (z71 : (Int × (Option Int))) => (D.tup [(D.int z71.1), (encO D.int z71.2)]))) (l1 := (putA s7 [x2, x6] (x11.1, (some x11.2)))) (v := (x15.1, (some x15.2))) (ns := [x6, x2]) rfl (ev_is (ev_cb (l := .l2) (ea_consP (ev_callK (l := .l2) (ds := [(D.tup (List.map (fun (z70 : (Int × Int × (List Int) × Int × Int)) => (D.tup [(D.int z70.1), (D.int z70.2.1), (D.tup (List.map D.int z70.2.2.1)), (D.int z70.2.2.2.1), (D.int z70.2.2.2.2)])) a0.2)), (D.lst (List.map D.int r5)), (dtL (List.map (fun (z : List Int × (Int × (Option Int))) => ((z.1.map Sum.inl : List Key), (D.tup [(D.int z.2.1), (encO D.int z.2.2)]))) (putA s7 [x2, x6] (x11.1, (some x11.2))))), (D.int x6)]) (R := R_early_choices) (ek_A (ev_im rfl) (ek_A (ev_im rfl) (ek_R (ev_ow (.inl rfl) rfl) (ek_A (ev_im rfl) ek_nil)))) ⟨a0.2, r5, (putA s7 [x2, x6] (x11.1, (some x11.2))), x6, r13, hr13, rfl, rfl⟩) ea_nil) (rc_maxT (key := (fun (k14 : (Int × Int)) => [k14.1, k14.2])) hx15)) (show _ = (D.tup [(D.int x15.1), (encO D.int (some x15.2))]) from rfl)) (ea_consP (ev_im rfl) (ea_consP (ev_im rfl) ea_nil)) (show 2 ≤ 1000 from by decide) (okL_of hx16)) (by kernel_rfl) (by kernel_rfl)
      · replace h := ifF hb h
        have h := Option.some.inj h; subst h
        exact sd_nextW [6] (by kernel_rfl) (by kernel_rfl)
    obtain ⟨x18, hx18, h⟩ := Option.bind_eq_some_iff.mp h
    have h := Option.some.inj h; subst h
    exact sd_endW [4, 5, 6] (sd_dputTt (f := (fun (z78 : (Int × (Option Int))) => (D.tup [(D.int z78.1), (encO D.int z78.2)]))) (l1 := y17) (v := ((0 : Int), (none : (Option Int)))) (ns := [x2, x2]) rfl (ev_is (ev_tup (ea_consP ev_int (ea_consP ev_non ea_nil)) (show 2 ≤ 1000 from by decide)) (show _ = (D.tup [(D.int (0 : Int)), (encO D.int (none : (Option Int)))]) from rfl)) (ea_consP (ev_im rfl) (ea_consP (ev_im rfl) ea_nil)) (show 2 ≤ 1000 from by decide) (okL_of hx18)) (by kernel_rfl) (by kernel_rfl)
  have h := Option.some.inj h; subst h
  exact (sd_ret (d := (dtL (List.map (fun (z : List Int × (Int × (Option Int))) => ((z.1.map Sum.inl : List Key), (D.tup [(D.int z.2.1), (encO D.int z.2.2)]))) y19))) (ev_ow (.inr rfl) rfl))
/-- separate_entries -/
def m_separate_entries (a0 : (List (Int × Int × (List Int) × Int × Int))) (a1 : (List (List Int × (Int × (Option Int))))) (a2 : Int) (a3 : Int) : Option ((List (Int × Int × Int × Int × Int)) × Int) := (whileC (fun (s1 : ((List (Int × Int × Int × Int × Int)) × Int × Int)) => some (!decide (s1.2.1 = s1.2.2))) (fun (s1 : ((List (Int × Int × Int × Int × Int)) × Int × Int)) => (getA a1 [s1.2.1, s1.2.2]).bind fun x3 => (x3.2).bind fun x4 => (atI a0 x4).bind fun x5 => if (decide (x5.2.1 = s1.2.1)) = true then ((okL (List.length s1.1)).bind fun x6 => some ((s1.1 ++ [((0 : Int), (0 : Int), x4, ((List.length x5.2.2.1 : Int) - (1 : Int)), x5.2.2.2.2)]), x5.1, s1.2.2)) else ((okL (List.length s1.1)).bind fun x7 => some ((s1.1 ++ [((0 : Int), (0 : Int), x4, (0 : Int), x5.2.2.2.1)]), s1.2.1, x5.1))) 1000 (([] : List (Int × Int × Int × Int × Int)), a2, a3)).bind fun y8 => some (y8.1, y8.2.1)
def R_separate_entries : List D → D → Prop := fun ds r => ∃ (a0 : (List (Int × Int × (List Int) × Int × Int))) (a1 : (List (List Int × (Int × (Option Int))))) (a2 : Int) (a3 : Int) (v : ((List (Int × Int × Int × Int × Int)) × Int)), m_separate_entries a0 a1 a2 a3 = some v ∧ ds = [(D.tup (List.map (fun (z110 : (Int × Int × (List Int) × Int × Int)) => (D.tup [(D.int z110.1), (D.int z110.2.1), (D.tup (List.map D.int z110.2.2.1)), (D.int z110.2.2.2.1), (D.int z110.2.2.2.2)])) a0)), (dtL (List.map (fun (z : List Int × (Int × (Option Int))) => ((z.1.map Sum.inl : List Key), (D.tup [(D.int z.2.1), (encO D.int z.2.2)]))) a1)), (D.int a2), (D.int a3)] ∧ r = (D.tup [(D.lst (List.map (fun (z111 : (Int × Int × Int × Int × Int)) => (D.tup [(D.int z111.1), (D.int z111.2.1), (D.int z111.2.2.1), (D.int z111.2.2.2.1), (D.int z111.2.2.2.2)])) v.1)), (D.int v.2)])
def nm_separate_entries : List Str := ["calls", "table", "service", "other", "entries", "index", "caller", "target", "offsets", "least", "most"]
theorem sc_separate_entries : FnScope ["calls", "table", "service", "other", "entries", "index", "caller", "target", "offsets", "least", "most"] ["calls", "table", "service", "other"] (defScope (top 24)) := ⟨rfl, rfl, rfl, by decide +kernel, rfl, by decide +kernel, by decide +kernel⟩
theorem ok_separate_entries (T : Tx K mg) : FnOk P w K mg base CX0 1 T.a_separate_entries T.d_separate_entries ["calls", "table", "service", "other"] (SpP K [true, true, true, true] R_separate_entries) := by
  refine T.F_separate_entries.ok sc_separate_entries (SpP.len rfl) (fun cdv A outer s H vs Q E hr h => ⟨_, PSs.nox (pss_cons (ps_set (i := 4) sc_separate_entries.nd rfl (Or.inl rfl) (pe_lst pa_nil)) (pss_cons (ps_while PassesOwn.never (pt_cmpR op_ne (pv 2) (pv 3) (nomark _)) (pss_cons (ps_set (i := 5) sc_separate_entries.nd rfl (Or.inl rfl) (pe_ix (ixTK (K := K) (by rfl)) (pe_dget (hu_of hr) (pv 1) (pe_tup (pa_cons (pv 2) (pa_cons (pv 3) pa_nil))) (fun _ _ => rfl)) pe_int (fun _ _ => rfl))) (pss_cons (ps_asg (pe_ix (ixTK (K := K) (by rfl)) (pv 0) (pv 5) (fun _ _ => rfl)) (pgTupK (K := K) (n := 5) (by rfl) rfl (pgs_cons (pg_name (i := 6) sc_separate_entries.nd rfl (Or.inl rfl)) (pgs_cons (pg_name (i := 7) sc_separate_entries.nd rfl (Or.inl rfl)) (pgs_cons (pg_name (i := 8) sc_separate_entries.nd rfl (Or.inl rfl)) (pgs_cons (pg_name (i := 9) sc_separate_entries.nd rfl (Or.inl rfl)) (pgs_cons (pg_name (i := 10) sc_separate_entries.nd rfl (Or.inl rfl)) pgs_nil))))) (by rfl) (by rfl))) (pss_one (ps_if (pt_cmpR op_eq (pv 7) (pv 2) (nomark _)) (pss_cons (ps_expr (pe_bm PySem.F.plainAttrs_list PySem.F.slot_list_append PySem.F.type_list_append mt_append (pv 4) (pa_cons (pe_tup (pa_cons pe_int (pa_cons pe_int (pa_cons (pv 5) (pa_cons (pe_op op_sub (pe_callB (lenK (K := K) (by rfl)) rfl T.b_len (by decide +kernel) (pa_cons (pv 8) pa_nil)) pe_int) (pa_cons (pv 10) pa_nil)))))) pa_nil))) (pss_one (ps_set (i := 2) sc_separate_entries.nd rfl (Or.inl rfl) (pv 6)))) (pss_cons (ps_expr (pe_bm PySem.F.plainAttrs_list PySem.F.slot_list_append PySem.F.type_list_append mt_append (pv 4) (pa_cons (pe_tup (pa_cons pe_int (pa_cons pe_int (pa_cons (pv 5) (pa_cons pe_int (pa_cons (pv 9) pa_nil)))))) pa_nil))) (pss_one (ps_set (i := 3) sc_separate_entries.nd rfl (Or.inl rfl) (pv 6))))))))) (pss_one (ps_ret (pe_tup (pa_cons (pv 4) (pa_cons (pv 2) pa_nil))))))), ?_⟩)
  refine run_P (n := 7) rfl h fun ds r hR => ?_
  obtain ⟨a0, a1, a2, a3, v, h, rfl, rfl⟩ := hR
  unfold m_separate_entries at h
  refine sd_env (env2 := ([.im (D.tup (List.map (fun (z112 : (Int × Int × (List Int) × Int × Int)) => (D.tup [(D.int z112.1), (D.int z112.2.1), (D.tup (List.map D.int z112.2.2.1)), (D.int z112.2.2.2.1), (D.int z112.2.2.2.2)])) a0)), .im (dtL (List.map (fun (z : List Int × (Int × (Option Int))) => ((z.1.map Sum.inl : List Key), (D.tup [(D.int z.2.1), (encO D.int z.2.2)]))) a1)), .im (D.int a2), .im (D.int a3), .an, .an, .an, .an, .an, .an, .an] : List Bd)) rfl ?_
  refine sd_seq (sd_asgF (d := (D.lst (List.map (fun (z87 : (Int × Int × Int × Int × Int)) => (D.tup [(D.int z87.1), (D.int z87.2.1), (D.int z87.2.2.1), (D.int z87.2.2.2.1), (D.int z87.2.2.2.2)])) ([] : List (Int × Int × Int × Int × Int))))) rfl (ef_is (D.lst (List.map (fun (z88 : (Int × Int × Int × Int × Int)) => (D.tup [(D.int z88.1), (D.int z88.2.1), (D.int z88.2.2.1), (D.int z88.2.2.2.1), (D.int z88.2.2.2.2)])) ([] : List (Int × Int × Int × Int × Int)))) (ef_lst ea_nil (show 0 ≤ 1000 from by decide)) rfl)) ?_
  refine sd_env (env2 := ([.im (D.tup (List.map (fun (z89 : (Int × Int × (List Int) × Int × Int)) => (D.tup [(D.int z89.1), (D.int z89.2.1), (D.tup (List.map D.int z89.2.2.1)), (D.int z89.2.2.2.1), (D.int z89.2.2.2.2)])) a0)), .im (dtL (List.map (fun (z : List Int × (Int × (Option Int))) => ((z.1.map Sum.inl : List Key), (D.tup [(D.int z.2.1), (encO D.int z.2.2)]))) a1)), .im (D.int a2), .im (D.int a3), .ow (D.lst (List.map (fun (z90 : (Int × Int × Int × Int × Int)) => (D.tup [(D.int z90.1), (D.int z90.2.1), (D.int z90.2.2.1), (D.int z90.2.2.2.1), (D.int z90.2.2.2.2)])) ([] : List (Int × Int × Int × Int × Int)))), .an, .an, .an, .an, .an, .an] : List Bd)) (by kernel_rfl) ?_
  obtain ⟨y8, hy8, h⟩ := Option.bind_eq_some_iff.mp h
  refine sd_wp' [5, 6, 7, 8, 9, 10] (by kernel_rfl) (env2 := ([.im (D.tup (List.map (fun (z105 : (Int × Int × (List Int) × Int × Int)) => (D.tup [(D.int z105.1), (D.int z105.2.1), (D.tup (List.map D.int z105.2.2.1)), (D.int z105.2.2.2.1), (D.int z105.2.2.2.2)])) a0)), .im (dtL (List.map (fun (z : List Int × (Int × (Option Int))) => ((z.1.map Sum.inl : List Key), (D.tup [(D.int z.2.1), (encO D.int z.2.2)]))) a1)), .im (D.int a2), .im (D.int a3), .ow (D.lst (List.map (fun (z106 : (Int × Int × Int × Int × Int)) => (D.tup [(D.int z106.1), (D.int z106.2.1), (D.int z106.2.2.1), (D.int z106.2.2.2.1), (D.int z106.2.2.2.2)])) ([] : List (Int × Int × Int × Int × Int)))), .an, .an, .an, .an, .an, .an] : List Bd)) (by kernel_rfl) ?_
  refine sd_seq (sd_while (p := true) (o := .nx ([.im (D.tup (List.map (fun (z107 : (Int × Int × (List Int) × Int × Int)) => (D.tup [(D.int z107.1), (D.int z107.2.1), (D.tup (List.map D.int z107.2.2.1)), (D.int z107.2.2.2.1), (D.int z107.2.2.2.2)])) a0)), .im (dtL (List.map (fun (z : List Int × (Int × (Option Int))) => ((z.1.map Sum.inl : List Key), (D.tup [(D.int z.2.1), (encO D.int z.2.2)]))) a1)), .im (D.int y8.2.1), .im (D.int y8.2.2), .ow (D.lst (List.map (fun (z108 : (Int × Int × Int × Int × Int)) => (D.tup [(D.int z108.1), (D.int z108.2.1), (D.int z108.2.2.1), (D.int z108.2.2.2.1), (D.int z108.2.2.2.2)])) y8.1)), .an, .an, .an, .an, .an, .an] : List Bd)) (wloopC (C := EvB K true _) (ev := fun (s1 : ((List (Int × Int × Int × Int × Int)) × Int × Int)) => ([.im (D.tup (List.map (fun (z103 : (Int × Int × (List Int) × Int × Int)) => (D.tup [(D.int z103.1), (D.int z103.2.1), (D.tup (List.map D.int z103.2.2.1)), (D.int z103.2.2.2.1), (D.int z103.2.2.2.2)])) a0)), .im (dtL (List.map (fun (z : List Int × (Int × (Option Int))) => ((z.1.map Sum.inl : List Key), (D.tup [(D.int z.2.1), (encO D.int z.2.2)]))) a1)), .im (D.int s1.2.1), .im (D.int s1.2.2), .ow (D.lst (List.map (fun (z104 : (Int × Int × Int × Int × Int)) => (D.tup [(D.int z104.1), (D.int z104.2.1), (D.int z104.2.2.1), (D.int z104.2.2.2.1), (D.int z104.2.2.2.2)])) s1.1)), .an, .an, .an, .an, .an, .an] : List Bd)) (fun s1 bb h => ?_) (fun s1 z2 hb h => ?_) _ (([] : List (Int × Int × Int × Int × Int)), a2, a3) y8 hy8)) ?_
  · skip
    have h := Option.some.inj h; subst h
    exact (eb_test (l := .l2) (ev_opP (l := .l2) (ev_im rfl) (ev_im rfl) rv_neI))
  · skip
    obtain ⟨x3, hx3, h⟩ := Option.bind_eq_some_iff.mp h
    obtain ⟨x4, hx4, h⟩ := Option.bind_eq_some_iff.mp h
    refine sd_seq (sd_asg (d := (D.int x4)) rfl (ev_some (f := D.int) hx4 (ev_opP (l := .l2) (ev_dgetTt (f := (fun (z91 : (Int × (Option Int))) => (D.tup [(D.int z91.1), (encO D.int z91.2)]))) (ns := [s1.2.1, s1.2.2]) (v := x3) hx3 (ev_im rfl) (ea_consP (ev_im rfl) (ea_consP (ev_im rfl) ea_nil)) (show 2 ≤ 1000 from by decide)) ev_int (rv_ixTn 1 rfl)))) ?_
    refine sd_env (env2 := ([.im (D.tup (List.map (fun (z92 : (Int × Int × (List Int) × Int × Int)) => (D.tup [(D.int z92.1), (D.int z92.2.1), (D.tup (List.map D.int z92.2.2.1)), (D.int z92.2.2.2.1), (D.int z92.2.2.2.2)])) a0)), .im (dtL (List.map (fun (z : List Int × (Int × (Option Int))) => ((z.1.map Sum.inl : List Key), (D.tup [(D.int z.2.1), (encO D.int z.2.2)]))) a1)), .im (D.int s1.2.1), .im (D.int s1.2.2), .ow (D.lst (List.map (fun (z93 : (Int × Int × Int × Int × Int)) => (D.tup [(D.int z93.1), (D.int z93.2.1), (D.int z93.2.2.1), (D.int z93.2.2.2.1), (D.int z93.2.2.2.2)])) s1.1)), .im (D.int x4), .an, .an, .an, .an, .an] : List Bd)) (by kernel_rfl) ?_
    obtain ⟨x5, hx5, h⟩ := Option.bind_eq_some_iff.mp h
    refine sd_seq (sd_asgG (l := .l2) (d := (D.tup [(D.int x5.1), (D.int x5.2.1), (D.tup (List.map D.int x5.2.2.1)), (D.int x5.2.2.2.1), (D.int x5.2.2.2.2)])) (ev_opP (l := .l2) (ev_im rfl) (ev_im rfl) (rv_ixTm (f := (fun (z94 : (Int × Int × (List Int) × Int × Int)) => (D.tup [(D.int z94.1), (D.int z94.2.1), (D.tup (List.map D.int z94.2.2.1)), (D.int z94.2.2.2.1), (D.int z94.2.2.2.2)]))) (xs := a0) (v := x5) hx5)) (tg_tup rfl (tgs_cons (tg_name rfl) (tgs_cons (tg_name rfl) (tgs_cons (tg_name rfl) (tgs_cons (tg_name rfl) (tgs_cons (tg_name rfl) tgs_nil))))))) ?_
    refine sd_env (env2 := ([.im (D.tup (List.map (fun (z95 : (Int × Int × (List Int) × Int × Int)) => (D.tup [(D.int z95.1), (D.int z95.2.1), (D.tup (List.map D.int z95.2.2.1)), (D.int z95.2.2.2.1), (D.int z95.2.2.2.2)])) a0)), .im (dtL (List.map (fun (z : List Int × (Int × (Option Int))) => ((z.1.map Sum.inl : List Key), (D.tup [(D.int z.2.1), (encO D.int z.2.2)]))) a1)), .im (D.int s1.2.1), .im (D.int s1.2.2), .ow (D.lst (List.map (fun (z96 : (Int × Int × Int × Int × Int)) => (D.tup [(D.int z96.1), (D.int z96.2.1), (D.int z96.2.2.1), (D.int z96.2.2.2.1), (D.int z96.2.2.2.2)])) s1.1)), .im (D.int x4), .im (D.int x5.1), .im (D.int x5.2.1), .im (D.tup (List.map D.int x5.2.2.1)), .im (D.int x5.2.2.2.1), .im (D.int x5.2.2.2.2)] : List Bd)) (by kernel_rfl) ?_
    refine sd_if (eb_test (l := .l2) (ev_opP (l := .l2) (ev_im rfl) (ev_im rfl) rv_eqI)) (fun hb => ?_) (fun hb => ?_)
    · replace h := ifT hb h
      obtain ⟨x6, hx6, h⟩ := Option.bind_eq_some_iff.mp h
      refine sd_seq (sd_appendT (f := (fun (z97 : (Int × Int × Int × Int × Int)) => (D.tup [(D.int z97.1), (D.int z97.2.1), (D.int z97.2.2.1), (D.int z97.2.2.2.1), (D.int z97.2.2.2.2)]))) (xs := s1.1) (v := ((0 : Int), (0 : Int), x4, ((List.length x5.2.2.1 : Int) - (1 : Int)), x5.2.2.2.2)) hx6 rfl rfl (ev_tup (ea_consP ev_int (ea_consP ev_int (ea_consP (ev_im rfl) (ea_consP (ev_opP (l := .l2) (ev_cb (l := .l2) (ea_consP (ev_im rfl) ea_nil) (rc_len_tm (f := D.int))) ev_int rv_sub) (ea_consP (ev_im rfl) ea_nil))))) (show 5 ≤ 1000 from by decide))) ?_
      refine sd_env (env2 := ([.im (D.tup (List.map (fun (z98 : (Int × Int × (List Int) × Int × Int)) => (D.tup [(D.int z98.1), (D.int z98.2.1), (D.tup (List.map D.int z98.2.2.1)), (D.int z98.2.2.2.1), (D.int z98.2.2.2.2)])) a0)), .im (dtL (List.map (fun (z : List Int × (Int × (Option Int))) => ((z.1.map Sum.inl : List Key), (D.tup [(D.int z.2.1), (encO D.int z.2.2)]))) a1)), .im (D.int s1.2.1), .im (D.int s1.2.2), .ow (D.lst (List.map (fun (z99 : (Int × Int × Int × Int × Int)) => (D.tup [(D.int z99.1), (D.int z99.2.1), (D.int z99.2.2.1), (D.int z99.2.2.2.1), (D.int z99.2.2.2.2)])) (s1.1 ++ [((0 : Int), (0 : Int), x4, ((List.length x5.2.2.1 : Int) - (1 : Int)), x5.2.2.2.2)]))), .im (D.int x4), .im (D.int x5.1), .im (D.int x5.2.1), .im (D.tup (List.map D.int x5.2.2.1)), .im (D.int x5.2.2.2.1), .im (D.int x5.2.2.2.2)] : List Bd)) (by kernel_rfl) ?_
      have h := Option.some.inj h; subst h
      exact sd_endW [5, 6, 7, 8, 9, 10] (sd_asg (d := (D.int x5.1)) rfl (ev_im rfl)) (by kernel_rfl) (by kernel_rfl)
    · replace h := ifF hb h
      obtain ⟨x7, hx7, h⟩ := Option.bind_eq_some_iff.mp h
      refine sd_seq (sd_appendT (f := (fun (z100 : (Int × Int × Int × Int × Int)) => (D.tup [(D.int z100.1), (D.int z100.2.1), (D.int z100.2.2.1), (D.int z100.2.2.2.1), (D.int z100.2.2.2.2)]))) (xs := s1.1) (v := ((0 : Int), (0 : Int), x4, (0 : Int), x5.2.2.2.1)) hx7 rfl rfl (ev_tup (ea_consP ev_int (ea_consP ev_int (ea_consP (ev_im rfl) (ea_consP ev_int (ea_consP (ev_im rfl) ea_nil))))) (show 5 ≤ 1000 from by decide))) ?_
      refine sd_env (env2 := ([.im (D.tup (List.map (fun (z101 : (Int × Int × (List Int) × Int × Int)) => (D.tup [(D.int z101.1), (D.int z101.2.1), (D.tup (List.map D.int z101.2.2.1)), (D.int z101.2.2.2.1), (D.int z101.2.2.2.2)])) a0)), .im (dtL (List.map (fun (z : List Int × (Int × (Option Int))) => ((z.1.map Sum.inl : List Key), (D.tup [(D.int z.2.1), (encO D.int z.2.2)]))) a1)), .im (D.int s1.2.1), .im (D.int s1.2.2), .ow (D.lst (List.map (fun (z102 : (Int × Int × Int × Int × Int)) => (D.tup [(D.int z102.1), (D.int z102.2.1), (D.int z102.2.2.1), (D.int z102.2.2.2.1), (D.int z102.2.2.2.2)])) (s1.1 ++ [((0 : Int), (0 : Int), x4, (0 : Int), x5.2.2.2.1)]))), .im (D.int x4), .im (D.int x5.1), .im (D.int x5.2.1), .im (D.tup (List.map D.int x5.2.2.1)), .im (D.int x5.2.2.2.1), .im (D.int x5.2.2.2.2)] : List Bd)) (by kernel_rfl) ?_
      have h := Option.some.inj h; subst h
      exact sd_endW [5, 6, 7, 8, 9, 10] (sd_asg (d := (D.int x5.1)) rfl (ev_im rfl)) (by kernel_rfl) (by kernel_rfl)
  have h := Option.some.inj h; subst h
  exact (sd_ret (d := (D.tup [(D.lst (List.map (fun (z109 : (Int × Int × Int × Int × Int)) => (D.tup [(D.int z109.1), (D.int z109.2.1), (D.int z109.2.2.1), (D.int z109.2.2.2.1), (D.int z109.2.2.2.2)])) y8.1)), (D.int y8.2.1)])) (ev_tup (ea_consP (ev_ow (.inr rfl) rfl) (ea_consP (ev_im rfl) ea_nil)) (show 2 ≤ 1000 from by decide)))
/-- difference_schedule -/
def m_difference_schedule (a0 : (Int × (List (Int × Int × (List Int) × Int × Int)))) (a1 : Int) (a2 : Int) : Option (List (Int × Int × Int × Int × Int)) := (m_check_service a0 a1).bind fun r1 => (m_check_service a0 a2).bind fun r2 => (m_greatest_differences a0).bind fun r3 => (m_separate_entries a0.2 r3 a1 a2).bind fun r4 => (m_separate_entries a0.2 r3 r4.2 (0 : Int)).bind fun r5 => (catO r4.1 r5.1).bind fun x6 => (sortO (fun (k7 : (Int × Int × Int × Int × Int)) => [k7.1, k7.2.1, k7.2.2.1, k7.2.2.2.1, k7.2.2.2.2]) x6).bind fun x8 => some x8
def R_difference_schedule : List D → D → Prop := fun ds r => ∃ (a0 : (Int × (List (Int × Int × (List Int) × Int × Int)))) (a1 : Int) (a2 : Int) (v : (List (Int × Int × Int × Int × Int))), m_difference_schedule a0 a1 a2 = some v ∧ ds = [(D.tup [(D.int a0.1), (D.tup (List.map (fun (z137 : (Int × Int × (List Int) × Int × Int)) => (D.tup [(D.int z137.1), (D.int z137.2.1), (D.tup (List.map D.int z137.2.2.1)), (D.int z137.2.2.2.1), (D.int z137.2.2.2.2)])) a0.2))]), (D.int a1), (D.int a2)] ∧ r = (D.lst (List.map (fun (z138 : (Int × Int × Int × Int × Int)) => (D.tup [(D.int z138.1), (D.int z138.2.1), (D.int z138.2.2.1), (D.int z138.2.2.2.1), (D.int z138.2.2.2.2)])) v))
def nm_difference_schedule : List Str := ["system", "service", "other", "calls", "table", "entries", "meeting", "shared", "_"]
theorem sc_difference_schedule : FnScope ["system", "service", "other", "calls", "table", "entries", "meeting", "shared", "_"] ["system", "service", "other"] (defScope (top 25)) := ⟨rfl, rfl, rfl, by decide +kernel, rfl, by decide +kernel, by decide +kernel⟩
theorem ok_difference_schedule (T : Tx K mg) : FnOk P w K mg base CX0 8 T.a_difference_schedule T.d_difference_schedule ["system", "service", "other"] (SpF K [true, true, true] R_difference_schedule) := by
  refine T.F_difference_schedule.ok sc_difference_schedule (SpF.len rfl) (fun cdv A outer s H vs Q E hr h => ⟨_, PSs.nox (pss_cons (ps_expr (pe_call (ok_check_service T) (hr.mono (by decide)) rfl T.g_check_service T.F_check_service.kp (T.F_check_service.bindsN fun _ _ _ _ _ _ us hl => match us, hl with | [_, _], _ => rfl) .nil pass0 (pa_cons (pv 0) (pa_cons (pv 1) pa_nil)))) (pss_cons (ps_expr (pe_call (ok_check_service T) (hr.mono (by decide)) rfl T.g_check_service T.F_check_service.kp (T.F_check_service.bindsN fun _ _ _ _ _ _ us hl => match us, hl with | [_, _], _ => rfl) .nil pass0 (pa_cons (pv 0) (pa_cons (pv 2) pa_nil)))) (pss_cons (ps_set (i := 3) sc_difference_schedule.nd rfl (Or.inl rfl) (pe_ix (ixTK (K := K) (by rfl)) (pv 0) pe_int (fun _ _ => rfl))) (pss_cons (ps_set (i := 4) sc_difference_schedule.nd rfl (Or.inl rfl) (pe_call (ok_greatest_differences T) (hr.mono (by decide)) rfl T.g_greatest_differences T.F_greatest_differences.kp (T.F_greatest_differences.bindsN fun _ _ _ _ _ _ us hl => match us, hl with | [_], _ => rfl) .nil pass0 (pa_cons (pv 0) pa_nil))) (pss_cons (ps_asg (pe_call (ok_separate_entries T) (hr.mono (by decide)) rfl T.g_separate_entries T.F_separate_entries.kp (T.F_separate_entries.bindsN fun _ _ _ _ _ _ us hl => match us, hl with | [_, _, _, _], _ => rfl) .nil pass0 (pa_cons (pv 3) (pa_cons (pv 4) (pa_cons (pv 1) (pa_cons (pv 2) pa_nil))))) (pgTupK (K := K) (n := 2) (by rfl) rfl (pgs_cons (pg_name (i := 5) sc_difference_schedule.nd rfl (Or.inl rfl)) (pgs_cons (pg_name (i := 6) sc_difference_schedule.nd rfl (Or.inl rfl)) pgs_nil)) (by rfl) (by rfl))) (pss_cons (ps_asg (pe_call (ok_separate_entries T) (hr.mono (by decide)) rfl T.g_separate_entries T.F_separate_entries.kp (T.F_separate_entries.bindsN fun _ _ _ _ _ _ us hl => match us, hl with | [_, _, _, _], _ => rfl) .nil pass0 (pa_cons (pv 3) (pa_cons (pv 4) (pa_cons (pv 6) (pa_cons pe_int pa_nil))))) (pgTupK (K := K) (n := 2) (by rfl) rfl (pgs_cons (pg_name (i := 7) sc_difference_schedule.nd rfl (Or.inl rfl)) (pgs_cons (pg_name (i := 8) sc_difference_schedule.nd rfl (Or.inl rfl)) pgs_nil)) (by rfl) (by rfl))) (pss_one (ps_ret (pe_callB (sortDK (K := K) (by rfl) (hu64 hr)) rfl T.b_sorted (by decide +kernel) (pa_cons (pe_op (catLK (K := K) (by rfl)) (pv 5) (pv 7)) pa_nil)))))))))), ?_⟩)
  refine run_F (n := 6) rfl h fun ds r hR => ?_
  obtain ⟨a0, a1, a2, v, h, rfl, rfl⟩ := hR
  unfold m_difference_schedule at h
  refine sd_env (env2 := ([.im (D.tup [(D.int a0.1), (D.tup (List.map (fun (z139 : (Int × Int × (List Int) × Int × Int)) => (D.tup [(D.int z139.1), (D.int z139.2.1), (D.tup (List.map D.int z139.2.2.1)), (D.int z139.2.2.2.1), (D.int z139.2.2.2.2)])) a0.2))]), .im (D.int a1), .im (D.int a2), .an, .an, .an, .an, .an, .an] : List Bd)) rfl ?_
  obtain ⟨r1, hr1, h⟩ := Option.bind_eq_some_iff.mp h
  refine sd_seq (sd_drop (d := D.non) (l := .l2) (ev_callK (l := .l2) (ds := [(D.tup [(D.int a0.1), (D.tup (List.map (fun (z113 : (Int × Int × (List Int) × Int × Int)) => (D.tup [(D.int z113.1), (D.int z113.2.1), (D.tup (List.map D.int z113.2.2.1)), (D.int z113.2.2.2.1), (D.int z113.2.2.2.2)])) a0.2))]), (D.int a1)]) (R := R_check_service) (ek_A (ev_im rfl) (ek_A (ev_im rfl) ek_nil)) ⟨a0, a1, r1, hr1, rfl, rfl⟩)) ?_
  refine sd_env (env2 := ([.im (D.tup [(D.int a0.1), (D.tup (List.map (fun (z114 : (Int × Int × (List Int) × Int × Int)) => (D.tup [(D.int z114.1), (D.int z114.2.1), (D.tup (List.map D.int z114.2.2.1)), (D.int z114.2.2.2.1), (D.int z114.2.2.2.2)])) a0.2))]), .im (D.int a1), .im (D.int a2), .an, .an, .an, .an, .an, .an] : List Bd)) (by kernel_rfl) ?_
  obtain ⟨r2, hr2, h⟩ := Option.bind_eq_some_iff.mp h
  refine sd_seq (sd_drop (d := D.non) (l := .l2) (ev_callK (l := .l2) (ds := [(D.tup [(D.int a0.1), (D.tup (List.map (fun (z115 : (Int × Int × (List Int) × Int × Int)) => (D.tup [(D.int z115.1), (D.int z115.2.1), (D.tup (List.map D.int z115.2.2.1)), (D.int z115.2.2.2.1), (D.int z115.2.2.2.2)])) a0.2))]), (D.int a2)]) (R := R_check_service) (ek_A (ev_im rfl) (ek_A (ev_im rfl) ek_nil)) ⟨a0, a2, r2, hr2, rfl, rfl⟩)) ?_
  refine sd_env (env2 := ([.im (D.tup [(D.int a0.1), (D.tup (List.map (fun (z116 : (Int × Int × (List Int) × Int × Int)) => (D.tup [(D.int z116.1), (D.int z116.2.1), (D.tup (List.map D.int z116.2.2.1)), (D.int z116.2.2.2.1), (D.int z116.2.2.2.2)])) a0.2))]), .im (D.int a1), .im (D.int a2), .an, .an, .an, .an, .an, .an] : List Bd)) (by kernel_rfl) ?_
  refine sd_seq (sd_asg (d := (D.tup (List.map (fun (z117 : (Int × Int × (List Int) × Int × Int)) => (D.tup [(D.int z117.1), (D.int z117.2.1), (D.tup (List.map D.int z117.2.2.1)), (D.int z117.2.2.2.1), (D.int z117.2.2.2.2)])) a0.2))) rfl (ev_opP (l := .l2) (ev_im rfl) ev_int (rv_ixTn 1 rfl))) ?_
  refine sd_env (env2 := ([.im (D.tup [(D.int a0.1), (D.tup (List.map (fun (z118 : (Int × Int × (List Int) × Int × Int)) => (D.tup [(D.int z118.1), (D.int z118.2.1), (D.tup (List.map D.int z118.2.2.1)), (D.int z118.2.2.2.1), (D.int z118.2.2.2.2)])) a0.2))]), .im (D.int a1), .im (D.int a2), .im (D.tup (List.map (fun (z119 : (Int × Int × (List Int) × Int × Int)) => (D.tup [(D.int z119.1), (D.int z119.2.1), (D.tup (List.map D.int z119.2.2.1)), (D.int z119.2.2.2.1), (D.int z119.2.2.2.2)])) a0.2)), .an, .an, .an, .an, .an] : List Bd)) (by kernel_rfl) ?_
  obtain ⟨r3, hr3, h⟩ := Option.bind_eq_some_iff.mp h
  refine sd_seq (sd_asg (d := (dtL (List.map (fun (z : List Int × (Int × (Option Int))) => ((z.1.map Sum.inl : List Key), (D.tup [(D.int z.2.1), (encO D.int z.2.2)]))) r3))) rfl (ev_callK (l := .l2) (ds := [(D.tup [(D.int a0.1), (D.tup (List.map (fun (z120 : (Int × Int × (List Int) × Int × Int)) => (D.tup [(D.int z120.1), (D.int z120.2.1), (D.tup (List.map D.int z120.2.2.1)), (D.int z120.2.2.2.1), (D.int z120.2.2.2.2)])) a0.2))])]) (R := R_greatest_differences) (ek_A (ev_im rfl) ek_nil) ⟨a0, r3, hr3, rfl, rfl⟩)) ?_
  refine sd_env (env2 := ([.im (D.tup [(D.int a0.1), (D.tup (List.map (fun (z121 : (Int × Int × (List Int) × Int × Int)) => (D.tup [(D.int z121.1), (D.int z121.2.1), (D.tup (List.map D.int z121.2.2.1)), (D.int z121.2.2.2.1), (D.int z121.2.2.2.2)])) a0.2))]), .im (D.int a1), .im (D.int a2), .im (D.tup (List.map (fun (z122 : (Int × Int × (List Int) × Int × Int)) => (D.tup [(D.int z122.1), (D.int z122.2.1), (D.tup (List.map D.int z122.2.2.1)), (D.int z122.2.2.2.1), (D.int z122.2.2.2.2)])) a0.2)), .im (dtL (List.map (fun (z : List Int × (Int × (Option Int))) => ((z.1.map Sum.inl : List Key), (D.tup [(D.int z.2.1), (encO D.int z.2.2)]))) r3)), .an, .an, .an, .an] : List Bd)) (by kernel_rfl) ?_
  obtain ⟨r4, hr4, h⟩ := Option.bind_eq_some_iff.mp h
  refine sd_seq (sd_asgG (l := .l2) (d := (D.tup [(D.lst (List.map (fun (z124 : (Int × Int × Int × Int × Int)) => (D.tup [(D.int z124.1), (D.int z124.2.1), (D.int z124.2.2.1), (D.int z124.2.2.2.1), (D.int z124.2.2.2.2)])) r4.1)), (D.int r4.2)])) (ev_callK (l := .l2) (ds := [(D.tup (List.map (fun (z123 : (Int × Int × (List Int) × Int × Int)) => (D.tup [(D.int z123.1), (D.int z123.2.1), (D.tup (List.map D.int z123.2.2.1)), (D.int z123.2.2.2.1), (D.int z123.2.2.2.2)])) a0.2)), (dtL (List.map (fun (z : List Int × (Int × (Option Int))) => ((z.1.map Sum.inl : List Key), (D.tup [(D.int z.2.1), (encO D.int z.2.2)]))) r3)), (D.int a1), (D.int a2)]) (R := R_separate_entries) (ek_A (ev_im rfl) (ek_A (ev_im rfl) (ek_A (ev_im rfl) (ek_A (ev_im rfl) ek_nil)))) ⟨a0.2, r3, a1, a2, r4, hr4, rfl, rfl⟩) (tg_tup rfl (tgs_cons (tg_name rfl) (tgs_cons (tg_name rfl) tgs_nil)))) ?_
  refine sd_env (env2 := ([.im (D.tup [(D.int a0.1), (D.tup (List.map (fun (z125 : (Int × Int × (List Int) × Int × Int)) => (D.tup [(D.int z125.1), (D.int z125.2.1), (D.tup (List.map D.int z125.2.2.1)), (D.int z125.2.2.2.1), (D.int z125.2.2.2.2)])) a0.2))]), .im (D.int a1), .im (D.int a2), .im (D.tup (List.map (fun (z126 : (Int × Int × (List Int) × Int × Int)) => (D.tup [(D.int z126.1), (D.int z126.2.1), (D.tup (List.map D.int z126.2.2.1)), (D.int z126.2.2.2.1), (D.int z126.2.2.2.2)])) a0.2)), .im (dtL (List.map (fun (z : List Int × (Int × (Option Int))) => ((z.1.map Sum.inl : List Key), (D.tup [(D.int z.2.1), (encO D.int z.2.2)]))) r3)), .im (D.lst (List.map (fun (z127 : (Int × Int × Int × Int × Int)) => (D.tup [(D.int z127.1), (D.int z127.2.1), (D.int z127.2.2.1), (D.int z127.2.2.2.1), (D.int z127.2.2.2.2)])) r4.1)), .im (D.int r4.2), .an, .an] : List Bd)) (by kernel_rfl) ?_
  obtain ⟨r5, hr5, h⟩ := Option.bind_eq_some_iff.mp h
  refine sd_seq (sd_asgG (l := .l2) (d := (D.tup [(D.lst (List.map (fun (z129 : (Int × Int × Int × Int × Int)) => (D.tup [(D.int z129.1), (D.int z129.2.1), (D.int z129.2.2.1), (D.int z129.2.2.2.1), (D.int z129.2.2.2.2)])) r5.1)), (D.int r5.2)])) (ev_callK (l := .l2) (ds := [(D.tup (List.map (fun (z128 : (Int × Int × (List Int) × Int × Int)) => (D.tup [(D.int z128.1), (D.int z128.2.1), (D.tup (List.map D.int z128.2.2.1)), (D.int z128.2.2.2.1), (D.int z128.2.2.2.2)])) a0.2)), (dtL (List.map (fun (z : List Int × (Int × (Option Int))) => ((z.1.map Sum.inl : List Key), (D.tup [(D.int z.2.1), (encO D.int z.2.2)]))) r3)), (D.int r4.2), (D.int (0 : Int))]) (R := R_separate_entries) (ek_A (ev_im rfl) (ek_A (ev_im rfl) (ek_A (ev_im rfl) (ek_A ev_int ek_nil)))) ⟨a0.2, r3, r4.2, (0 : Int), r5, hr5, rfl, rfl⟩) (tg_tup rfl (tgs_cons (tg_name rfl) (tgs_cons (tg_name rfl) tgs_nil)))) ?_
  refine sd_env (env2 := ([.im (D.tup [(D.int a0.1), (D.tup (List.map (fun (z130 : (Int × Int × (List Int) × Int × Int)) => (D.tup [(D.int z130.1), (D.int z130.2.1), (D.tup (List.map D.int z130.2.2.1)), (D.int z130.2.2.2.1), (D.int z130.2.2.2.2)])) a0.2))]), .im (D.int a1), .im (D.int a2), .im (D.tup (List.map (fun (z131 : (Int × Int × (List Int) × Int × Int)) => (D.tup [(D.int z131.1), (D.int z131.2.1), (D.tup (List.map D.int z131.2.2.1)), (D.int z131.2.2.2.1), (D.int z131.2.2.2.2)])) a0.2)), .im (dtL (List.map (fun (z : List Int × (Int × (Option Int))) => ((z.1.map Sum.inl : List Key), (D.tup [(D.int z.2.1), (encO D.int z.2.2)]))) r3)), .im (D.lst (List.map (fun (z132 : (Int × Int × Int × Int × Int)) => (D.tup [(D.int z132.1), (D.int z132.2.1), (D.int z132.2.2.1), (D.int z132.2.2.2.1), (D.int z132.2.2.2.2)])) r4.1)), .im (D.int r4.2), .im (D.lst (List.map (fun (z133 : (Int × Int × Int × Int × Int)) => (D.tup [(D.int z133.1), (D.int z133.2.1), (D.int z133.2.2.1), (D.int z133.2.2.2.1), (D.int z133.2.2.2.2)])) r5.1)), .im (D.int r5.2)] : List Bd)) (by kernel_rfl) ?_
  obtain ⟨x6, hx6, h⟩ := Option.bind_eq_some_iff.mp h
  obtain ⟨x8, hx8, h⟩ := Option.bind_eq_some_iff.mp h
  have h := Option.some.inj h; subst h
  exact (sd_retF (d := (D.lst (List.map (fun (z135 : (Int × Int × Int × Int × Int)) => (D.tup [(D.int z135.1), (D.int z135.2.1), (D.int z135.2.2.1), (D.int z135.2.2.2.1), (D.int z135.2.2.2.2)])) x8))) (ef_is (D.lst (List.map (fun (z136 : (Int × Int × Int × Int × Int)) => (D.tup [(D.int z136.1), (D.int z136.2.1), (D.int z136.2.2.1), (D.int z136.2.2.2.1), (D.int z136.2.2.2.2)])) x8)) (ef_sortT (key := (fun (k7 : (Int × Int × Int × Int × Int)) => [k7.1, k7.2.1, k7.2.2.1, k7.2.2.2.1, k7.2.2.2.2])) hx8 (fun _ z => by cases z) (ea_consP (ef_ev (ef_catT (f := (fun (z134 : (Int × Int × Int × Int × Int)) => (D.tup [(D.int z134.1), (D.int z134.2.1), (D.int z134.2.2.1), (D.int z134.2.2.2.1), (D.int z134.2.2.2.2)]))) (p := true) (q := true) hx6 (ev_im rfl) (ev_im rfl))) ea_nil)) rfl))
/-- act_times -/
def m_act_times (a0 : (Int × (List (Int × Int × (List Int) × Int × Int)))) : Option (List (Int × (Int × Int))) := (m_greatest_differences a0).bind fun r1 => (m_reachable_services a0).bind fun r2 => (dictO (fun (x3 : Int) => (getA r1 [(0 : Int), x3]).bind fun x4 => (getA r1 [x3, (0 : Int)]).bind fun x5 => some (x3, ((-x4.1), x5.1))) r2).bind fun dd6 => some dd6
def R_act_times : List D → D → Prop := fun ds r => ∃ (a0 : (Int × (List (Int × Int × (List Int) × Int × Int)))) (v : (List (Int × (Int × Int)))), m_act_times a0 = some v ∧ ds = [(D.tup [(D.int a0.1), (D.tup (List.map (fun (z146 : (Int × Int × (List Int) × Int × Int)) => (D.tup [(D.int z146.1), (D.int z146.2.1), (D.tup (List.map D.int z146.2.2.1)), (D.int z146.2.2.2.1), (D.int z146.2.2.2.2)])) a0.2))])] ∧ r = (dkL (List.map (fun (z : Int × (Int × Int)) => ((Sum.inl z.1 : Key), (D.tup [(D.int z.2.1), (D.int z.2.2)]))) v))
def nm_act_times : List Str := ["system", "table", "service"]
theorem sc_act_times : FnScope ["system", "table", "service"] ["system"] (defScope (top 26)) := ⟨rfl, rfl, rfl, by decide +kernel, rfl, by decide +kernel, by decide +kernel⟩
theorem ok_act_times (T : Tx K mg) : FnOk P w K mg base CX0 8 T.a_act_times T.d_act_times ["system"] (SpP K [true] R_act_times) := by
  refine T.F_act_times.ok sc_act_times (SpP.len rfl) (fun cdv A outer s H vs Q E hr h => ⟨_, PSs.nox (pss_cons (ps_set (i := 1) sc_act_times.nd rfl (Or.inr rfl) (pe_call (ok_greatest_differences T) (hr.mono (by decide)) rfl T.g_greatest_differences T.F_greatest_differences.kp (T.F_greatest_differences.bindsN fun _ _ _ _ _ _ us hl => match us, hl with | [_], _ => rfl) .nil pass0 (pa_cons (pv 0) pa_nil))) (pss_one (ps_ret (pe_dg (o := .dK []) (own := [("service", 2)]) (.inl rfl) rfl (hu_of hr) sc_act_times.nd (piListK (K := K) (by rfl) (pe_call (ok_reachable_services T) (hr.mono (by decide)) rfl T.g_reachable_services T.F_reachable_services.kp (T.F_reachable_services.bindsN fun _ _ _ _ _ _ us hl => match us, hl with | [_], _ => rfl) .nil pass0 (pa_cons (pv 0) pa_nil))) (blkOk_by (own := [("service", 2)]) (N := nm_act_times) (sc := defScope (top 26)) (by decide +kernel)) (fun _ _ _ _ _ => (pg_name (i := 2) sc_act_times.nd rfl (Or.inl rfl))) (fun _ _ _ _ _ => pts_nil) (fun _ _ _ _ _ => (pv 2)) (fun _ _ _ _ _ => (pe_tup (pa_cons (pe_un un_neg (pe_ix (ixTK (K := K) (by rfl)) (pe_dget (hu_of hr) (pv 1) (pe_tup (pa_cons pe_int (pa_cons (pv 2) pa_nil))) (fun _ _ => rfl)) pe_int (fun _ _ => rfl))) (pa_cons (pe_ix (ixTK (K := K) (by rfl)) (pe_dget (hu_of hr) (pv 1) (pe_tup (pa_cons (pv 2) (pa_cons pe_int pa_nil))) (fun _ _ => rfl)) pe_int (fun _ _ => rfl)) pa_nil)))))))), ?_⟩)
  refine run_P (n := 2) rfl h fun ds r hR => ?_
  obtain ⟨a0, v, h, rfl, rfl⟩ := hR
  unfold m_act_times at h
  refine sd_env (env2 := ([.im (D.tup [(D.int a0.1), (D.tup (List.map (fun (z147 : (Int × Int × (List Int) × Int × Int)) => (D.tup [(D.int z147.1), (D.int z147.2.1), (D.tup (List.map D.int z147.2.2.1)), (D.int z147.2.2.2.1), (D.int z147.2.2.2.2)])) a0.2))]), .an, .an] : List Bd)) rfl ?_
  obtain ⟨r1, hr1, h⟩ := Option.bind_eq_some_iff.mp h
  refine sd_seq (sd_asg (d := (dtL (List.map (fun (z : List Int × (Int × (Option Int))) => ((z.1.map Sum.inl : List Key), (D.tup [(D.int z.2.1), (encO D.int z.2.2)]))) r1))) rfl (ev_callK (l := .l2) (ds := [(D.tup [(D.int a0.1), (D.tup (List.map (fun (z140 : (Int × Int × (List Int) × Int × Int)) => (D.tup [(D.int z140.1), (D.int z140.2.1), (D.tup (List.map D.int z140.2.2.1)), (D.int z140.2.2.2.1), (D.int z140.2.2.2.2)])) a0.2))])]) (R := R_greatest_differences) (ek_A (ev_im rfl) ek_nil) ⟨a0, r1, hr1, rfl, rfl⟩)) ?_
  refine sd_env (env2 := ([.im (D.tup [(D.int a0.1), (D.tup (List.map (fun (z141 : (Int × Int × (List Int) × Int × Int)) => (D.tup [(D.int z141.1), (D.int z141.2.1), (D.tup (List.map D.int z141.2.2.1)), (D.int z141.2.2.2.1), (D.int z141.2.2.2.2)])) a0.2))]), .im (dtL (List.map (fun (z : List Int × (Int × (Option Int))) => ((z.1.map Sum.inl : List Key), (D.tup [(D.int z.2.1), (encO D.int z.2.2)]))) r1)), .an] : List Bd)) (by kernel_rfl) ?_
  obtain ⟨r2, hr2, h⟩ := Option.bind_eq_some_iff.mp h
  obtain ⟨dd6, hdd6, h⟩ := Option.bind_eq_some_iff.mp h
  have h := Option.some.inj h; subst h
  exact (sd_ret (d := (dkL (List.map (fun (z : Int × (Int × Int)) => ((Sum.inl z.1 : Key), (D.tup [(D.int z.2.1), (D.int z.2.2)]))) dd6))) (ef_ev (ef_dictK (l := .l2) (en := D.int) (eb := (fun (z145 : (Int × Int)) => (D.tup [(D.int z145.1), (D.int z145.2)]))) hdd6 rfl (ei_list rfl (ev_callK (l := .l2) (ds := [(D.tup [(D.int a0.1), (D.tup (List.map (fun (z142 : (Int × Int × (List Int) × Int × Int)) => (D.tup [(D.int z142.1), (D.int z142.2.1), (D.tup (List.map D.int z142.2.2.1)), (D.int z142.2.2.2.1), (D.int z142.2.2.2.2)])) a0.2))])]) (R := R_reachable_services) (ek_A (ev_im rfl) ek_nil) ⟨a0, r2, hr2, rfl, rfl⟩)) (tw_name (i := 2) (vs := [2]) (by decide)) (anC (v := 2) rfl anN) (fun x3 kv wdd6 => by obtain ⟨x4, hx4, wdd6⟩ := Option.bind_eq_some_iff.mp wdd6; obtain ⟨x5, hx5, wdd6⟩ := Option.bind_eq_some_iff.mp wdd6; have wdd6 := Option.some.inj wdd6; subst wdd6; exact turnK (tg_name rfl) (ev_im rfl) (ev_tup (ea_consP (ev_un (f := fun i => V.int (-i)) (e := D.int (-x4.1)) (l := .l2) (ev_opP (l := .l2) (ev_dgetTt (f := (fun (z143 : (Int × (Option Int))) => (D.tup [(D.int z143.1), (encO D.int z143.2)]))) (ns := [(0 : Int), x3]) (v := x4) hx4 (ev_im rfl) (ea_consP ev_int (ea_consP (ev_im rfl) ea_nil)) (show 2 ≤ 1000 from by decide)) ev_int (rv_ixTn 0 rfl)) (fun _ => rfl)) (ea_consP (ev_opP (l := .l2) (ev_dgetTt (f := (fun (z144 : (Int × (Option Int))) => (D.tup [(D.int z144.1), (encO D.int z144.2)]))) (ns := [x3, (0 : Int)]) (v := x5) hx5 (ev_im rfl) (ea_consP (ev_im rfl) (ea_consP ev_int ea_nil)) (show 2 ≤ 1000 from by decide)) ev_int (rv_ixTn 0 rfl)) ea_nil)) (show 2 ≤ 1000 from by decide)) rfl rfl))))
/-- check_windows -/
def m_check_windows (a0 : (Int × (List (Int × Int × (List Int) × Int × Int)))) (a1 : (List Int)) : Option Unit := (m_check_system a0).bind fun r1 => if (!true) = true then (none) else ((List.foldlM (fun (s3 : Unit) (x2 : (Int × Int)) => (if (decide (a0.1 ≤ x2.1)) = true then some true else (m_is_number_within x2.2 (0 : Int) (9999 : Int)).bind fun r5 => some (!r5)).bind fun c6 => if c6 = true then (none) else (some ())) () (enumT a1)).bind fun y7 => if (decide ((List.length a1 : Int) < a0.1)) = true then (none) else (some ()))
def R_check_windows : List D → D → Prop := fun ds r => ∃ (a0 : (Int × (List (Int × Int × (List Int) × Int × Int)))) (a1 : (List Int)) (v : Unit), m_check_windows a0 a1 = some v ∧ ds = [(D.tup [(D.int a0.1), (D.tup (List.map (fun (z155 : (Int × Int × (List Int) × Int × Int)) => (D.tup [(D.int z155.1), (D.int z155.2.1), (D.tup (List.map D.int z155.2.2.1)), (D.int z155.2.2.2.1), (D.int z155.2.2.2.2)])) a0.2))]), (D.tup (List.map D.int a1))] ∧ r = D.non
def nm_check_windows : List Str := ["system", "windows", "count", "index", "window"]
theorem sc_check_windows : FnScope ["system", "windows", "count", "index", "window"] ["system", "windows"] (defScope (top 29)) := ⟨rfl, rfl, rfl, by decide +kernel, rfl, by decide +kernel, by decide +kernel⟩
theorem ok_check_windows (T : Tx K mg) : FnOk P w K mg base CX0 6 T.a_check_windows T.d_check_windows ["system", "windows"] (SpP K [true, true] R_check_windows) := by
  refine T.F_check_windows.ok sc_check_windows (SpP.len rfl) (fun cdv A outer s H vs Q E hr h => ⟨_, PSs.nox (pss_cons (ps_expr (pe_call (ok_check_system T) (hr.mono (by decide)) rfl T.g_check_system T.F_check_system.kp (T.F_check_system.bindsN fun _ _ _ _ _ _ us hl => match us, hl with | [_], _ => rfl) .nil pass0 (pa_cons (pv 0) pa_nil))) (pss_cons (ps_set (i := 2) sc_check_windows.nd rfl (Or.inl rfl) (pe_ix (ixTK (K := K) (by rfl)) (pv 0) pe_int (fun _ _ => rfl))) (pss_cons (ps_if (pt_not (pt_val (pe_callB (isiK (K := K) (by rfl)) rfl T.b_isinstance (by decide +kernel) (pa_cons (pv 1) (pa_cons (pe_bltn (v := .ty "tuple") rfl T.b_tuple (by decide +kernel) rfl) pa_nil))))) (pss_one ps_never) pss_nil) (pss_cons (ps_for PassesOwn.never rfl (pi_enT rfl T.b_enumerate (pa_cons (pv 1) pa_nil)) (pgTupK (K := K) (n := 2) (by rfl) rfl (pgs_cons (pg_name (i := 3) sc_check_windows.nd rfl (Or.inl rfl)) (pgs_cons (pg_name (i := 4) sc_check_windows.nd rfl (Or.inl rfl)) pgs_nil)) (by rfl) (by rfl)) (pss_one (ps_if (PW.pt (pw_or (pt_cmpR op_ge (pv 3) (pv 2) (nomark _)) (pw_or1 (pt_not (pt_val (pe_call (ok_is_number_within T) (hr.mono (by decide)) rfl T.g_is_number_within T.F_is_number_within.kp (T.F_is_number_within.bindsN fun _ _ _ _ _ _ us hl => match us, hl with | [_, _, _], _ => rfl) .nil pass0 (pa_cons (pv 4) (pa_cons pe_int (pa_cons (pe_glob (v := .int 9999) rfl T.c_LONGEST_WINDOW ⟨_, rfl⟩) pa_nil))))))))) (pss_one ps_never) pss_nil))) (pss_one (ps_if (pt_cmpR op_lt (pe_callB (lenK (K := K) (by rfl)) rfl T.b_len (by decide +kernel) (pa_cons (pv 1) pa_nil)) (pv 2) (nomark _)) (pss_one ps_never) pss_nil)))))), ?_⟩)
  refine run_N (n := 3) rfl h fun ds r hR => ?_
  obtain ⟨a0, a1, v, h, rfl, rfl⟩ := hR
  unfold m_check_windows at h
  refine ⟨rfl, ([.im (D.tup [(D.int a0.1), (D.tup (List.map (fun (z156 : (Int × Int × (List Int) × Int × Int)) => (D.tup [(D.int z156.1), (D.int z156.2.1), (D.tup (List.map D.int z156.2.2.1)), (D.int z156.2.2.2.1), (D.int z156.2.2.2.2)])) a0.2))]), .im (D.tup (List.map D.int a1)), .an, .an, .an] : List Bd), ?_⟩
  refine sd_env (env2 := ([.im (D.tup [(D.int a0.1), (D.tup (List.map (fun (z157 : (Int × Int × (List Int) × Int × Int)) => (D.tup [(D.int z157.1), (D.int z157.2.1), (D.tup (List.map D.int z157.2.2.1)), (D.int z157.2.2.2.1), (D.int z157.2.2.2.2)])) a0.2))]), .im (D.tup (List.map D.int a1)), .an, .an, .an] : List Bd)) rfl ?_
  obtain ⟨r1, hr1, h⟩ := Option.bind_eq_some_iff.mp h
  refine sd_seq (sd_drop (d := D.non) (l := .l2) (ev_callK (l := .l2) (ds := [(D.tup [(D.int a0.1), (D.tup (List.map (fun (z148 : (Int × Int × (List Int) × Int × Int)) => (D.tup [(D.int z148.1), (D.int z148.2.1), (D.tup (List.map D.int z148.2.2.1)), (D.int z148.2.2.2.1), (D.int z148.2.2.2.2)])) a0.2))])]) (R := R_check_system) (ek_A (ev_im rfl) ek_nil) ⟨a0, r1, hr1, rfl, rfl⟩)) ?_
  refine sd_env (env2 := ([.im (D.tup [(D.int a0.1), (D.tup (List.map (fun (z149 : (Int × Int × (List Int) × Int × Int)) => (D.tup [(D.int z149.1), (D.int z149.2.1), (D.tup (List.map D.int z149.2.2.1)), (D.int z149.2.2.2.1), (D.int z149.2.2.2.2)])) a0.2))]), .im (D.tup (List.map D.int a1)), .an, .an, .an] : List Bd)) (by kernel_rfl) ?_
  refine sd_seq (sd_asg (d := (D.int a0.1)) rfl (ev_opP (l := .l2) (ev_im rfl) ev_int (rv_ixTn 0 rfl))) ?_
  refine sd_env (env2 := ([.im (D.tup [(D.int a0.1), (D.tup (List.map (fun (z150 : (Int × Int × (List Int) × Int × Int)) => (D.tup [(D.int z150.1), (D.int z150.2.1), (D.tup (List.map D.int z150.2.2.1)), (D.int z150.2.2.2.1), (D.int z150.2.2.2.2)])) a0.2))]), .im (D.tup (List.map D.int a1)), .im (D.int a0.1), .an, .an] : List Bd)) (by kernel_rfl) ?_
  refine sd_ifs (eb_not (eb_B (l := .l2) (ev_isi (l := .l2) (ev_im rfl) (show kitB "tuple" "tuple" = some true from by decide +kernel)))) (fun hb => ?_) (fun hb => ?_)
  · replace h := ifT hb h
    cases h
  · replace h := ifF hb h
    refine sd_seqNext ?_
    obtain ⟨y7, hy7, h⟩ := Option.bind_eq_some_iff.mp h
    refine sd_wp' [3, 4] (by kernel_rfl) (env2 := ([.im (D.tup [(D.int a0.1), (D.tup (List.map (fun (z152 : (Int × Int × (List Int) × Int × Int)) => (D.tup [(D.int z152.1), (D.int z152.2.1), (D.tup (List.map D.int z152.2.2.1)), (D.int z152.2.2.2.1), (D.int z152.2.2.2.2)])) a0.2))]), .im (D.tup (List.map D.int a1)), .im (D.int a0.1), .an, .an] : List Bd)) (by kernel_rfl) ?_
    refine sd_seq (sd_for (l := .l2) (o := .nx ([.im (D.tup [(D.int a0.1), (D.tup (List.map (fun (z153 : (Int × Int × (List Int) × Int × Int)) => (D.tup [(D.int z153.1), (D.int z153.2.1), (D.tup (List.map D.int z153.2.2.1)), (D.int z153.2.2.2.1), (D.int z153.2.2.2.2)])) a0.2))]), .im (D.tup (List.map D.int a1)), .im (D.int a0.1), .an, .an] : List Bd)) rfl (ei_enumTT (f := D.int) rfl (ea_consP (ev_im rfl) ea_nil)) (loop_foldN (en := (fun (z154 : (Int × Int)) => (D.tup [(D.int z154.1), (D.int z154.2)]))) (ev := fun (s3 : Unit) => ([.im (D.tup [(D.int a0.1), (D.tup (List.map (fun (z151 : (Int × Int × (List Int) × Int × Int)) => (D.tup [(D.int z151.1), (D.int z151.2.1), (D.tup (List.map D.int z151.2.2.1)), (D.int z151.2.2.2.1), (D.int z151.2.2.2.2)])) a0.2))]), .im (D.tup (List.map D.int a1)), .im (D.int a0.1), .an, .an] : List Bd)) (fun x2 s3 z4 h => ?_) _ () y7 hy7)) ?_
    · refine sdt (tg_tup rfl (tgs_cons (tg_name rfl) (tgs_cons (tg_name rfl) tgs_nil))) ?_
      obtain ⟨c6, hc6, h⟩ := Option.bind_eq_some_iff.mp h
      refine sd_if (eb_orW (c := c6) (eb_test (l := .l2) (ev_opP (l := .l2) (ev_im rfl) (ev_im rfl) rv_ge)) (fun hb => by have wc6 := ifF hb hc6; obtain ⟨r5, hr5, wc6⟩ := Option.bind_eq_some_iff.mp wc6; have wc6 := Option.some.inj wc6; subst wc6; exact (eb_not (eb_B (l := .l2) (ev_callK (l := .l2) (ds := [(D.int x2.2), (D.int (0 : Int)), (D.int (9999 : Int))]) (R := R_is_number_within) (ek_A (ev_im rfl) (ek_A ev_int (ek_A ev_int ek_nil))) ⟨x2.2, (0 : Int), (9999 : Int), r5, hr5, rfl, rfl⟩)))) (fun hb => by have wc6 := ifT hb hc6; exact (Option.some.inj wc6).symm)) (fun hb => ?_) (fun hb => ?_)
      · replace h := ifT hb h
        cases h
      · replace h := ifF hb h
        have h := Option.some.inj h; subst h
        exact sd_nextW [3, 4] (by kernel_rfl) (by kernel_rfl)
    refine sd_if (eb_test (l := .l2) (ev_opP (l := .l2) (ev_cb (l := .l2) (ea_consP (ev_im rfl) ea_nil) (rc_len_tm (f := D.int))) (ev_im rfl) rv_lt)) (fun hb => ?_) (fun hb => ?_)
    · replace h := ifT hb h
      cases h
    · replace h := ifF hb h
      exact sd_nextW [2, 3, 4] (by kernel_rfl) (by kernel_rfl)
/-- deciding_pair -/
def m_deciding_pair (a0 : (List (Int × Int × (List Int) × Int × Int))) (a1 : (List (List Int × Int))) (a2 : (List Int)) : Option (Int × (Option ((Int × Int) × (Int × Int)))) := (List.foldlM (fun (s2 : ((Int × (Option ((Int × Int) × (Int × Int)))))) (x1 : Int) => (List.foldlM (fun (s5 : ((Int × (Option ((Int × Int) × (Int × Int)))))) (x4 : Int) => (atI a0 x1).bind fun x7 => (atI a0 x1).bind fun x8 => (atI a0 x4).bind fun x9 => (getA a1 [x8.1, x9.1]).bind fun x10 => (atI a0 x1).bind fun x11 => (m_longest_way x11).bind fun r12 => (atI a0 x4).bind fun x13 => (m_shortest_way x13).bind fun r14 => if ((decide (s5.1 < ((x10 + r12) - r14))) && (!decide ([x1, ((List.length x7.2.2.1 : Int) - (1 : Int))] = [x4, (0 : Int)]))) = true then (some (((x10 + r12) - r14), (some ((x1, ((List.length x7.2.2.1 : Int) - (1 : Int))), (x4, (0 : Int)))))) else (some s5)) s2 a2).bind fun y15 => some y15) ((0 : Int), (none : (Option ((Int × Int) × (Int × Int))))) a2).bind fun y16 => some y16
def R_deciding_pair : List D → D → Prop := fun ds r => ∃ (a0 : (List (Int × Int × (List Int) × Int × Int))) (a1 : (List (List Int × Int))) (a2 : (List Int)) (v : (Int × (Option ((Int × Int) × (Int × Int))))), m_deciding_pair a0 a1 a2 = some v ∧ ds = [(D.tup (List.map (fun (z188 : (Int × Int × (List Int) × Int × Int)) => (D.tup [(D.int z188.1), (D.int z188.2.1), (D.tup (List.map D.int z188.2.2.1)), (D.int z188.2.2.2.1), (D.int z188.2.2.2.2)])) a0)), (dtL (List.map (fun (z : List Int × Int) => ((z.1.map Sum.inl : List Key), (D.int z.2))) a1)), (D.lst (List.map D.int a2))] ∧ r = (D.tup [(D.int v.1), (encO (fun (z189 : ((Int × Int) × (Int × Int))) => (D.tup [(D.tup [(D.int z189.1.1), (D.int z189.1.2)]), (D.tup [(D.int z189.2.1), (D.int z189.2.2)])])) v.2)])
def nm_deciding_pair : List Str := ["calls", "apart", "indexes", "best", "late", "early", "pair", "between_callers", "found"]
theorem sc_deciding_pair : FnScope ["calls", "apart", "indexes", "best", "late", "early", "pair", "between_callers", "found"] ["calls", "apart", "indexes"] (defScope (top 30)) := ⟨rfl, rfl, rfl, by decide +kernel, rfl, by decide +kernel, by decide +kernel⟩
theorem ok_deciding_pair (T : Tx K mg) : FnOk P w K mg base CX0 2 T.a_deciding_pair T.d_deciding_pair ["calls", "apart", "indexes"] (SpP K [true, true, true] R_deciding_pair) := by
  refine T.F_deciding_pair.ok sc_deciding_pair (SpP.len rfl) (fun cdv A outer s H vs Q E hr h => ⟨_, PSs.nox (pss_cons (ps_set (i := 3) sc_deciding_pair.nd rfl (Or.inl rfl) (pe_tup (pa_cons pe_int (pa_cons pe_non pa_nil)))) (pss_cons (ps_for PassesOwn.never rfl (piListK (K := K) (by rfl) (pv 2)) (pg_name (i := 4) sc_deciding_pair.nd rfl (Or.inl rfl)) (pss_one (ps_for PassesOwn.never rfl (piListK (K := K) (by rfl) (pv 2)) (pg_name (i := 5) sc_deciding_pair.nd rfl (Or.inl rfl)) (pss_cons (ps_set (i := 6) sc_deciding_pair.nd rfl (Or.inl rfl) (pe_tup (pa_cons (pe_tup (pa_cons (pv 4) (pa_cons (pe_op op_sub (pe_callB (lenK (K := K) (by rfl)) rfl T.b_len (by decide +kernel) (pa_cons (pe_ix (ixTK (K := K) (by rfl)) (pe_ix (ixTK (K := K) (by rfl)) (pv 0) (pv 4) (fun _ _ => rfl)) pe_int (fun _ _ => rfl)) pa_nil)) pe_int) pa_nil))) (pa_cons (pe_tup (pa_cons (pv 5) (pa_cons pe_int pa_nil))) pa_nil)))) (pss_cons (ps_set (i := 7) sc_deciding_pair.nd rfl (Or.inl rfl) (pe_dget (hu_of hr) (pv 1) (pe_tup (pa_cons (pe_ix (ixTK (K := K) (by rfl)) (pe_ix (ixTK (K := K) (by rfl)) (pv 0) (pv 4) (fun _ _ => rfl)) pe_int (fun _ _ => rfl)) (pa_cons (pe_ix (ixTK (K := K) (by rfl)) (pe_ix (ixTK (K := K) (by rfl)) (pv 0) (pv 5) (fun _ _ => rfl)) pe_int (fun _ _ => rfl)) pa_nil))) (fun _ _ => rfl))) (pss_cons (ps_set (i := 8) sc_deciding_pair.nd rfl (Or.inl rfl) (pe_op op_sub (pe_op op_add (pv 7) (pe_call (ok_longest_way T) (hr.mono (by decide)) rfl T.g_longest_way T.F_longest_way.kp (T.F_longest_way.bindsN fun _ _ _ _ _ _ us hl => match us, hl with | [_], _ => rfl) .nil pass0 (pa_cons (pe_ix (ixTK (K := K) (by rfl)) (pv 0) (pv 4) (fun _ _ => rfl)) pa_nil))) (pe_call (ok_shortest_way T) (hr.mono (by decide)) rfl T.g_shortest_way T.F_shortest_way.kp (T.F_shortest_way.bindsN fun _ _ _ _ _ _ us hl => match us, hl with | [_], _ => rfl) .nil pass0 (pa_cons (pe_ix (ixTK (K := K) (by rfl)) (pv 0) (pv 5) (fun _ _ => rfl)) pa_nil)))) (pss_one (ps_if (PW.pt (pw_and (pt_cmpR op_gt (pv 8) (pe_ix (ixTK (K := K) (by rfl)) (pv 3) pe_int (fun _ _ => rfl)) (nomark _)) (pw_and1 (pt_cmpR (neDK (K := K) (by rfl) (hu64 hr)) (pe_ix (ixTK (K := K) (by rfl)) (pv 6) pe_int (fun _ _ => rfl)) (pe_ix (ixTK (K := K) (by rfl)) (pv 6) pe_int (fun _ _ => rfl)) (nomark _))))) (pss_one (ps_set (i := 3) sc_deciding_pair.nd rfl (Or.inl rfl) (pe_tup (pa_cons (pv 8) (pa_cons (pv 6) pa_nil))))) pss_nil)))))))) (pss_one (ps_ret (pv 3))))), ?_⟩)
  refine run_P (n := 6) rfl h fun ds r hR => ?_
  obtain ⟨a0, a1, a2, v, h, rfl, rfl⟩ := hR
  unfold m_deciding_pair at h
  refine sd_env (env2 := ([.im (D.tup (List.map (fun (z190 : (Int × Int × (List Int) × Int × Int)) => (D.tup [(D.int z190.1), (D.int z190.2.1), (D.tup (List.map D.int z190.2.2.1)), (D.int z190.2.2.2.1), (D.int z190.2.2.2.2)])) a0)), .im (dtL (List.map (fun (z : List Int × Int) => ((z.1.map Sum.inl : List Key), (D.int z.2))) a1)), .im (D.lst (List.map D.int a2)), .an, .an, .an, .an, .an, .an] : List Bd)) rfl ?_
  refine sd_seq (sd_asg (d := (D.tup [(D.int (0 : Int)), (encO (fun (z158 : ((Int × Int) × (Int × Int))) => (D.tup [(D.tup [(D.int z158.1.1), (D.int z158.1.2)]), (D.tup [(D.int z158.2.1), (D.int z158.2.2)])])) (none : (Option ((Int × Int) × (Int × Int)))))])) rfl (ev_is (ev_tup (ea_consP ev_int (ea_consP ev_non ea_nil)) (show 2 ≤ 1000 from by decide)) (show _ = (D.tup [(D.int (0 : Int)), (encO (fun (z159 : ((Int × Int) × (Int × Int))) => (D.tup [(D.tup [(D.int z159.1.1), (D.int z159.1.2)]), (D.tup [(D.int z159.2.1), (D.int z159.2.2)])])) (none : (Option ((Int × Int) × (Int × Int)))))]) from rfl))) ?_
  refine sd_env (env2 := ([.im (D.tup (List.map (fun (z160 : (Int × Int × (List Int) × Int × Int)) => (D.tup [(D.int z160.1), (D.int z160.2.1), (D.tup (List.map D.int z160.2.2.1)), (D.int z160.2.2.2.1), (D.int z160.2.2.2.2)])) a0)), .im (dtL (List.map (fun (z : List Int × Int) => ((z.1.map Sum.inl : List Key), (D.int z.2))) a1)), .im (D.lst (List.map D.int a2)), .im (D.tup [(D.int (0 : Int)), (encO (fun (z161 : ((Int × Int) × (Int × Int))) => (D.tup [(D.tup [(D.int z161.1.1), (D.int z161.1.2)]), (D.tup [(D.int z161.2.1), (D.int z161.2.2)])])) (none : (Option ((Int × Int) × (Int × Int)))))]), .an, .an, .an, .an, .an] : List Bd)) (by kernel_rfl) ?_
  obtain ⟨y16, hy16, h⟩ := Option.bind_eq_some_iff.mp h
  refine sd_wp' [4, 5, 6, 7, 8] (by kernel_rfl) (env2 := ([.im (D.tup (List.map (fun (z183 : (Int × Int × (List Int) × Int × Int)) => (D.tup [(D.int z183.1), (D.int z183.2.1), (D.tup (List.map D.int z183.2.2.1)), (D.int z183.2.2.2.1), (D.int z183.2.2.2.2)])) a0)), .im (dtL (List.map (fun (z : List Int × Int) => ((z.1.map Sum.inl : List Key), (D.int z.2))) a1)), .im (D.lst (List.map D.int a2)), .im (D.tup [(D.int (0 : Int)), (encO (fun (z184 : ((Int × Int) × (Int × Int))) => (D.tup [(D.tup [(D.int z184.1.1), (D.int z184.1.2)]), (D.tup [(D.int z184.2.1), (D.int z184.2.2)])])) (none : (Option ((Int × Int) × (Int × Int)))))]), .an, .an, .an, .an, .an] : List Bd)) (by kernel_rfl) ?_
  refine sd_seq (sd_for (l := .l2) (o := .nx ([.im (D.tup (List.map (fun (z185 : (Int × Int × (List Int) × Int × Int)) => (D.tup [(D.int z185.1), (D.int z185.2.1), (D.tup (List.map D.int z185.2.2.1)), (D.int z185.2.2.2.1), (D.int z185.2.2.2.2)])) a0)), .im (dtL (List.map (fun (z : List Int × Int) => ((z.1.map Sum.inl : List Key), (D.int z.2))) a1)), .im (D.lst (List.map D.int a2)), .im (D.tup [(D.int y16.1), (encO (fun (z186 : ((Int × Int) × (Int × Int))) => (D.tup [(D.tup [(D.int z186.1.1), (D.int z186.1.2)]), (D.tup [(D.int z186.2.1), (D.int z186.2.2)])])) y16.2)]), .an, .an, .an, .an, .an] : List Bd)) rfl (ei_list rfl (ev_im rfl)) (loop_foldN (en := D.int) (ev := fun (s2 : ((Int × (Option ((Int × Int) × (Int × Int)))))) => ([.im (D.tup (List.map (fun (z181 : (Int × Int × (List Int) × Int × Int)) => (D.tup [(D.int z181.1), (D.int z181.2.1), (D.tup (List.map D.int z181.2.2.1)), (D.int z181.2.2.2.1), (D.int z181.2.2.2.2)])) a0)), .im (dtL (List.map (fun (z : List Int × Int) => ((z.1.map Sum.inl : List Key), (D.int z.2))) a1)), .im (D.lst (List.map D.int a2)), .im (D.tup [(D.int s2.1), (encO (fun (z182 : ((Int × Int) × (Int × Int))) => (D.tup [(D.tup [(D.int z182.1.1), (D.int z182.1.2)]), (D.tup [(D.int z182.2.1), (D.int z182.2.2)])])) s2.2)]), .an, .an, .an, .an, .an] : List Bd)) (fun x1 s2 z3 h => ?_) _ ((0 : Int), (none : (Option ((Int × Int) × (Int × Int))))) y16 hy16)) ?_
  · refine sdt (tg_name rfl) ?_
    obtain ⟨y15, hy15, h⟩ := Option.bind_eq_some_iff.mp h
    refine sd_wp' [5, 6, 7, 8] (by kernel_rfl) (env2 := ([.im (D.tup (List.map (fun (z177 : (Int × Int × (List Int) × Int × Int)) => (D.tup [(D.int z177.1), (D.int z177.2.1), (D.tup (List.map D.int z177.2.2.1)), (D.int z177.2.2.2.1), (D.int z177.2.2.2.2)])) a0)), .im (dtL (List.map (fun (z : List Int × Int) => ((z.1.map Sum.inl : List Key), (D.int z.2))) a1)), .im (D.lst (List.map D.int a2)), .im (D.tup [(D.int s2.1), (encO (fun (z178 : ((Int × Int) × (Int × Int))) => (D.tup [(D.tup [(D.int z178.1.1), (D.int z178.1.2)]), (D.tup [(D.int z178.2.1), (D.int z178.2.2)])])) s2.2)]), .im (D.int x1), .an, .an, .an, .an] : List Bd)) (by kernel_rfl) ?_
    have h := Option.some.inj h; subst h
    refine sd_endW [4, 5, 6, 7, 8] (sd_for (l := .l2) (o := .nx ([.im (D.tup (List.map (fun (z179 : (Int × Int × (List Int) × Int × Int)) => (D.tup [(D.int z179.1), (D.int z179.2.1), (D.tup (List.map D.int z179.2.2.1)), (D.int z179.2.2.2.1), (D.int z179.2.2.2.2)])) a0)), .im (dtL (List.map (fun (z : List Int × Int) => ((z.1.map Sum.inl : List Key), (D.int z.2))) a1)), .im (D.lst (List.map D.int a2)), .im (D.tup [(D.int y15.1), (encO (fun (z180 : ((Int × Int) × (Int × Int))) => (D.tup [(D.tup [(D.int z180.1.1), (D.int z180.1.2)]), (D.tup [(D.int z180.2.1), (D.int z180.2.2)])])) y15.2)]), .im (D.int x1), .an, .an, .an, .an] : List Bd)) rfl (ei_list rfl (ev_im rfl)) (loop_foldN (en := D.int) (ev := fun (s5 : ((Int × (Option ((Int × Int) × (Int × Int)))))) => ([.im (D.tup (List.map (fun (z175 : (Int × Int × (List Int) × Int × Int)) => (D.tup [(D.int z175.1), (D.int z175.2.1), (D.tup (List.map D.int z175.2.2.1)), (D.int z175.2.2.2.1), (D.int z175.2.2.2.2)])) a0)), .im (dtL (List.map (fun (z : List Int × Int) => ((z.1.map Sum.inl : List Key), (D.int z.2))) a1)), .im (D.lst (List.map D.int a2)), .im (D.tup [(D.int s5.1), (encO (fun (z176 : ((Int × Int) × (Int × Int))) => (D.tup [(D.tup [(D.int z176.1.1), (D.int z176.1.2)]), (D.tup [(D.int z176.2.1), (D.int z176.2.2)])])) s5.2)]), .im (D.int x1), .an, .an, .an, .an] : List Bd)) (fun x4 s5 z6 h => ?_) _ s2 y15 hy15)) (by kernel_rfl) (by kernel_rfl)
    · refine sdt (tg_name rfl) ?_
      obtain ⟨x7, hx7, h⟩ := Option.bind_eq_some_iff.mp h
      refine sd_seq (sd_asg (d := (D.tup [(D.tup [(D.int x1), (D.int ((List.length x7.2.2.1 : Int) - (1 : Int)))]), (D.tup [(D.int x4), (D.int (0 : Int))])])) rfl (ev_tup (ea_consP (ev_tup (ea_consP (ev_im rfl) (ea_consP (ev_opP (l := .l2) (ev_cb (l := .l2) (ea_consP (ev_opP (l := .l2) (ev_opP (l := .l2) (ev_im rfl) (ev_im rfl) (rv_ixTm (f := (fun (z162 : (Int × Int × (List Int) × Int × Int)) => (D.tup [(D.int z162.1), (D.int z162.2.1), (D.tup (List.map D.int z162.2.2.1)), (D.int z162.2.2.2.1), (D.int z162.2.2.2.2)]))) (xs := a0) (v := x7) hx7)) ev_int (rv_ixTn 2 rfl)) ea_nil) (rc_len_tm (f := D.int))) ev_int rv_sub) ea_nil)) (show 2 ≤ 1000 from by decide)) (ea_consP (ev_tup (ea_consP (ev_im rfl) (ea_consP ev_int ea_nil)) (show 2 ≤ 1000 from by decide)) ea_nil)) (show 2 ≤ 1000 from by decide))) ?_
      refine sd_env (env2 := ([.im (D.tup (List.map (fun (z163 : (Int × Int × (List Int) × Int × Int)) => (D.tup [(D.int z163.1), (D.int z163.2.1), (D.tup (List.map D.int z163.2.2.1)), (D.int z163.2.2.2.1), (D.int z163.2.2.2.2)])) a0)), .im (dtL (List.map (fun (z : List Int × Int) => ((z.1.map Sum.inl : List Key), (D.int z.2))) a1)), .im (D.lst (List.map D.int a2)), .im (D.tup [(D.int s5.1), (encO (fun (z164 : ((Int × Int) × (Int × Int))) => (D.tup [(D.tup [(D.int z164.1.1), (D.int z164.1.2)]), (D.tup [(D.int z164.2.1), (D.int z164.2.2)])])) s5.2)]), .im (D.int x1), .im (D.int x4), .im (D.tup [(D.tup [(D.int x1), (D.int ((List.length x7.2.2.1 : Int) - (1 : Int)))]), (D.tup [(D.int x4), (D.int (0 : Int))])]), .an, .an] : List Bd)) (by kernel_rfl) ?_
      obtain ⟨x8, hx8, h⟩ := Option.bind_eq_some_iff.mp h
      obtain ⟨x9, hx9, h⟩ := Option.bind_eq_some_iff.mp h
      obtain ⟨x10, hx10, h⟩ := Option.bind_eq_some_iff.mp h
      refine sd_seq (sd_asg (d := (D.int x10)) rfl (ev_dgetTt (f := D.int) (ns := [x8.1, x9.1]) (v := x10) hx10 (ev_im rfl) (ea_consP (ev_opP (l := .l2) (ev_opP (l := .l2) (ev_im rfl) (ev_im rfl) (rv_ixTm (f := (fun (z165 : (Int × Int × (List Int) × Int × Int)) => (D.tup [(D.int z165.1), (D.int z165.2.1), (D.tup (List.map D.int z165.2.2.1)), (D.int z165.2.2.2.1), (D.int z165.2.2.2.2)]))) (xs := a0) (v := x8) hx8)) ev_int (rv_ixTn 0 rfl)) (ea_consP (ev_opP (l := .l2) (ev_opP (l := .l2) (ev_im rfl) (ev_im rfl) (rv_ixTm (f := (fun (z166 : (Int × Int × (List Int) × Int × Int)) => (D.tup [(D.int z166.1), (D.int z166.2.1), (D.tup (List.map D.int z166.2.2.1)), (D.int z166.2.2.2.1), (D.int z166.2.2.2.2)]))) (xs := a0) (v := x9) hx9)) ev_int (rv_ixTn 0 rfl)) ea_nil)) (show 2 ≤ 1000 from by decide))) ?_
      refine sd_env (env2 := ([.im (D.tup (List.map (fun (z167 : (Int × Int × (List Int) × Int × Int)) => (D.tup [(D.int z167.1), (D.int z167.2.1), (D.tup (List.map D.int z167.2.2.1)), (D.int z167.2.2.2.1), (D.int z167.2.2.2.2)])) a0)), .im (dtL (List.map (fun (z : List Int × Int) => ((z.1.map Sum.inl : List Key), (D.int z.2))) a1)), .im (D.lst (List.map D.int a2)), .im (D.tup [(D.int s5.1), (encO (fun (z168 : ((Int × Int) × (Int × Int))) => (D.tup [(D.tup [(D.int z168.1.1), (D.int z168.1.2)]), (D.tup [(D.int z168.2.1), (D.int z168.2.2)])])) s5.2)]), .im (D.int x1), .im (D.int x4), .im (D.tup [(D.tup [(D.int x1), (D.int ((List.length x7.2.2.1 : Int) - (1 : Int)))]), (D.tup [(D.int x4), (D.int (0 : Int))])]), .im (D.int x10), .an] : List Bd)) (by kernel_rfl) ?_
      obtain ⟨x11, hx11, h⟩ := Option.bind_eq_some_iff.mp h
      obtain ⟨r12, hr12, h⟩ := Option.bind_eq_some_iff.mp h
      obtain ⟨x13, hx13, h⟩ := Option.bind_eq_some_iff.mp h
      obtain ⟨r14, hr14, h⟩ := Option.bind_eq_some_iff.mp h
      refine sd_seq (sd_asg (d := (D.int ((x10 + r12) - r14))) rfl (ev_opP (l := .l2) (ev_opP (l := .l2) (ev_im rfl) (ev_callK (l := .l2) (ds := [(D.tup [(D.int x11.1), (D.int x11.2.1), (D.tup (List.map D.int x11.2.2.1)), (D.int x11.2.2.2.1), (D.int x11.2.2.2.2)])]) (R := R_longest_way) (ek_A (ev_opP (l := .l2) (ev_im rfl) (ev_im rfl) (rv_ixTm (f := (fun (z169 : (Int × Int × (List Int) × Int × Int)) => (D.tup [(D.int z169.1), (D.int z169.2.1), (D.tup (List.map D.int z169.2.2.1)), (D.int z169.2.2.2.1), (D.int z169.2.2.2.2)]))) (xs := a0) (v := x11) hx11)) ek_nil) ⟨x11, r12, hr12, rfl, rfl⟩) rv_add) (ev_callK (l := .l2) (ds := [(D.tup [(D.int x13.1), (D.int x13.2.1), (D.tup (List.map D.int x13.2.2.1)), (D.int x13.2.2.2.1), (D.int x13.2.2.2.2)])]) (R := R_shortest_way) (ek_A (ev_opP (l := .l2) (ev_im rfl) (ev_im rfl) (rv_ixTm (f := (fun (z170 : (Int × Int × (List Int) × Int × Int)) => (D.tup [(D.int z170.1), (D.int z170.2.1), (D.tup (List.map D.int z170.2.2.1)), (D.int z170.2.2.2.1), (D.int z170.2.2.2.2)]))) (xs := a0) (v := x13) hx13)) ek_nil) ⟨x13, r14, hr14, rfl, rfl⟩) rv_sub)) ?_
      refine sd_env (env2 := ([.im (D.tup (List.map (fun (z171 : (Int × Int × (List Int) × Int × Int)) => (D.tup [(D.int z171.1), (D.int z171.2.1), (D.tup (List.map D.int z171.2.2.1)), (D.int z171.2.2.2.1), (D.int z171.2.2.2.2)])) a0)), .im (dtL (List.map (fun (z : List Int × Int) => ((z.1.map Sum.inl : List Key), (D.int z.2))) a1)), .im (D.lst (List.map D.int a2)), .im (D.tup [(D.int s5.1), (encO (fun (z172 : ((Int × Int) × (Int × Int))) => (D.tup [(D.tup [(D.int z172.1.1), (D.int z172.1.2)]), (D.tup [(D.int z172.2.1), (D.int z172.2.2)])])) s5.2)]), .im (D.int x1), .im (D.int x4), .im (D.tup [(D.tup [(D.int x1), (D.int ((List.length x7.2.2.1 : Int) - (1 : Int)))]), (D.tup [(D.int x4), (D.int (0 : Int))])]), .im (D.int x10), .im (D.int ((x10 + r12) - r14))] : List Bd)) (by kernel_rfl) ?_
      refine sd_if (eb_and (eb_test (l := .l2) (ev_opP (l := .l2) (ev_im rfl) (ev_opP (l := .l2) (ev_im rfl) ev_int (rv_ixTn 0 rfl)) rv_gt)) (fun _ => (eb_test (l := .l2) (ev_opP (l := .l2) (ev_opP (l := .l2) (ev_im rfl) ev_int (rv_ixTn 0 rfl)) (ev_opP (l := .l2) (ev_im rfl) ev_int (rv_ixTn 1 rfl)) (rv_neTI (xs := [x1, ((List.length x7.2.2.1 : Int) - (1 : Int))]) (ys := [x4, (0 : Int)])))))) (fun hb => ?_) (fun hb => ?_)
      · replace h := ifT hb h
        have h := Option.some.inj h; subst h
        exact sd_endW [5, 6, 7, 8] (sd_asg (d := (D.tup [(D.int ((x10 + r12) - r14)), (encO (fun (z173 : ((Int × Int) × (Int × Int))) => (D.tup [(D.tup [(D.int z173.1.1), (D.int z173.1.2)]), (D.tup [(D.int z173.2.1), (D.int z173.2.2)])])) (some ((x1, ((List.length x7.2.2.1 : Int) - (1 : Int))), (x4, (0 : Int)))))])) rfl (ev_is (ev_tup (ea_consP (ev_im rfl) (ea_consP (ev_im rfl) ea_nil)) (show 2 ≤ 1000 from by decide)) (show _ = (D.tup [(D.int ((x10 + r12) - r14)), (encO (fun (z174 : ((Int × Int) × (Int × Int))) => (D.tup [(D.tup [(D.int z174.1.1), (D.int z174.1.2)]), (D.tup [(D.int z174.2.1), (D.int z174.2.2)])])) (some ((x1, ((List.length x7.2.2.1 : Int) - (1 : Int))), (x4, (0 : Int)))))]) from rfl))) (by kernel_rfl) (by kernel_rfl)
      · replace h := ifF hb h
        have h := Option.some.inj h; subst h
        exact sd_nextW [5, 6, 7, 8] (by kernel_rfl) (by kernel_rfl)
  have h := Option.some.inj h; subst h
  exact (sd_ret (d := (D.tup [(D.int y16.1), (encO (fun (z187 : ((Int × Int) × (Int × Int))) => (D.tup [(D.tup [(D.int z187.1.1), (D.int z187.1.2)]), (D.tup [(D.int z187.2.1), (D.int z187.2.2)])])) y16.2)])) (ev_im rfl))
/-- deciding_pairs -/
def m_deciding_pairs (a0 : (Int × (List (Int × Int × (List Int) × Int × Int)))) : Option (List (Int × (Option ((Int × Int) × (Int × Int))))) := (m_reachable_services a0).bind fun r1 => (m_greatest_differences a0).bind fun r2 => (dictO (fun (x3 : (List Int)) => (getA r2 x3).bind fun x4 => some (x3, x4.1)) (List.map (fun z => z.1) r2)).bind fun dd5 => (rngO 0 a0.1).bind fun x6 => (compO (fun (x7 : Int) => (m_calls_to a0.2 r1 x7).bind fun r8 => (m_deciding_pair a0.2 dd5 r8).bind fun r9 => some (some r9)) x6).bind fun ys10 => some ys10
def R_deciding_pairs : List D → D → Prop := fun ds r => ∃ (a0 : (Int × (List (Int × Int × (List Int) × Int × Int)))) (v : (List (Int × (Option ((Int × Int) × (Int × Int)))))), m_deciding_pairs a0 = some v ∧ ds = [(D.tup [(D.int a0.1), (D.tup (List.map (fun (z210 : (Int × Int × (List Int) × Int × Int)) => (D.tup [(D.int z210.1), (D.int z210.2.1), (D.tup (List.map D.int z210.2.2.1)), (D.int z210.2.2.2.1), (D.int z210.2.2.2.2)])) a0.2))])] ∧ r = (D.lst (List.map (fun (z211 : (Int × (Option ((Int × Int) × (Int × Int))))) => (D.tup [(D.int z211.1), (encO (fun (z212 : ((Int × Int) × (Int × Int))) => (D.tup [(D.tup [(D.int z212.1.1), (D.int z212.1.2)]), (D.tup [(D.int z212.2.1), (D.int z212.2.2)])])) z211.2)])) v))
def nm_deciding_pairs : List Str := ["system", "reached", "table", "apart", "count", "calls", "pair", "service"]
theorem sc_deciding_pairs : FnScope ["system", "reached", "table", "apart", "count", "calls", "pair", "service"] ["system"] (defScope (top 31)) := ⟨rfl, rfl, rfl, by decide +kernel, rfl, by decide +kernel, by decide +kernel⟩
theorem ok_deciding_pairs (T : Tx K mg) : FnOk P w K mg base CX0 8 T.a_deciding_pairs T.d_deciding_pairs ["system"] (SpP K [true] R_deciding_pairs) := by
  refine T.F_deciding_pairs.ok sc_deciding_pairs (SpP.len rfl) (fun cdv A outer s H vs Q E hr h => ⟨_, PSs.nox (pss_cons (ps_set (i := 1) sc_deciding_pairs.nd rfl (Or.inr rfl) (pe_call (ok_reachable_services T) (hr.mono (by decide)) rfl T.g_reachable_services T.F_reachable_services.kp (T.F_reachable_services.bindsN fun _ _ _ _ _ _ us hl => match us, hl with | [_], _ => rfl) .nil pass0 (pa_cons (pv 0) pa_nil))) (pss_cons (ps_asg (pv 0) (pgTupK (K := K) (n := 2) (by rfl) rfl (pgs_cons (pg_name (i := 4) sc_deciding_pairs.nd rfl (Or.inl rfl)) (pgs_cons (pg_name (i := 5) sc_deciding_pairs.nd rfl (Or.inr rfl)) pgs_nil)) (by rfl) (by rfl))) (pss_cons (ps_set (i := 2) sc_deciding_pairs.nd rfl (Or.inr rfl) (pe_call (ok_greatest_differences T) (hr.mono (by decide)) rfl T.g_greatest_differences T.F_greatest_differences.kp (T.F_greatest_differences.bindsN fun _ _ _ _ _ _ us hl => match us, hl with | [_], _ => rfl) .nil pass0 (pa_cons (pv 0) pa_nil))) (pss_cons (ps_set (i := 3) sc_deciding_pairs.nd rfl (Or.inr rfl) (pe_lk (pe_dg (o := .dT []) (own := [("pair", 6)]) (.inr rfl) rfl (hu_of hr) sc_deciding_pairs.nd (pi_keys (pv 2)) (blkOk_by (own := [("pair", 6)]) (N := nm_deciding_pairs) (sc := defScope (top 31)) (by decide +kernel)) (fun _ _ _ _ _ => (pg_name (i := 6) sc_deciding_pairs.nd rfl (Or.inl rfl))) (fun _ _ _ _ _ => pts_nil) (fun _ _ _ _ _ => (pv 6)) (fun _ _ _ _ _ => (pe_ix (ixTK (K := K) (by rfl)) (pe_dget (hu_of hr) (pv 2) (pv 6) (fun _ _ => rfl)) pe_int (fun _ _ => rfl)))))) (pss_one (ps_ret (pe_lc (own := [("service", 7)]) rfl sc_deciding_pairs.nd (pi_range1 rfl T.b_range (pa_cons (pv 4) pa_nil)) (blkOk_by (own := [("service", 7)]) (N := nm_deciding_pairs) (sc := defScope (top 31)) (by decide +kernel)) (fun _ _ _ _ _ => (pg_name (i := 7) sc_deciding_pairs.nd rfl (Or.inl rfl))) (fun _ _ _ _ _ => pts_nil) (fun _ _ _ _ _ => (pe_call (ok_deciding_pair T) (hr.mono (by decide)) rfl T.g_deciding_pair T.F_deciding_pair.kp (T.F_deciding_pair.bindsN fun _ _ _ _ _ _ us hl => match us, hl with | [_, _, _], _ => rfl) .nil pass0 (pa_cons (pv 5) (pa_cons (pv 3) (pa_cons (pe_call (ok_calls_to T) (hr.mono (by decide)) rfl T.g_calls_to T.F_calls_to.kp (T.F_calls_to.bindsN fun _ _ _ _ _ _ us hl => match us, hl with | [_, _, _], _ => rfl) .nil pass0 (pa_cons (pv 5) (pa_cons (pv 1) (pa_cons (pv 7) pa_nil)))) pa_nil)))))))))))), ?_⟩)
  refine run_P (n := 7) rfl h fun ds r hR => ?_
  obtain ⟨a0, v, h, rfl, rfl⟩ := hR
  unfold m_deciding_pairs at h
  refine sd_env (env2 := ([.im (D.tup [(D.int a0.1), (D.tup (List.map (fun (z213 : (Int × Int × (List Int) × Int × Int)) => (D.tup [(D.int z213.1), (D.int z213.2.1), (D.tup (List.map D.int z213.2.2.1)), (D.int z213.2.2.2.1), (D.int z213.2.2.2.2)])) a0.2))]), .an, .an, .an, .an, .an, .an, .an] : List Bd)) rfl ?_
  obtain ⟨r1, hr1, h⟩ := Option.bind_eq_some_iff.mp h
  refine sd_seq (sd_asg (d := (D.lst (List.map D.int r1))) rfl (ev_callK (l := .l2) (ds := [(D.tup [(D.int a0.1), (D.tup (List.map (fun (z191 : (Int × Int × (List Int) × Int × Int)) => (D.tup [(D.int z191.1), (D.int z191.2.1), (D.tup (List.map D.int z191.2.2.1)), (D.int z191.2.2.2.1), (D.int z191.2.2.2.2)])) a0.2))])]) (R := R_reachable_services) (ek_A (ev_im rfl) ek_nil) ⟨a0, r1, hr1, rfl, rfl⟩)) ?_
  refine sd_env (env2 := ([.im (D.tup [(D.int a0.1), (D.tup (List.map (fun (z192 : (Int × Int × (List Int) × Int × Int)) => (D.tup [(D.int z192.1), (D.int z192.2.1), (D.tup (List.map D.int z192.2.2.1)), (D.int z192.2.2.2.1), (D.int z192.2.2.2.2)])) a0.2))]), .im (D.lst (List.map D.int r1)), .an, .an, .an, .an, .an, .an] : List Bd)) (by kernel_rfl) ?_
  refine sd_seq (sd_asgG (l := .l2) (d := (D.tup [(D.int a0.1), (D.tup (List.map (fun (z193 : (Int × Int × (List Int) × Int × Int)) => (D.tup [(D.int z193.1), (D.int z193.2.1), (D.tup (List.map D.int z193.2.2.1)), (D.int z193.2.2.2.1), (D.int z193.2.2.2.2)])) a0.2))])) (ev_im rfl) (tg_tup rfl (tgs_cons (tg_name rfl) (tgs_cons (tg_name rfl) tgs_nil)))) ?_
  refine sd_env (env2 := ([.im (D.tup [(D.int a0.1), (D.tup (List.map (fun (z194 : (Int × Int × (List Int) × Int × Int)) => (D.tup [(D.int z194.1), (D.int z194.2.1), (D.tup (List.map D.int z194.2.2.1)), (D.int z194.2.2.2.1), (D.int z194.2.2.2.2)])) a0.2))]), .im (D.lst (List.map D.int r1)), .an, .an, .im (D.int a0.1), .im (D.tup (List.map (fun (z195 : (Int × Int × (List Int) × Int × Int)) => (D.tup [(D.int z195.1), (D.int z195.2.1), (D.tup (List.map D.int z195.2.2.1)), (D.int z195.2.2.2.1), (D.int z195.2.2.2.2)])) a0.2)), .an, .an] : List Bd)) (by kernel_rfl) ?_
  obtain ⟨r2, hr2, h⟩ := Option.bind_eq_some_iff.mp h
  refine sd_seq (sd_asg (d := (dtL (List.map (fun (z : List Int × (Int × (Option Int))) => ((z.1.map Sum.inl : List Key), (D.tup [(D.int z.2.1), (encO D.int z.2.2)]))) r2))) rfl (ev_callK (l := .l2) (ds := [(D.tup [(D.int a0.1), (D.tup (List.map (fun (z196 : (Int × Int × (List Int) × Int × Int)) => (D.tup [(D.int z196.1), (D.int z196.2.1), (D.tup (List.map D.int z196.2.2.1)), (D.int z196.2.2.2.1), (D.int z196.2.2.2.2)])) a0.2))])]) (R := R_greatest_differences) (ek_A (ev_im rfl) ek_nil) ⟨a0, r2, hr2, rfl, rfl⟩)) ?_
  refine sd_env (env2 := ([.im (D.tup [(D.int a0.1), (D.tup (List.map (fun (z197 : (Int × Int × (List Int) × Int × Int)) => (D.tup [(D.int z197.1), (D.int z197.2.1), (D.tup (List.map D.int z197.2.2.1)), (D.int z197.2.2.2.1), (D.int z197.2.2.2.2)])) a0.2))]), .im (D.lst (List.map D.int r1)), .im (dtL (List.map (fun (z : List Int × (Int × (Option Int))) => ((z.1.map Sum.inl : List Key), (D.tup [(D.int z.2.1), (encO D.int z.2.2)]))) r2)), .an, .im (D.int a0.1), .im (D.tup (List.map (fun (z198 : (Int × Int × (List Int) × Int × Int)) => (D.tup [(D.int z198.1), (D.int z198.2.1), (D.tup (List.map D.int z198.2.2.1)), (D.int z198.2.2.2.1), (D.int z198.2.2.2.2)])) a0.2)), .an, .an] : List Bd)) (by kernel_rfl) ?_
  obtain ⟨dd5, hdd5, h⟩ := Option.bind_eq_some_iff.mp h
  refine sd_seq (sd_asg (d := (dtL (List.map (fun (z : List Int × Int) => ((z.1.map Sum.inl : List Key), (D.int z.2))) dd5))) rfl (ef_ev (ef_lk rfl rfl (ef_dictT (l := .l2) (en := (fun (z199 : (List Int)) => (D.tup (List.map D.int z199)))) (eb := D.int) hdd5 rfl (ei_keysTt (f := (fun (z201 : (Int × (Option Int))) => (D.tup [(D.int z201.1), (encO D.int z201.2)]))) (l1 := r2) rfl) (tw_name (i := 6) (vs := [6]) (by decide)) (anC (v := 6) rfl anN) (fun x3 kv wdd5 => by obtain ⟨x4, hx4, wdd5⟩ := Option.bind_eq_some_iff.mp wdd5; have wdd5 := Option.some.inj wdd5; subst wdd5; exact turnK (tg_name rfl) (ev_im rfl) (ev_opP (l := .l2) (ev_dgetVt (l' := .l2) (f := (fun (z200 : (Int × (Option Int))) => (D.tup [(D.int z200.1), (encO D.int z200.2)]))) (ns := x3) (v := x4) hx4 (ev_im rfl) (ev_im rfl)) ev_int (rv_ixTn 0 rfl)) rfl rfl)) (fun _ _ _ hf h => h hf)))) ?_
  refine sd_env (env2 := ([.im (D.tup [(D.int a0.1), (D.tup (List.map (fun (z202 : (Int × Int × (List Int) × Int × Int)) => (D.tup [(D.int z202.1), (D.int z202.2.1), (D.tup (List.map D.int z202.2.2.1)), (D.int z202.2.2.2.1), (D.int z202.2.2.2.2)])) a0.2))]), .im (D.lst (List.map D.int r1)), .im (dtL (List.map (fun (z : List Int × (Int × (Option Int))) => ((z.1.map Sum.inl : List Key), (D.tup [(D.int z.2.1), (encO D.int z.2.2)]))) r2)), .im (dtL (List.map (fun (z : List Int × Int) => ((z.1.map Sum.inl : List Key), (D.int z.2))) dd5)), .im (D.int a0.1), .im (D.tup (List.map (fun (z203 : (Int × Int × (List Int) × Int × Int)) => (D.tup [(D.int z203.1), (D.int z203.2.1), (D.tup (List.map D.int z203.2.2.1)), (D.int z203.2.2.2.1), (D.int z203.2.2.2.2)])) a0.2)), .an, .an] : List Bd)) (by kernel_rfl) ?_
  obtain ⟨x6, hx6, h⟩ := Option.bind_eq_some_iff.mp h
  obtain ⟨ys10, hys10, h⟩ := Option.bind_eq_some_iff.mp h
  have h := Option.some.inj h; subst h
  exact (sd_ret (d := (D.lst (List.map (fun (z208 : (Int × (Option ((Int × Int) × (Int × Int))))) => (D.tup [(D.int z208.1), (encO (fun (z209 : ((Int × Int) × (Int × Int))) => (D.tup [(D.tup [(D.int z209.1.1), (D.int z209.1.2)]), (D.tup [(D.int z209.2.1), (D.int z209.2.2)])])) z208.2)])) ys10))) (ef_ev (ef_lcO (l := .l2) (en := D.int) (eb := (fun (z206 : (Int × (Option ((Int × Int) × (Int × Int))))) => (D.tup [(D.int z206.1), (encO (fun (z207 : ((Int × Int) × (Int × Int))) => (D.tup [(D.tup [(D.int z207.1.1), (D.int z207.1.2)]), (D.tup [(D.int z207.2.1), (D.int z207.2.2)])])) z206.2)]))) hys10 rfl (ei_rng1T (l' := .l2) hx6 (ea_consP (ev_im rfl) ea_nil)) (tw_name (i := 7) (vs := [7]) (by decide)) (anC (v := 7) rfl anN) (fun x7 rr wys10 => by obtain ⟨r8, hr8, wys10⟩ := Option.bind_eq_some_iff.mp wys10; obtain ⟨r9, hr9, wys10⟩ := Option.bind_eq_some_iff.mp wys10; have wys10 := Option.some.inj wys10; subst wys10; exact turn_yes (tg_name rfl) eb_yes (ev_callK (l := .l2) (ds := [(D.tup (List.map (fun (z205 : (Int × Int × (List Int) × Int × Int)) => (D.tup [(D.int z205.1), (D.int z205.2.1), (D.tup (List.map D.int z205.2.2.1)), (D.int z205.2.2.2.1), (D.int z205.2.2.2.2)])) a0.2)), (dtL (List.map (fun (z : List Int × Int) => ((z.1.map Sum.inl : List Key), (D.int z.2))) dd5)), (D.lst (List.map D.int r8))]) (R := R_deciding_pair) (ek_A (ev_im rfl) (ek_A (ev_im rfl) (ek_A (ev_callK (l := .l2) (ds := [(D.tup (List.map (fun (z204 : (Int × Int × (List Int) × Int × Int)) => (D.tup [(D.int z204.1), (D.int z204.2.1), (D.tup (List.map D.int z204.2.2.1)), (D.int z204.2.2.2.1), (D.int z204.2.2.2.2)])) a0.2)), (D.lst (List.map D.int r1)), (D.int x7)]) (R := R_calls_to) (ek_A (ev_im rfl) (ek_R (ev_im rfl) (ek_A (ev_im rfl) ek_nil))) ⟨a0.2, r1, x7, r8, hr8, rfl, rfl⟩) ek_nil))) ⟨a0.2, dd5, r8, r9, hr9, rfl, rfl⟩) rfl rfl rfl (anC (v := 7) rfl anN)))))
/-- least_windows -/
def m_least_windows (a0 : (Int × (List (Int × Int × (List Int) × Int × Int)))) : Option (List Int) := (m_deciding_pairs a0).bind fun r1 => (compO (fun (x2 : (Int × (Option ((Int × Int) × (Int × Int))))) => some (some x2.1)) r1).bind fun ys3 => some ys3
def R_least_windows : List D → D → Prop := fun ds r => ∃ (a0 : (Int × (List (Int × Int × (List Int) × Int × Int)))) (v : (List Int)), m_least_windows a0 = some v ∧ ds = [(D.tup [(D.int a0.1), (D.tup (List.map (fun (z217 : (Int × Int × (List Int) × Int × Int)) => (D.tup [(D.int z217.1), (D.int z217.2.1), (D.tup (List.map D.int z217.2.2.1)), (D.int z217.2.2.2.1), (D.int z217.2.2.2.2)])) a0.2))])] ∧ r = (D.tup (List.map D.int v))
def nm_least_windows : List Str := ["system", "window", "_"]
theorem sc_least_windows : FnScope ["system", "window", "_"] ["system"] (defScope (top 32)) := ⟨rfl, rfl, rfl, by decide +kernel, rfl, by decide +kernel, by decide +kernel⟩
theorem ok_least_windows (T : Tx K mg) : FnOk P w K mg base CX0 9 T.a_least_windows T.d_least_windows ["system"] (SpP K [true] R_least_windows) := by
  refine T.F_least_windows.ok sc_least_windows (SpP.len rfl) (fun cdv A outer s H vs Q E hr h => ⟨_, PSs.nox (pss_one (ps_ret (pe_callTy (tupK (K := K) (by rfl)) rfl T.b_tuple (by decide +kernel) (pa_cons (pe_lc (own := [("window", 1), ("_", 2)]) rfl sc_least_windows.nd (piListK (K := K) (by rfl) (pe_call (ok_deciding_pairs T) (hr.mono (by decide)) rfl T.g_deciding_pairs T.F_deciding_pairs.kp (T.F_deciding_pairs.bindsN fun _ _ _ _ _ _ us hl => match us, hl with | [_], _ => rfl) .nil pass0 (pa_cons (pv 0) pa_nil))) (blkOk_by (own := [("window", 1), ("_", 2)]) (N := nm_least_windows) (sc := defScope (top 32)) (by decide +kernel)) (fun _ _ _ _ _ => (pgTupK (K := K) (n := 2) (by rfl) rfl (pgs_cons (pg_name (i := 1) sc_least_windows.nd rfl (Or.inl rfl)) (pgs_cons (pg_name (i := 2) sc_least_windows.nd rfl (Or.inl rfl)) pgs_nil)) (by rfl) (by rfl))) (fun _ _ _ _ _ => pts_nil) (fun _ _ _ _ _ => (pv 1))) pa_nil)))), ?_⟩)
  refine run_P (n := 2) rfl h fun ds r hR => ?_
  obtain ⟨a0, v, h, rfl, rfl⟩ := hR
  unfold m_least_windows at h
  refine sd_env (env2 := ([.im (D.tup [(D.int a0.1), (D.tup (List.map (fun (z218 : (Int × Int × (List Int) × Int × Int)) => (D.tup [(D.int z218.1), (D.int z218.2.1), (D.tup (List.map D.int z218.2.2.1)), (D.int z218.2.2.2.1), (D.int z218.2.2.2.2)])) a0.2))]), .an, .an] : List Bd)) rfl ?_
  obtain ⟨r1, hr1, h⟩ := Option.bind_eq_some_iff.mp h
  obtain ⟨ys3, hys3, h⟩ := Option.bind_eq_some_iff.mp h
  have h := Option.some.inj h; subst h
  exact (sd_ret (d := (D.tup (List.map D.int ys3))) (ev_tuple_of (ea_consP (ef_ev (ef_lcO (l := .l2) (en := (fun (z215 : (Int × (Option ((Int × Int) × (Int × Int))))) => (D.tup [(D.int z215.1), (encO (fun (z216 : ((Int × Int) × (Int × Int))) => (D.tup [(D.tup [(D.int z216.1.1), (D.int z216.1.2)]), (D.tup [(D.int z216.2.1), (D.int z216.2.2)])])) z215.2)]))) (eb := D.int) hys3 rfl (ei_list rfl (ev_callK (l := .l2) (ds := [(D.tup [(D.int a0.1), (D.tup (List.map (fun (z214 : (Int × Int × (List Int) × Int × Int)) => (D.tup [(D.int z214.1), (D.int z214.2.1), (D.tup (List.map D.int z214.2.2.1)), (D.int z214.2.2.2.1), (D.int z214.2.2.2.2)])) a0.2))])]) (R := R_deciding_pairs) (ek_A (ev_im rfl) ek_nil) ⟨a0, r1, hr1, rfl, rfl⟩)) (tw_tup (tws_cons (tw_name (i := 1) (vs := [1, 2]) (by decide)) (tws_cons (tw_name (i := 2) (vs := [1, 2]) (by decide)) tws_nil))) (anC (v := 1) rfl (anC (v := 2) rfl anN)) (fun x2 rr wys3 => by have wys3 := Option.some.inj wys3; subst wys3; exact turn_yes (tg_tup rfl (tgs_cons (tg_name rfl) (tgs_cons (tg_name rfl) tgs_nil))) eb_yes (ev_im rfl) rfl rfl rfl (anC (v := 1) rfl (anC (v := 2) rfl anN))))) ea_nil)))
/-- memory_spans -/
def m_memory_spans (a0 : (Int × (List (Int × Int × (List Int) × Int × Int)))) (a1 : (List Int)) : Option (List (Int × Int)) := (m_act_times a0).bind fun r1 => (dictO (fun (x2 : Int) => (atI a1 x2).bind fun x3 => (getA r1 x2).bind fun x4 => (getA r1 x2).bind fun x5 => some (x2, ((x3 + x4.2) - x5.1))) (List.map (fun z => z.1) r1)).bind fun dd6 => some dd6
def R_memory_spans : List D → D → Prop := fun ds r => ∃ (a0 : (Int × (List (Int × Int × (List Int) × Int × Int)))) (a1 : (List Int)) (v : (List (Int × Int))), m_memory_spans a0 a1 = some v ∧ ds = [(D.tup [(D.int a0.1), (D.tup (List.map (fun (z224 : (Int × Int × (List Int) × Int × Int)) => (D.tup [(D.int z224.1), (D.int z224.2.1), (D.tup (List.map D.int z224.2.2.1)), (D.int z224.2.2.2.1), (D.int z224.2.2.2.2)])) a0.2))]), (D.tup (List.map D.int a1))] ∧ r = (dkL (List.map (fun (z : Int × Int) => ((Sum.inl z.1 : Key), (D.int z.2))) v))
def nm_memory_spans : List Str := ["system", "windows", "times", "service"]
theorem sc_memory_spans : FnScope ["system", "windows", "times", "service"] ["system", "windows"] (defScope (top 33)) := ⟨rfl, rfl, rfl, by decide +kernel, rfl, by decide +kernel, by decide +kernel⟩
theorem ok_memory_spans (T : Tx K mg) : FnOk P w K mg base CX0 9 T.a_memory_spans T.d_memory_spans ["system", "windows"] (SpF K [true, true] R_memory_spans) := by
  refine T.F_memory_spans.ok sc_memory_spans (SpF.len rfl) (fun cdv A outer s H vs Q E hr h => ⟨_, PSs.nox (pss_cons (ps_set (i := 2) sc_memory_spans.nd rfl (Or.inr rfl) (pe_call (ok_act_times T) (hr.mono (by decide)) rfl T.g_act_times T.F_act_times.kp (T.F_act_times.bindsN fun _ _ _ _ _ _ us hl => match us, hl with | [_], _ => rfl) .nil pass0 (pa_cons (pv 0) pa_nil))) (pss_one (ps_ret (pe_lk (pe_dg (o := .dK []) (own := [("service", 3)]) (.inl rfl) rfl (hu_of hr) sc_memory_spans.nd (pi_keys (pv 2)) (blkOk_by (own := [("service", 3)]) (N := nm_memory_spans) (sc := defScope (top 33)) (by decide +kernel)) (fun _ _ _ _ _ => (pg_name (i := 3) sc_memory_spans.nd rfl (Or.inl rfl))) (fun _ _ _ _ _ => pts_nil) (fun _ _ _ _ _ => (pv 3)) (fun _ _ _ _ _ => (pe_op op_sub (pe_op op_add (pe_ix (ixTK (K := K) (by rfl)) (pv 1) (pv 3) (fun _ _ => rfl)) (pe_ix (ixTK (K := K) (by rfl)) (pe_dget (hu_of hr) (pv 2) (pv 3) (fun _ _ => rfl)) pe_int (fun _ _ => rfl))) (pe_ix (ixTK (K := K) (by rfl)) (pe_dget (hu_of hr) (pv 2) (pv 3) (fun _ _ => rfl)) pe_int (fun _ _ => rfl))))))))), ?_⟩)
  refine run_F (n := 2) rfl h fun ds r hR => ?_
  obtain ⟨a0, a1, v, h, rfl, rfl⟩ := hR
  unfold m_memory_spans at h
  refine sd_env (env2 := ([.im (D.tup [(D.int a0.1), (D.tup (List.map (fun (z225 : (Int × Int × (List Int) × Int × Int)) => (D.tup [(D.int z225.1), (D.int z225.2.1), (D.tup (List.map D.int z225.2.2.1)), (D.int z225.2.2.2.1), (D.int z225.2.2.2.2)])) a0.2))]), .im (D.tup (List.map D.int a1)), .an, .an] : List Bd)) rfl ?_
  obtain ⟨r1, hr1, h⟩ := Option.bind_eq_some_iff.mp h
  refine sd_seq (sd_asg (d := (dkL (List.map (fun (z : Int × (Int × Int)) => ((Sum.inl z.1 : Key), (D.tup [(D.int z.2.1), (D.int z.2.2)]))) r1))) rfl (ev_callK (l := .l2) (ds := [(D.tup [(D.int a0.1), (D.tup (List.map (fun (z219 : (Int × Int × (List Int) × Int × Int)) => (D.tup [(D.int z219.1), (D.int z219.2.1), (D.tup (List.map D.int z219.2.2.1)), (D.int z219.2.2.2.1), (D.int z219.2.2.2.2)])) a0.2))])]) (R := R_act_times) (ek_A (ev_im rfl) ek_nil) ⟨a0, r1, hr1, rfl, rfl⟩)) ?_
  refine sd_env (env2 := ([.im (D.tup [(D.int a0.1), (D.tup (List.map (fun (z220 : (Int × Int × (List Int) × Int × Int)) => (D.tup [(D.int z220.1), (D.int z220.2.1), (D.tup (List.map D.int z220.2.2.1)), (D.int z220.2.2.2.1), (D.int z220.2.2.2.2)])) a0.2))]), .im (D.tup (List.map D.int a1)), .im (dkL (List.map (fun (z : Int × (Int × Int)) => ((Sum.inl z.1 : Key), (D.tup [(D.int z.2.1), (D.int z.2.2)]))) r1)), .an] : List Bd)) (by kernel_rfl) ?_
  obtain ⟨dd6, hdd6, h⟩ := Option.bind_eq_some_iff.mp h
  have h := Option.some.inj h; subst h
  exact (sd_retF (d := (dkL (List.map (fun (z : Int × Int) => ((Sum.inl z.1 : Key), (D.int z.2))) dd6))) (ef_lk rfl rfl (ef_dictK (l := .l2) (en := D.int) (eb := D.int) hdd6 rfl (ei_keysKt (f := (fun (z223 : (Int × Int)) => (D.tup [(D.int z223.1), (D.int z223.2)]))) (l1 := r1) rfl) (tw_name (i := 3) (vs := [3]) (by decide)) (anC (v := 3) rfl anN) (fun x2 kv wdd6 => by obtain ⟨x3, hx3, wdd6⟩ := Option.bind_eq_some_iff.mp wdd6; obtain ⟨x4, hx4, wdd6⟩ := Option.bind_eq_some_iff.mp wdd6; obtain ⟨x5, hx5, wdd6⟩ := Option.bind_eq_some_iff.mp wdd6; have wdd6 := Option.some.inj wdd6; subst wdd6; exact turnK (tg_name rfl) (ev_im rfl) (ev_opP (l := .l2) (ev_opP (l := .l2) (ev_opP (l := .l2) (ev_im rfl) (ev_im rfl) (rv_ixTm (f := D.int) (xs := a1) (v := x3) hx3)) (ev_opP (l := .l2) (ev_dgetKt (f := (fun (z221 : (Int × Int)) => (D.tup [(D.int z221.1), (D.int z221.2)]))) (v := x4) hx4 (ev_im rfl) (ev_im rfl)) ev_int (rv_ixTn 1 rfl)) rv_add) (ev_opP (l := .l2) (ev_dgetKt (f := (fun (z222 : (Int × Int)) => (D.tup [(D.int z222.1), (D.int z222.2)]))) (v := x5) hx5 (ev_im rfl) (ev_im rfl)) ev_int (rv_ixTn 0 rfl)) rv_sub) rfl rfl)) (fun _ _ _ hf h => h hf)))
/-- least_reuse_time -/
def m_least_reuse_time (a0 : (Int × (List (Int × Int × (List Int) × Int × Int)))) (a1 : (List Int)) : Option Int := (m_check_windows a0 a1).bind fun r1 => (m_memory_spans a0 a1).bind fun r2 => (maxI (List.map (fun z => z.2) r2)).bind fun x3 => some (x3 + (1 : Int))
def R_least_reuse_time : List D → D → Prop := fun ds r => ∃ (a0 : (Int × (List (Int × Int × (List Int) × Int × Int)))) (a1 : (List Int)) (v : Int), m_least_reuse_time a0 a1 = some v ∧ ds = [(D.tup [(D.int a0.1), (D.tup (List.map (fun (z229 : (Int × Int × (List Int) × Int × Int)) => (D.tup [(D.int z229.1), (D.int z229.2.1), (D.tup (List.map D.int z229.2.2.1)), (D.int z229.2.2.2.1), (D.int z229.2.2.2.2)])) a0.2))]), (D.tup (List.map D.int a1))] ∧ r = (D.int v)
def nm_least_reuse_time : List Str := ["system", "windows"]
theorem sc_least_reuse_time : FnScope ["system", "windows"] ["system", "windows"] (defScope (top 35)) := ⟨rfl, rfl, rfl, by decide +kernel, rfl, by decide +kernel, by decide +kernel⟩
theorem ok_least_reuse_time (T : Tx K mg) : FnOk P w K mg base CX0 10 T.a_least_reuse_time T.d_least_reuse_time ["system", "windows"] (SpP K [true, true] R_least_reuse_time) := by
  refine T.F_least_reuse_time.ok sc_least_reuse_time (SpP.len rfl) (fun cdv A outer s H vs Q E hr h => ⟨_, PSs.nox (pss_cons (ps_expr (pe_call (ok_check_windows T) (hr.mono (by decide)) rfl T.g_check_windows T.F_check_windows.kp (T.F_check_windows.bindsN fun _ _ _ _ _ _ us hl => match us, hl with | [_, _], _ => rfl) .nil pass0 (pa_cons (pv 0) (pa_cons (pv 1) pa_nil)))) (pss_one (ps_ret (pe_op op_add (pe_maxVals rfl rfl T.b_max (pe_call (ok_memory_spans T) (hr.mono (by decide)) rfl T.g_memory_spans T.F_memory_spans.kp (T.F_memory_spans.bindsN fun _ _ _ _ _ _ us hl => match us, hl with | [_, _], _ => rfl) .nil pass0 (pa_cons (pv 0) (pa_cons (pv 1) pa_nil)))) pe_int)))), ?_⟩)
  refine run_P (n := 0) rfl h fun ds r hR => ?_
  obtain ⟨a0, a1, v, h, rfl, rfl⟩ := hR
  unfold m_least_reuse_time at h
  refine sd_env (env2 := ([.im (D.tup [(D.int a0.1), (D.tup (List.map (fun (z230 : (Int × Int × (List Int) × Int × Int)) => (D.tup [(D.int z230.1), (D.int z230.2.1), (D.tup (List.map D.int z230.2.2.1)), (D.int z230.2.2.2.1), (D.int z230.2.2.2.2)])) a0.2))]), .im (D.tup (List.map D.int a1))] : List Bd)) rfl ?_
  obtain ⟨r1, hr1, h⟩ := Option.bind_eq_some_iff.mp h
  refine sd_seq (sd_drop (d := D.non) (l := .l2) (ev_callK (l := .l2) (ds := [(D.tup [(D.int a0.1), (D.tup (List.map (fun (z226 : (Int × Int × (List Int) × Int × Int)) => (D.tup [(D.int z226.1), (D.int z226.2.1), (D.tup (List.map D.int z226.2.2.1)), (D.int z226.2.2.2.1), (D.int z226.2.2.2.2)])) a0.2))]), (D.tup (List.map D.int a1))]) (R := R_check_windows) (ek_A (ev_im rfl) (ek_A (ev_im rfl) ek_nil)) ⟨a0, a1, r1, hr1, rfl, rfl⟩)) ?_
  refine sd_env (env2 := ([.im (D.tup [(D.int a0.1), (D.tup (List.map (fun (z227 : (Int × Int × (List Int) × Int × Int)) => (D.tup [(D.int z227.1), (D.int z227.2.1), (D.tup (List.map D.int z227.2.2.1)), (D.int z227.2.2.2.1), (D.int z227.2.2.2.2)])) a0.2))]), .im (D.tup (List.map D.int a1))] : List Bd)) (by kernel_rfl) ?_
  obtain ⟨r2, hr2, h⟩ := Option.bind_eq_some_iff.mp h
  obtain ⟨x3, hx3, h⟩ := Option.bind_eq_some_iff.mp h
  have h := Option.some.inj h; subst h
  exact (sd_ret (d := (D.int (x3 + (1 : Int)))) (ev_opP (l := .l2) (ev_maxVals (l := .l2) hx3 (ef_ev (ef_callA (ks := [true, true]) (ds := [(D.tup [(D.int a0.1), (D.tup (List.map (fun (z228 : (Int × Int × (List Int) × Int × Int)) => (D.tup [(D.int z228.1), (D.int z228.2.1), (D.tup (List.map D.int z228.2.2.1)), (D.int z228.2.2.2.1), (D.int z228.2.2.2.2)])) a0.2))]), (D.tup (List.map D.int a1))]) (R := R_memory_spans) rfl (ea_consP (ev_im rfl) (ea_consP (ev_im rfl) ea_nil)) ⟨a0, a1, r2, hr2, rfl, rfl⟩))) ev_int rv_add))
/-- reuse_conflict -/
def m_reuse_conflict (a0 : (Int × (List (Int × Int × (List Int) × Int × Int)))) (a1 : (List Int)) : Option (Int × (List (Int × Int × Int × Int × Int))) := (m_check_windows a0 a1).bind fun r1 => (m_memory_spans a0 a1).bind fun r2 => (maxI (List.map (fun z => z.2) r2)).bind fun x3 => (compO (fun (x4 : Int) => (getA r2 x4).bind fun x5 => if (decide (x5 = x3)) = true then some (some x4) else some none) (List.map (fun z => z.1) r2)).bind fun ys6 => (minI ys6).bind fun x7 => (m_difference_schedule a0 x7 (0 : Int)).bind fun r8 => (m_difference_schedule a0 (0 : Int) x7).bind fun r9 => (compO (fun (x10 : (Int × Int × Int × Int × Int)) => some (some ((1 : Int), x10.2.1, x10.2.2.1, x10.2.2.2.1, x10.2.2.2.2))) r9).bind fun ys11 => (catO r8 ys11).bind fun x12 => some (x7, x12)
def R_reuse_conflict : List D → D → Prop := fun ds r => ∃ (a0 : (Int × (List (Int × Int × (List Int) × Int × Int)))) (a1 : (List Int)) (v : (Int × (List (Int × Int × Int × Int × Int)))), m_reuse_conflict a0 a1 = some v ∧ ds = [(D.tup [(D.int a0.1), (D.tup (List.map (fun (z250 : (Int × Int × (List Int) × Int × Int)) => (D.tup [(D.int z250.1), (D.int z250.2.1), (D.tup (List.map D.int z250.2.2.1)), (D.int z250.2.2.2.1), (D.int z250.2.2.2.2)])) a0.2))]), (D.tup (List.map D.int a1))] ∧ r = (D.tup [(D.int v.1), (D.lst (List.map (fun (z251 : (Int × Int × Int × Int × Int)) => (D.tup [(D.int z251.1), (D.int z251.2.1), (D.int z251.2.2.1), (D.int z251.2.2.2.1), (D.int z251.2.2.2.2)])) v.2))])
def nm_reuse_conflict : List Str := ["system", "windows", "spans", "longest", "service", "first", "second", "reached", "_", "act", "call", "attempt", "delay"]
theorem sc_reuse_conflict : FnScope ["system", "windows", "spans", "longest", "service", "first", "second", "reached", "_", "act", "call", "attempt", "delay"] ["system", "windows"] (defScope (top 36)) := ⟨rfl, rfl, rfl, by decide +kernel, rfl, by decide +kernel, by decide +kernel⟩
theorem ok_reuse_conflict (T : Tx K mg) : FnOk P w K mg base CX0 10 T.a_reuse_conflict T.d_reuse_conflict ["system", "windows"] (SpP K [true, true] R_reuse_conflict) := by
  refine T.F_reuse_conflict.ok sc_reuse_conflict (SpP.len rfl) (fun cdv A outer s H vs Q E hr h => ⟨_, PSs.nox (pss_cons (ps_expr (pe_call (ok_check_windows T) (hr.mono (by decide)) rfl T.g_check_windows T.F_check_windows.kp (T.F_check_windows.bindsN fun _ _ _ _ _ _ us hl => match us, hl with | [_, _], _ => rfl) .nil pass0 (pa_cons (pv 0) (pa_cons (pv 1) pa_nil)))) (pss_cons (ps_set (i := 2) sc_reuse_conflict.nd rfl (Or.inr rfl) (pe_call (ok_memory_spans T) (hr.mono (by decide)) rfl T.g_memory_spans T.F_memory_spans.kp (T.F_memory_spans.bindsN fun _ _ _ _ _ _ us hl => match us, hl with | [_, _], _ => rfl) .nil pass0 (pa_cons (pv 0) (pa_cons (pv 1) pa_nil)))) (pss_cons (ps_set (i := 3) sc_reuse_conflict.nd rfl (Or.inr rfl) (pe_maxVals rfl rfl T.b_max (pv 2))) (pss_cons (ps_set (i := 4) sc_reuse_conflict.nd rfl (Or.inl rfl) (pe_callB (minLK (K := K) (by rfl) rfl) rfl T.b_min (by decide +kernel) (pa_cons (pe_lk (pe_lc (own := [("reached", 7)]) rfl sc_reuse_conflict.nd (pi_keys (pv 2)) (blkOk_by (own := [("reached", 7)]) (N := nm_reuse_conflict) (sc := defScope (top 36)) (by decide +kernel)) (fun _ _ _ _ _ => (pg_name (i := 7) sc_reuse_conflict.nd rfl (Or.inl rfl))) (fun _ _ _ _ _ => (pts_one (pt_cmpR op_eq (pe_dget (hu_of hr) (pv 2) (pv 7) (fun _ _ => rfl)) (pv 3) (nomark _)))) (fun _ _ _ _ _ => (pv 7)))) pa_nil))) (pss_cons (ps_set (i := 5) sc_reuse_conflict.nd rfl (Or.inl rfl) (pe_call (ok_difference_schedule T) (hr.mono (by decide)) rfl T.g_difference_schedule T.F_difference_schedule.kp (T.F_difference_schedule.bindsN fun _ _ _ _ _ _ us hl => match us, hl with | [_, _, _], _ => rfl) .nil pass0 (pa_cons (pv 0) (pa_cons (pv 4) (pa_cons pe_int pa_nil))))) (pss_cons (ps_set (i := 6) sc_reuse_conflict.nd rfl (Or.inl rfl) (pe_call (ok_difference_schedule T) (hr.mono (by decide)) rfl T.g_difference_schedule T.F_difference_schedule.kp (T.F_difference_schedule.bindsN fun _ _ _ _ _ _ us hl => match us, hl with | [_, _, _], _ => rfl) .nil pass0 (pa_cons (pv 0) (pa_cons pe_int (pa_cons (pv 4) pa_nil))))) (pss_one (ps_ret (pe_tup (pa_cons (pv 4) (pa_cons (pe_op (catLK (K := K) (by rfl)) (pv 5) (pe_lc (own := [("_", 8), ("act", 9), ("call", 10), ("attempt", 11), ("delay", 12)]) rfl sc_reuse_conflict.nd (piListK (K := K) (by rfl) (pv 6)) (blkOk_by (own := [("_", 8), ("act", 9), ("call", 10), ("attempt", 11), ("delay", 12)]) (N := nm_reuse_conflict) (sc := defScope (top 36)) (by decide +kernel)) (fun _ _ _ _ _ => (pgTupK (K := K) (n := 5) (by rfl) rfl (pgs_cons (pg_name (i := 8) sc_reuse_conflict.nd rfl (Or.inl rfl)) (pgs_cons (pg_name (i := 9) sc_reuse_conflict.nd rfl (Or.inl rfl)) (pgs_cons (pg_name (i := 10) sc_reuse_conflict.nd rfl (Or.inl rfl)) (pgs_cons (pg_name (i := 11) sc_reuse_conflict.nd rfl (Or.inl rfl)) (pgs_cons (pg_name (i := 12) sc_reuse_conflict.nd rfl (Or.inl rfl)) pgs_nil))))) (by rfl) (by rfl))) (fun _ _ _ _ _ => pts_nil) (fun _ _ _ _ _ => (pe_tup (pa_cons pe_int (pa_cons (pv 9) (pa_cons (pv 10) (pa_cons (pv 11) (pa_cons (pv 12) pa_nil))))))))) pa_nil))))))))))), ?_⟩)
  refine run_P (n := 11) rfl h fun ds r hR => ?_
  obtain ⟨a0, a1, v, h, rfl, rfl⟩ := hR
  unfold m_reuse_conflict at h
  refine sd_env (env2 := ([.im (D.tup [(D.int a0.1), (D.tup (List.map (fun (z252 : (Int × Int × (List Int) × Int × Int)) => (D.tup [(D.int z252.1), (D.int z252.2.1), (D.tup (List.map D.int z252.2.2.1)), (D.int z252.2.2.2.1), (D.int z252.2.2.2.2)])) a0.2))]), .im (D.tup (List.map D.int a1)), .an, .an, .an, .an, .an, .an, .an, .an, .an, .an, .an] : List Bd)) rfl ?_
  obtain ⟨r1, hr1, h⟩ := Option.bind_eq_some_iff.mp h
  refine sd_seq (sd_drop (d := D.non) (l := .l2) (ev_callK (l := .l2) (ds := [(D.tup [(D.int a0.1), (D.tup (List.map (fun (z231 : (Int × Int × (List Int) × Int × Int)) => (D.tup [(D.int z231.1), (D.int z231.2.1), (D.tup (List.map D.int z231.2.2.1)), (D.int z231.2.2.2.1), (D.int z231.2.2.2.2)])) a0.2))]), (D.tup (List.map D.int a1))]) (R := R_check_windows) (ek_A (ev_im rfl) (ek_A (ev_im rfl) ek_nil)) ⟨a0, a1, r1, hr1, rfl, rfl⟩)) ?_
  refine sd_env (env2 := ([.im (D.tup [(D.int a0.1), (D.tup (List.map (fun (z232 : (Int × Int × (List Int) × Int × Int)) => (D.tup [(D.int z232.1), (D.int z232.2.1), (D.tup (List.map D.int z232.2.2.1)), (D.int z232.2.2.2.1), (D.int z232.2.2.2.2)])) a0.2))]), .im (D.tup (List.map D.int a1)), .an, .an, .an, .an, .an, .an, .an, .an, .an, .an, .an] : List Bd)) (by kernel_rfl) ?_
  obtain ⟨r2, hr2, h⟩ := Option.bind_eq_some_iff.mp h
  refine sd_seq (sd_asg (d := (dkL (List.map (fun (z : Int × Int) => ((Sum.inl z.1 : Key), (D.int z.2))) r2))) rfl (ef_ev (ef_callA (ks := [true, true]) (ds := [(D.tup [(D.int a0.1), (D.tup (List.map (fun (z233 : (Int × Int × (List Int) × Int × Int)) => (D.tup [(D.int z233.1), (D.int z233.2.1), (D.tup (List.map D.int z233.2.2.1)), (D.int z233.2.2.2.1), (D.int z233.2.2.2.2)])) a0.2))]), (D.tup (List.map D.int a1))]) (R := R_memory_spans) rfl (ea_consP (ev_im rfl) (ea_consP (ev_im rfl) ea_nil)) ⟨a0, a1, r2, hr2, rfl, rfl⟩))) ?_
  refine sd_env (env2 := ([.im (D.tup [(D.int a0.1), (D.tup (List.map (fun (z234 : (Int × Int × (List Int) × Int × Int)) => (D.tup [(D.int z234.1), (D.int z234.2.1), (D.tup (List.map D.int z234.2.2.1)), (D.int z234.2.2.2.1), (D.int z234.2.2.2.2)])) a0.2))]), .im (D.tup (List.map D.int a1)), .im (dkL (List.map (fun (z : Int × Int) => ((Sum.inl z.1 : Key), (D.int z.2))) r2)), .an, .an, .an, .an, .an, .an, .an, .an, .an, .an] : List Bd)) (by kernel_rfl) ?_
  obtain ⟨x3, hx3, h⟩ := Option.bind_eq_some_iff.mp h
  refine sd_seq (sd_asg (d := (D.int x3)) rfl (ev_maxVals (l := .l2) hx3 (ev_im rfl))) ?_
  refine sd_env (env2 := ([.im (D.tup [(D.int a0.1), (D.tup (List.map (fun (z235 : (Int × Int × (List Int) × Int × Int)) => (D.tup [(D.int z235.1), (D.int z235.2.1), (D.tup (List.map D.int z235.2.2.1)), (D.int z235.2.2.2.1), (D.int z235.2.2.2.2)])) a0.2))]), .im (D.tup (List.map D.int a1)), .im (dkL (List.map (fun (z : Int × Int) => ((Sum.inl z.1 : Key), (D.int z.2))) r2)), .im (D.int x3), .an, .an, .an, .an, .an, .an, .an, .an, .an] : List Bd)) (by kernel_rfl) ?_
  obtain ⟨ys6, hys6, h⟩ := Option.bind_eq_some_iff.mp h
  obtain ⟨x7, hx7, h⟩ := Option.bind_eq_some_iff.mp h
  refine sd_seq (sd_asg (d := (D.int x7)) rfl (ev_cb (l := .l2) (ea_consP (ef_ev (ef_lk rfl rfl (ef_lcO (l := .l2) (en := D.int) (eb := D.int) hys6 rfl (ei_keysKt (f := D.int) (l1 := r2) rfl) (tw_name (i := 7) (vs := [7]) (by decide)) (anC (v := 7) rfl anN) (fun x4 rr wys6 => by obtain ⟨x5, hx5, wys6⟩ := Option.bind_eq_some_iff.mp wys6; exact (Bool.eq_false_or_eq_true ((decide (x5 = x3)))).elim (fun hb => by have wys6 := ifT hb wys6; have wys6 := Option.some.inj wys6; subst wys6; exact turn_yes (tg_name rfl) (eb_is (eb_test (l := .l2) (ev_opP (l := .l2) (ev_dgetKt (f := D.int) (v := x5) hx5 (ev_im rfl) (ev_im rfl)) (ev_im rfl) rv_eqI)) hb) (ev_im rfl) rfl rfl rfl (anC (v := 7) rfl anN)) (fun hb => by have wys6 := ifF hb wys6; have wys6 := Option.some.inj wys6; subst wys6; exact turn_no (tg_name rfl) (eb_is (eb_test (l := .l2) (ev_opP (l := .l2) (ev_dgetKt (f := D.int) (v := x5) hx5 (ev_im rfl) (ev_im rfl)) (ev_im rfl) rv_eqI)) hb) rfl rfl (anC (v := 7) rfl anN)))) (fun _ _ _ hf h => h hf))) ea_nil) (rc_minJ hx7))) ?_
  refine sd_env (env2 := ([.im (D.tup [(D.int a0.1), (D.tup (List.map (fun (z236 : (Int × Int × (List Int) × Int × Int)) => (D.tup [(D.int z236.1), (D.int z236.2.1), (D.tup (List.map D.int z236.2.2.1)), (D.int z236.2.2.2.1), (D.int z236.2.2.2.2)])) a0.2))]), .im (D.tup (List.map D.int a1)), .im (dkL (List.map (fun (z : Int × Int) => ((Sum.inl z.1 : Key), (D.int z.2))) r2)), .im (D.int x3), .im (D.int x7), .an, .an, .an, .an, .an, .an, .an, .an] : List Bd)) (by kernel_rfl) ?_
  obtain ⟨r8, hr8, h⟩ := Option.bind_eq_some_iff.mp h
  refine sd_seq (sd_asg (d := (D.lst (List.map (fun (z238 : (Int × Int × Int × Int × Int)) => (D.tup [(D.int z238.1), (D.int z238.2.1), (D.int z238.2.2.1), (D.int z238.2.2.2.1), (D.int z238.2.2.2.2)])) r8))) rfl (ef_ev (ef_callA (ks := [true, true, true]) (ds := [(D.tup [(D.int a0.1), (D.tup (List.map (fun (z237 : (Int × Int × (List Int) × Int × Int)) => (D.tup [(D.int z237.1), (D.int z237.2.1), (D.tup (List.map D.int z237.2.2.1)), (D.int z237.2.2.2.1), (D.int z237.2.2.2.2)])) a0.2))]), (D.int x7), (D.int (0 : Int))]) (R := R_difference_schedule) rfl (ea_consP (ev_im rfl) (ea_consP (ev_im rfl) (ea_consP ev_int ea_nil))) ⟨a0, x7, (0 : Int), r8, hr8, rfl, rfl⟩))) ?_
  refine sd_env (env2 := ([.im (D.tup [(D.int a0.1), (D.tup (List.map (fun (z239 : (Int × Int × (List Int) × Int × Int)) => (D.tup [(D.int z239.1), (D.int z239.2.1), (D.tup (List.map D.int z239.2.2.1)), (D.int z239.2.2.2.1), (D.int z239.2.2.2.2)])) a0.2))]), .im (D.tup (List.map D.int a1)), .im (dkL (List.map (fun (z : Int × Int) => ((Sum.inl z.1 : Key), (D.int z.2))) r2)), .im (D.int x3), .im (D.int x7), .im (D.lst (List.map (fun (z240 : (Int × Int × Int × Int × Int)) => (D.tup [(D.int z240.1), (D.int z240.2.1), (D.int z240.2.2.1), (D.int z240.2.2.2.1), (D.int z240.2.2.2.2)])) r8)), .an, .an, .an, .an, .an, .an, .an] : List Bd)) (by kernel_rfl) ?_
  obtain ⟨r9, hr9, h⟩ := Option.bind_eq_some_iff.mp h
  refine sd_seq (sd_asg (d := (D.lst (List.map (fun (z242 : (Int × Int × Int × Int × Int)) => (D.tup [(D.int z242.1), (D.int z242.2.1), (D.int z242.2.2.1), (D.int z242.2.2.2.1), (D.int z242.2.2.2.2)])) r9))) rfl (ef_ev (ef_callA (ks := [true, true, true]) (ds := [(D.tup [(D.int a0.1), (D.tup (List.map (fun (z241 : (Int × Int × (List Int) × Int × Int)) => (D.tup [(D.int z241.1), (D.int z241.2.1), (D.tup (List.map D.int z241.2.2.1)), (D.int z241.2.2.2.1), (D.int z241.2.2.2.2)])) a0.2))]), (D.int (0 : Int)), (D.int x7)]) (R := R_difference_schedule) rfl (ea_consP (ev_im rfl) (ea_consP ev_int (ea_consP (ev_im rfl) ea_nil))) ⟨a0, (0 : Int), x7, r9, hr9, rfl, rfl⟩))) ?_
  refine sd_env (env2 := ([.im (D.tup [(D.int a0.1), (D.tup (List.map (fun (z243 : (Int × Int × (List Int) × Int × Int)) => (D.tup [(D.int z243.1), (D.int z243.2.1), (D.tup (List.map D.int z243.2.2.1)), (D.int z243.2.2.2.1), (D.int z243.2.2.2.2)])) a0.2))]), .im (D.tup (List.map D.int a1)), .im (dkL (List.map (fun (z : Int × Int) => ((Sum.inl z.1 : Key), (D.int z.2))) r2)), .im (D.int x3), .im (D.int x7), .im (D.lst (List.map (fun (z244 : (Int × Int × Int × Int × Int)) => (D.tup [(D.int z244.1), (D.int z244.2.1), (D.int z244.2.2.1), (D.int z244.2.2.2.1), (D.int z244.2.2.2.2)])) r8)), .im (D.lst (List.map (fun (z245 : (Int × Int × Int × Int × Int)) => (D.tup [(D.int z245.1), (D.int z245.2.1), (D.int z245.2.2.1), (D.int z245.2.2.2.1), (D.int z245.2.2.2.2)])) r9)), .an, .an, .an, .an, .an, .an] : List Bd)) (by kernel_rfl) ?_
  obtain ⟨ys11, hys11, h⟩ := Option.bind_eq_some_iff.mp h
  obtain ⟨x12, hx12, h⟩ := Option.bind_eq_some_iff.mp h
  have h := Option.some.inj h; subst h
  exact (sd_ret (d := (D.tup [(D.int x7), (D.lst (List.map (fun (z249 : (Int × Int × Int × Int × Int)) => (D.tup [(D.int z249.1), (D.int z249.2.1), (D.int z249.2.2.1), (D.int z249.2.2.2.1), (D.int z249.2.2.2.2)])) x12))])) (ev_tup (ea_consP (ev_im rfl) (ea_consP (ef_ev (ef_catT (f := (fun (z248 : (Int × Int × Int × Int × Int)) => (D.tup [(D.int z248.1), (D.int z248.2.1), (D.int z248.2.2.1), (D.int z248.2.2.2.1), (D.int z248.2.2.2.2)]))) (p := true) (q := true) hx12 (ev_im rfl) (ef_ev (ef_lcO (l := .l2) (en := (fun (z246 : (Int × Int × Int × Int × Int)) => (D.tup [(D.int z246.1), (D.int z246.2.1), (D.int z246.2.2.1), (D.int z246.2.2.2.1), (D.int z246.2.2.2.2)]))) (eb := (fun (z247 : (Int × Int × Int × Int × Int)) => (D.tup [(D.int z247.1), (D.int z247.2.1), (D.int z247.2.2.1), (D.int z247.2.2.2.1), (D.int z247.2.2.2.2)]))) hys11 rfl (ei_list rfl (ev_im rfl)) (tw_tup (tws_cons (tw_name (i := 8) (vs := [8, 9, 10, 11, 12]) (by decide)) (tws_cons (tw_name (i := 9) (vs := [8, 9, 10, 11, 12]) (by decide)) (tws_cons (tw_name (i := 10) (vs := [8, 9, 10, 11, 12]) (by decide)) (tws_cons (tw_name (i := 11) (vs := [8, 9, 10, 11, 12]) (by decide)) (tws_cons (tw_name (i := 12) (vs := [8, 9, 10, 11, 12]) (by decide)) tws_nil)))))) (anC (v := 8) rfl (anC (v := 9) rfl (anC (v := 10) rfl (anC (v := 11) rfl (anC (v := 12) rfl anN))))) (fun x10 rr wys11 => by have wys11 := Option.some.inj wys11; subst wys11; exact turn_yes (tg_tup rfl (tgs_cons (tg_name rfl) (tgs_cons (tg_name rfl) (tgs_cons (tg_name rfl) (tgs_cons (tg_name rfl) (tgs_cons (tg_name rfl) tgs_nil)))))) eb_yes (ev_tup (ea_consP ev_int (ea_consP (ev_im rfl) (ea_consP (ev_im rfl) (ea_consP (ev_im rfl) (ea_consP (ev_im rfl) ea_nil))))) (show 5 ≤ 1000 from by decide)) rfl rfl rfl (anC (v := 8) rfl (anC (v := 9) rfl (anC (v := 10) rfl (anC (v := 11) rfl (anC (v := 12) rfl anN)))))))))) ea_nil)) (show 2 ≤ 1000 from by decide)))
/-- _law_dice -/
def m__law_dice (a0 : (List Int)) : Option ((List Int) × Int × Int × Int) := (List.foldlM (fun (s2 : (Int)) (x1 : Int) => (mulO s2 (48271 : Int)).bind fun x4 => (mulO (x1 % (2147483647 : Int)) (69621 : Int)).bind fun x5 => some (((x4 + x5) + (11 : Int)) % (2147483647 : Int))) (0 : Int) a0).bind fun y6 => (mulO y6 (if (decide ((2 : Int) < (List.length a0 : Int))) = true then (1 : Int) else 0)).bind fun x7 => some (a0, (0 : Int), x7, (0 : Int))
def R__law_dice : List D → D → Prop := fun ds r => ∃ (a0 : (List Int)) (v : ((List Int) × Int × Int × Int)), m__law_dice a0 = some v ∧ ds = [(D.lst (List.map D.int a0))] ∧ r = (D.lst [(D.lst (List.map D.int v.1)), (D.int v.2.1), (D.int v.2.2.1), (D.int v.2.2.2)])
def nm__law_dice : List Str := ["_law_script", "_law_mixed", "_law_cell"]
theorem sc__law_dice : FnScope ["_law_script", "_law_mixed", "_law_cell"] ["_law_script"] (defScope (top 38)) := ⟨rfl, rfl, rfl, by decide +kernel, rfl, by decide +kernel, by decide +kernel⟩
theorem ok__law_dice (T : Tx K mg) : FnOk P w K mg base CX0 1 T.a__law_dice T.d__law_dice ["_law_script"] (SpF K [true] R__law_dice) := by
  refine T.F__law_dice.ok sc__law_dice (SpF.len rfl) (fun cdv A outer s H vs Q E hr h => ⟨_, PSs.nox (pss_cons (ps_set (i := 1) sc__law_dice.nd rfl (Or.inl rfl) pe_int) (pss_cons (ps_for PassesOwn.never rfl (piListK (K := K) (by rfl) (pv 0)) (pg_name (i := 2) sc__law_dice.nd rfl (Or.inl rfl)) (pss_one (ps_set (i := 1) sc__law_dice.nd rfl (Or.inl rfl) (pe_op op_mod (pe_op op_add (pe_op op_add (pe_op op_mulW (pv 1) pe_int) (pe_op op_mulW (pe_op op_mod (pe_callTy call_int1 rfl T.b_int (by decide +kernel) (pa_cons (pv 2) pa_nil)) pe_int) pe_int)) pe_int) pe_int)))) (pss_one (ps_ret (pe_lst (pa_cons (pv 0) (pa_cons pe_int (pa_cons (pe_op op_mulW (pv 1) (pe_callTy call_int1 rfl T.b_int (by decide +kernel) (pa_cons (pe_cmpR op_gt (pe_callB (lenK (K := K) (by rfl)) rfl T.b_len (by decide +kernel) (pa_cons (pv 0) pa_nil)) pe_int (nomark _)) pa_nil))) (pa_cons pe_int pa_nil))))))))), ?_⟩)
  refine run_F (n := 2) rfl h fun ds r hR => ?_
  obtain ⟨a0, v, h, rfl, rfl⟩ := hR
  unfold m__law_dice at h
  refine sd_env (env2 := ([.im (D.lst (List.map D.int a0)), .an, .an] : List Bd)) rfl ?_
  refine sd_seq (sd_asg (d := (D.int (0 : Int))) rfl ev_int) ?_
  refine sd_env (env2 := ([.im (D.lst (List.map D.int a0)), .im (D.int (0 : Int)), .an] : List Bd)) (by kernel_rfl) ?_
  obtain ⟨y6, hy6, h⟩ := Option.bind_eq_some_iff.mp h
  refine sd_wp' [2] (by kernel_rfl) (env2 := ([.im (D.lst (List.map D.int a0)), .im (D.int (0 : Int)), .an] : List Bd)) (by kernel_rfl) ?_
  refine sd_seq (sd_for (l := .l2) (o := .nx ([.im (D.lst (List.map D.int a0)), .im (D.int y6), .an] : List Bd)) rfl (ei_list rfl (ev_im rfl)) (loop_foldN (en := D.int) (ev := fun (s2 : (Int)) => ([.im (D.lst (List.map D.int a0)), .im (D.int s2), .an] : List Bd)) (fun x1 s2 z3 h => ?_) _ (0 : Int) y6 hy6)) ?_
  · refine sdt (tg_name rfl) ?_
    obtain ⟨x4, hx4, h⟩ := Option.bind_eq_some_iff.mp h
    obtain ⟨x5, hx5, h⟩ := Option.bind_eq_some_iff.mp h
    have h := Option.some.inj h; subst h
    exact sd_endW [2] (sd_asg (d := (D.int (((x4 + x5) + (11 : Int)) % (2147483647 : Int)))) rfl (ev_opP (l := .l2) (ev_opP (l := .l2) (ev_opP (l := .l2) (ev_opP (l := .l2) (ev_im rfl) ev_int (rv_mul hx4)) (ev_opP (l := .l2) (ev_opP (l := .l2) (ev_cb (l := .l2) (ea_consP (ev_im rfl) ea_nil) rc_int_i) ev_int (rv_I (C := fun _ j => 0 < j) (g := fun i j => V.int (i % j)) (e := D.int (x1 % (2147483647 : Int))) (by decide) fun _ => rfl)) ev_int (rv_mul hx5)) rv_add) ev_int rv_add) ev_int (rv_I (C := fun _ j => 0 < j) (g := fun i j => V.int (i % j)) (e := D.int (((x4 + x5) + (11 : Int)) % (2147483647 : Int))) (by decide) fun _ => rfl))) (by kernel_rfl) (by kernel_rfl)
  obtain ⟨x7, hx7, h⟩ := Option.bind_eq_some_iff.mp h
  have h := Option.some.inj h; subst h
  exact (sd_retF (d := (D.lst [(D.lst (List.map D.int a0)), (D.int (0 : Int)), (D.int x7), (D.int (0 : Int))])) (ef_lst (ea_consP (ev_im rfl) (ea_consP ev_int (ea_consP (ev_opP (l := .l2) (ev_im rfl) (ev_cb (l := .l2) (ea_consP (ev_opP (l := .l2) (ev_cb (l := .l2) (ea_consP (ev_im rfl) ea_nil) (rc_len_lm (f := D.int))) ev_int rv_gt) ea_nil) rc_int_b) (rv_mul hx7)) (ea_consP ev_int ea_nil)))) (show 4 ≤ 1000 from by decide)))
/-- _law_next -/
def m__law_next (a0 : ((List Int) × Int × Int × Int)) (a1 : Int) : Option (Int × ((List Int) × Int × Int × Int)) := if (decide ((0 : Int) < a0.2.2.2)) = true then ((modO a0.2.2.2 a1).bind fun x1 => (divO a0.2.2.2 a1).bind fun x2 => some (x1, (a0.1, a0.2.1, a0.2.2.1, x2))) else (if (decide ((a0.2.1 + (1 : Int)) ≤ (List.length a0.1 : Int))) = true then ((atI a0.1 ((a0.2.1 + (1 : Int)) - (1 : Int))).bind fun x3 => (if (decide (((10 : Int) ^ (Int.toNat 18)) ≤ x3)) = true then (divO x3 a1).bind fun x4 => some x4 else some (0 : Int)).bind fun y5 => (modO x3 a1).bind fun x6 => some (x6, (a0.1, (a0.2.1 + (1 : Int)), a0.2.2.1, y5))) else ((mulO a0.2.2.1 (48271 : Int)).bind fun x7 => (divO (x7 % (2147483647 : Int)) (7 : Int)).bind fun x8 => (modO x8 a1).bind fun x9 => some (x9, (a0.1, (a0.2.1 + (1 : Int)), (x7 % (2147483647 : Int)), a0.2.2.2))))
def R__law_next : D → List D → D → D → Prop := fun d ds r d' => ∃ (a0 : ((List Int) × Int × Int × Int)) (a1 : Int) (v : (Int × ((List Int) × Int × Int × Int))), m__law_next a0 a1 = some v ∧ d = (D.lst [(D.lst (List.map D.int a0.1)), (D.int a0.2.1), (D.int a0.2.2.1), (D.int a0.2.2.2)]) ∧ ds = [(D.int a1)] ∧ r = (D.int v.1) ∧ d' = (D.lst [(D.lst (List.map D.int v.2.1)), (D.int v.2.2.1), (D.int v.2.2.2.1), (D.int v.2.2.2.2)])
def nm__law_next : List Str := ["_law_dice_here", "_law_many", "_law_found", "_law_cell"]
theorem sc__law_next : FnScope ["_law_dice_here", "_law_many", "_law_found", "_law_cell"] ["_law_dice_here", "_law_many"] (defScope (top 39)) := ⟨rfl, rfl, rfl, by decide +kernel, rfl, by decide +kernel, by decide +kernel⟩
theorem ok__law_next (T : Tx K mg) : FnOk P w K mg base CX0 1 T.a__law_next T.d__law_next ["_law_dice_here", "_law_many"] (SpM K [true] R__law_next) := by
  refine T.F__law_next.ok sc__law_next (SpM.len rfl) (fun cdv A outer s H vs Q E hr h => ⟨_, PSs.nox (pss_cons (ps_if (pt_cmpR op_gt (pe_ix (ixLK (K := K) (by rfl)) (pv 0) pe_int (fun _ _ => rfl)) pe_int (nomark _)) (pss_cons (ps_set (i := 2) sc__law_next.nd rfl (Or.inl rfl) (pe_op op_mod (pe_callTy call_int1 rfl T.b_int (by decide +kernel) (pa_cons (pe_ix (ixLK (K := K) (by rfl)) (pv 0) pe_int (fun _ _ => rfl)) pa_nil)) (pv 1))) (pss_cons (ps_asg (pe_op op_fdivW (pe_ix (ixLK (K := K) (by rfl)) (pv 0) pe_int (fun _ _ => rfl)) (pv 1)) (pg_sub (pv 0) pe_int set_list)) (pss_one (ps_ret (pv 2))))) pss_nil) (pss_cons (ps_asg (pe_op op_add (pe_ix (ixLK (K := K) (by rfl)) (pv 0) pe_int (fun _ _ => rfl)) pe_int) (pg_sub (pv 0) pe_int set_list)) (pss_cons (ps_if (pt_cmpR op_le (pe_ix (ixLK (K := K) (by rfl)) (pv 0) pe_int (fun _ _ => rfl)) (pe_callB (lenK (K := K) (by rfl)) rfl T.b_len (by decide +kernel) (pa_cons (pe_ix (ixLK (K := K) (by rfl)) (pv 0) pe_int (fun _ _ => rfl)) pa_nil)) (nomark _)) (pss_cons (ps_set (i := 3) sc__law_next.nd rfl (Or.inl rfl) (pe_ix (ixLK (K := K) (by rfl)) (pe_ix (ixLK (K := K) (by rfl)) (pv 0) pe_int (fun _ _ => rfl)) (pe_op op_sub (pe_ix (ixLK (K := K) (by rfl)) (pv 0) pe_int (fun _ _ => rfl)) pe_int) (fun _ _ => rfl))) (pss_cons (ps_asg (pe_ifExp (pt_cmpR op_ge (pv 3) (pe_op op_pow pe_int pe_int) (nomark _)) (pe_op op_fdivW (pv 3) (pv 1)) pe_int) (pg_sub (pv 0) pe_int set_list)) (pss_one (ps_ret (pe_op op_mod (pe_callTy call_int1 rfl T.b_int (by decide +kernel) (pa_cons (pv 3) pa_nil)) (pv 1)))))) pss_nil) (pss_cons (ps_asg (pe_op op_mod (pe_callTy call_int1 rfl T.b_int (by decide +kernel) (pa_cons (pe_op op_mulW (pe_ix (ixLK (K := K) (by rfl)) (pv 0) pe_int (fun _ _ => rfl)) pe_int) pa_nil)) pe_int) (pg_sub (pv 0) pe_int set_list)) (pss_one (ps_ret (pe_op op_mod (pe_op op_fdivW (pe_ix (ixLK (K := K) (by rfl)) (pv 0) pe_int (fun _ _ => rfl)) pe_int) (pv 1)))))))), ?_⟩)
  refine run_M (n := 2) rfl h fun d ds r d' hR => ?_
  obtain ⟨a0, a1, v, h, rfl, rfl, rfl, rfl⟩ := hR
  unfold m__law_next at h
  refine sd_env (env2 := ([.mu (D.lst [(D.lst (List.map D.int a0.1)), (D.int a0.2.1), (D.int a0.2.2.1), (D.int a0.2.2.2)]), .im (D.int a1), .an, .an] : List Bd)) rfl ?_
  refine sd_ifs (eb_test (l := .l2) (ev_opP (l := .l2) (ev_ixMun 3 rfl rfl) ev_int rv_gt)) (fun hb => ?_) (fun hb => ?_)
  · replace h := ifT hb h
    refine sd_assoc ?_
    obtain ⟨x1, hx1, h⟩ := Option.bind_eq_some_iff.mp h
    refine sd_seq (sd_asg (d := (D.int x1)) rfl (ev_opP (l := .l2) (ev_cb (l := .l2) (ea_consP (ev_ixMun 3 rfl rfl) ea_nil) rc_int_i) (ev_im rfl) (rv_mod hx1))) ?_
    refine sd_env (env2 := ([.mu (D.lst [(D.lst (List.map D.int a0.1)), (D.int a0.2.1), (D.int a0.2.2.1), (D.int a0.2.2.2)]), .im (D.int a1), .im (D.int x1), .an] : List Bd)) (by kernel_rfl) ?_
    refine sd_assoc ?_
    obtain ⟨x2, hx2, h⟩ := Option.bind_eq_some_iff.mp h
    refine sd_seq (sd_setMu (l := .l2) (d := (D.int x2)) rfl rfl (ev_opP (l := .l2) (ev_ixMun 3 rfl rfl) (ev_im rfl) (rv_div hx2)) ev_int rfl) ?_
    refine sd_env (env2 := ([.mu (D.lst [(D.lst (List.map D.int a0.1)), (D.int a0.2.1), (D.int a0.2.2.1), (D.int x2)]), .im (D.int a1), .im (D.int x1), .an] : List Bd)) (by kernel_rfl) ?_
    have h := Option.some.inj h; subst h
    exact sd_out (sd_retM (d := (D.int x1)) (ev_im rfl) rfl) rfl
  · replace h := ifF hb h
    refine sd_seqNext ?_
    refine sd_seq (sd_setMu (l := .l2) (d := (D.int (a0.2.1 + (1 : Int)))) rfl rfl (ev_opP (l := .l2) (ev_ixMun 1 rfl rfl) ev_int rv_add) ev_int rfl) ?_
    refine sd_env (env2 := ([.mu (D.lst [(D.lst (List.map D.int a0.1)), (D.int (a0.2.1 + (1 : Int))), (D.int a0.2.2.1), (D.int a0.2.2.2)]), .im (D.int a1), .an, .an] : List Bd)) (by kernel_rfl) ?_
    refine sd_ifs (eb_test (l := .l2) (ev_opP (l := .l2) (ev_ixMun 1 rfl rfl) (ev_cb (l := .l2) (ea_consP (ev_ixMun 0 rfl rfl) ea_nil) (rc_len_lm (f := D.int))) rv_le)) (fun hb => ?_) (fun hb => ?_)
    · replace h := ifT hb h
      refine sd_assoc ?_
      obtain ⟨x3, hx3, h⟩ := Option.bind_eq_some_iff.mp h
      refine sd_seq (sd_asg (d := (D.int x3)) rfl (ev_opP (l := .l2) (ev_ixMun 0 rfl rfl) (ev_opP (l := .l2) (ev_ixMun 1 rfl rfl) ev_int rv_sub) (rv_ixLm (f := D.int) (xs := a0.1) (v := x3) hx3))) ?_
      refine sd_env (env2 := ([.mu (D.lst [(D.lst (List.map D.int a0.1)), (D.int (a0.2.1 + (1 : Int))), (D.int a0.2.2.1), (D.int a0.2.2.2)]), .im (D.int a1), .an, .im (D.int x3)] : List Bd)) (by kernel_rfl) ?_
      refine sd_assoc ?_
      obtain ⟨y5, hy5, h⟩ := Option.bind_eq_some_iff.mp h
      refine sd_seq (sd_setMu (l := .l2) (d := (D.int y5)) rfl rfl (ev_if (eb_test (l := .l2) (ev_opP (l := .l2) (ev_im rfl) (ev_opP (l := .l2) ev_int ev_int (rv_I (C := CPow) (g := fun i j => V.int (i ^ j.toNat)) (e := D.int ((10 : Int) ^ (Int.toNat 18))) ⟨by decide, by decide, by decide⟩ fun _ => rfl)) rv_ge)) (fun hb => by have wy5 := ifT hb hy5; obtain ⟨x4, hx4, wy5⟩ := Option.bind_eq_some_iff.mp wy5; have wy5 := Option.some.inj wy5; subst wy5; exact (ev_opP (l := .l2) (ev_im rfl) (ev_im rfl) (rv_div hx4))) (fun hb => by have wy5 := ifF hb hy5; have wy5 := Option.some.inj wy5; subst wy5; exact ev_int)) ev_int rfl) ?_
      refine sd_env (env2 := ([.mu (D.lst [(D.lst (List.map D.int a0.1)), (D.int (a0.2.1 + (1 : Int))), (D.int a0.2.2.1), (D.int y5)]), .im (D.int a1), .an, .im (D.int x3)] : List Bd)) (by kernel_rfl) ?_
      obtain ⟨x6, hx6, h⟩ := Option.bind_eq_some_iff.mp h
      have h := Option.some.inj h; subst h
      exact sd_out (sd_retM (d := (D.int x6)) (ev_opP (l := .l2) (ev_cb (l := .l2) (ea_consP (ev_im rfl) ea_nil) rc_int_i) (ev_im rfl) (rv_mod hx6)) rfl) rfl
    · replace h := ifF hb h
      refine sd_seqNext ?_
      obtain ⟨x7, hx7, h⟩ := Option.bind_eq_some_iff.mp h
      refine sd_seq (sd_setMu (l := .l2) (d := (D.int (x7 % (2147483647 : Int)))) rfl rfl (ev_opP (l := .l2) (ev_cb (l := .l2) (ea_consP (ev_opP (l := .l2) (ev_ixMun 2 rfl rfl) ev_int (rv_mul hx7)) ea_nil) rc_int_i) ev_int (rv_I (C := fun _ j => 0 < j) (g := fun i j => V.int (i % j)) (e := D.int (x7 % (2147483647 : Int))) (by decide) fun _ => rfl)) ev_int rfl) ?_
      refine sd_env (env2 := ([.mu (D.lst [(D.lst (List.map D.int a0.1)), (D.int (a0.2.1 + (1 : Int))), (D.int (x7 % (2147483647 : Int))), (D.int a0.2.2.2)]), .im (D.int a1), .an, .an] : List Bd)) (by kernel_rfl) ?_
      obtain ⟨x8, hx8, h⟩ := Option.bind_eq_some_iff.mp h
      obtain ⟨x9, hx9, h⟩ := Option.bind_eq_some_iff.mp h
      have h := Option.some.inj h; subst h
      exact (sd_retM (d := (D.int x9)) (ev_opP (l := .l2) (ev_opP (l := .l2) (ev_ixMun 2 rfl rfl) ev_int (rv_div hx8)) (ev_im rfl) (rv_mod hx9)) rfl)
/-- _law_like -/
def m__law_like (a0 : Int) (a1 : Int) : Option Bool := if (false || false) = true then (none) else (if (!(decide (false = false))) = true then (some false) else (if ((!(decide (true = true))) || (!(decide (false = false)))) = true then (some false) else (some (decide (a0 = a1)))))
def R__law_like : List D → D → Prop := fun ds r => ∃ (a0 : Int) (a1 : Int) (v : Bool), m__law_like a0 a1 = some v ∧ ds = [(D.int a0), (D.int a1)] ∧ r = (D.bl v)
def nm__law_like : List Str := ["_law_found", "_law_due", "_law_k"]
theorem sc__law_like : FnScope ["_law_found", "_law_due", "_law_k"] ["_law_found", "_law_due"] (defScope (top 40)) := ⟨rfl, rfl, rfl, by decide +kernel, rfl, by decide +kernel, by decide +kernel⟩
theorem ok__law_like (T : Tx K mg) : FnOk P w K mg base CX0 1 T.a__law_like T.d__law_like ["_law_found", "_law_due"] (SpP K [true, true] R__law_like) := by
  refine T.F__law_like.ok sc__law_like (SpP.len rfl) (fun cdv A outer s H vs Q E hr h => ⟨_, PSs.nox (pss_cons (ps_if (PW.pt (pw_or (pt_val (pe_callB (isiK (K := K) (by rfl)) rfl T.b_isinstance (by decide +kernel) (pa_cons (pv 1) (pa_cons (pe_bltn (v := .ty "tuple") rfl T.b_tuple (by decide +kernel) rfl) pa_nil)))) (pw_or1 (pt_val (pe_callB (isiK (K := K) (by rfl)) rfl T.b_isinstance (by decide +kernel) (pa_cons (pv 1) (pa_cons (pe_bltn (v := .ty "list") rfl T.b_list (by decide +kernel) rfl) pa_nil))))))) (pss_cons ps_dead (pss_cons ps_dead (pss_one ps_dead))) pss_nil) (pss_cons (ps_if (pt_cmpR op_ne (pe_callB (isiK (K := K) (by rfl)) rfl T.b_isinstance (by decide +kernel) (pa_cons (pv 0) (pa_cons (pe_bltn (v := .ty "bool") rfl T.b_bool (by decide +kernel) rfl) pa_nil))) (pe_callB (isiK (K := K) (by rfl)) rfl T.b_isinstance (by decide +kernel) (pa_cons (pv 1) (pa_cons (pe_bltn (v := .ty "bool") rfl T.b_bool (by decide +kernel) rfl) pa_nil))) (nomark _)) (pss_one (ps_ret pe_bl)) pss_nil) (pss_cons (ps_if (PW.pt (pw_or (pt_cmpR op_ne (pe_callB (isiK (K := K) (by rfl)) rfl T.b_isinstance (by decide +kernel) (pa_cons (pv 0) (pa_cons (pe_bltn (v := .ty "int") rfl T.b_int (by decide +kernel) rfl) pa_nil))) (pe_callB (isiK (K := K) (by rfl)) rfl T.b_isinstance (by decide +kernel) (pa_cons (pv 1) (pa_cons (pe_bltn (v := .ty "int") rfl T.b_int (by decide +kernel) rfl) pa_nil))) (nomark _)) (pw_or1 (pt_cmpR op_ne (pe_callB (isiK (K := K) (by rfl)) rfl T.b_isinstance (by decide +kernel) (pa_cons (pv 0) (pa_cons (pe_bltn (v := .ty "str") rfl T.b_str (by decide +kernel) rfl) pa_nil))) (pe_callB (isiK (K := K) (by rfl)) rfl T.b_isinstance (by decide +kernel) (pa_cons (pv 1) (pa_cons (pe_bltn (v := .ty "str") rfl T.b_str (by decide +kernel) rfl) pa_nil))) (nomark _))))) (pss_one (ps_ret pe_bl)) pss_nil) (pss_one (ps_ret (pe_cmpR op_eq (pv 0) (pv 1) (nomark _))))))), ?_⟩)
  refine run_P (n := 1) rfl h fun ds r hR => ?_
  obtain ⟨a0, a1, v, h, rfl, rfl⟩ := hR
  unfold m__law_like at h
  refine sd_env (env2 := ([.im (D.int a0), .im (D.int a1), .an] : List Bd)) rfl ?_
  refine sd_ifs (eb_or (eb_B (l := .l2) (ev_isi (l := .l2) (ev_im rfl) (show kitB "int" "tuple" = some false from by decide +kernel))) (fun _ => (eb_B (l := .l2) (ev_isi (l := .l2) (ev_im rfl) (show kitB "int" "list" = some false from by decide +kernel))))) (fun hb => ?_) (fun hb => ?_)
  · replace h := ifT hb h
    cases h
  · replace h := ifF hb h
    refine sd_seqNext ?_
    refine sd_ifs (eb_test (l := .l2) (ev_opP (l := .l2) (ev_isi (l := .l2) (ev_im rfl) (show kitB "int" "bool" = some false from by decide +kernel)) (ev_isi (l := .l2) (ev_im rfl) (show kitB "int" "bool" = some false from by decide +kernel)) rv_neB)) (fun hb => ?_) (fun hb => ?_)
    · replace h := ifT hb h
      have h := Option.some.inj h; subst h
      exact sd_out (sd_ret (d := (D.bl false)) ev_bl) rfl
    · replace h := ifF hb h
      refine sd_seqNext ?_
      refine sd_ifs (eb_or (eb_test (l := .l2) (ev_opP (l := .l2) (ev_isi (l := .l2) (ev_im rfl) (show kitB "int" "int" = some true from by decide +kernel)) (ev_isi (l := .l2) (ev_im rfl) (show kitB "int" "int" = some true from by decide +kernel)) rv_neB)) (fun _ => (eb_test (l := .l2) (ev_opP (l := .l2) (ev_isi (l := .l2) (ev_im rfl) (show kitB "int" "str" = some false from by decide +kernel)) (ev_isi (l := .l2) (ev_im rfl) (show kitB "int" "str" = some false from by decide +kernel)) rv_neB)))) (fun hb => ?_) (fun hb => ?_)
      · replace h := ifT hb h
        have h := Option.some.inj h; subst h
        exact sd_out (sd_ret (d := (D.bl false)) ev_bl) rfl
      · replace h := ifF hb h
        refine sd_seqNext ?_
        have h := Option.some.inj h; subst h
        exact (sd_ret (d := (D.bl (decide (a0 = a1)))) (ev_opP (l := .l2) (ev_im rfl) (ev_im rfl) rv_eqI))
/-- _law_call -/
def m__law_call (a0 : ((List Int) × Int × Int × Int)) (a1 : Int) (a2 : Int) : Option ((Int × Int × (List Int) × Int × Int) × ((List Int) × Int × Int × Int)) := (m__law_next a0 (a1 - (1 : Int))).bind fun r1 => (m__law_next r1.2 ((a1 - (1 : Int)) - r1.1)).bind fun r2 => (m__law_next r2.2 (4 : Int)).bind fun r3 => (rngO 0 ((1 : Int) + r3.1)).bind fun x4 => (compS (fun (s6 : ((List Int) × Int × Int × Int)) (x5 : Int) => (m__law_next s6 (a2 + (1 : Int))).bind fun r7 => some (some r7.1, r7.2)) x4 r3.2).bind fun ys8 => (ssetO ys8.1).bind fun x9 => (m__law_next ys8.2 (a2 + (1 : Int))).bind fun r10 => (m__law_next r10.2 ((a2 + (1 : Int)) - r10.1)).bind fun r11 => some ((r1.1, ((r1.1 + (1 : Int)) + r2.1), x9, r10.1, (r10.1 + r11.1)), r11.2)
def R__law_call : D → List D → D → D → Prop := fun d ds r d' => ∃ (a0 : ((List Int) × Int × Int × Int)) (a1 : Int) (a2 : Int) (v : ((Int × Int × (List Int) × Int × Int) × ((List Int) × Int × Int × Int))), m__law_call a0 a1 a2 = some v ∧ d = (D.lst [(D.lst (List.map D.int a0.1)), (D.int a0.2.1), (D.int a0.2.2.1), (D.int a0.2.2.2)]) ∧ ds = [(D.int a1), (D.int a2)] ∧ r = (D.tup [(D.int v.1.1), (D.int v.1.2.1), (D.tup (List.map D.int v.1.2.2.1)), (D.int v.1.2.2.2.1), (D.int v.1.2.2.2.2)]) ∧ d' = (D.lst [(D.lst (List.map D.int v.2.1)), (D.int v.2.2.1), (D.int v.2.2.2.1), (D.int v.2.2.2.2)])
def nm__law_call : List Str := ["_law_d", "_law_count", "_law_most", "_law_caller", "_law_target", "_law_offsets", "_law_least", "_law_k"]
theorem sc__law_call : FnScope ["_law_d", "_law_count", "_law_most", "_law_caller", "_law_target", "_law_offsets", "_law_least", "_law_k"] ["_law_d", "_law_count", "_law_most"] (defScope (top 41)) := ⟨rfl, rfl, rfl, by decide +kernel, rfl, by decide +kernel, by decide +kernel⟩
theorem ok__law_call (T : Tx K mg) : FnOk P w K mg base CX0 2 T.a__law_call T.d__law_call ["_law_d", "_law_count", "_law_most"] (SpM K [true, true] R__law_call) := by
  refine T.F__law_call.ok sc__law_call (SpM.len rfl) (fun cdv A outer s H vs Q E hr h => ⟨_, PSs.nox (pss_cons (ps_set (i := 3) sc__law_call.nd rfl (Or.inl rfl) (pe_call (ok__law_next T) (hr.mono (by decide)) rfl T.g__law_next T.F__law_next.kp (T.F__law_next.bindsN fun _ _ _ _ _ _ us hl => match us, hl with | [_, _], _ => rfl) .nil pass0 (pa_cons (pv 0) (pa_cons (pe_op op_sub (pv 1) pe_int) pa_nil)))) (pss_cons (ps_set (i := 4) sc__law_call.nd rfl (Or.inl rfl) (pe_op op_add (pe_op op_add (pv 3) pe_int) (pe_call (ok__law_next T) (hr.mono (by decide)) rfl T.g__law_next T.F__law_next.kp (T.F__law_next.bindsN fun _ _ _ _ _ _ us hl => match us, hl with | [_, _], _ => rfl) .nil pass0 (pa_cons (pv 0) (pa_cons (pe_op op_sub (pe_op op_sub (pv 1) pe_int) (pv 3)) pa_nil))))) (pss_cons (ps_set (i := 5) sc__law_call.nd rfl (Or.inl rfl) (pe_callB (cr_sortedSet rfl) rfl T.b_sorted (by decide +kernel) (pa_cons (pe_callTy (cr_setLI rfl) rfl T.b_set (by decide +kernel) (pa_cons (pe_lc (own := [("_law_k", 7)]) rfl sc__law_call.nd (pi_range1 rfl T.b_range (pa_cons (pe_op op_add pe_int (pe_call (ok__law_next T) (hr.mono (by decide)) rfl T.g__law_next T.F__law_next.kp (T.F__law_next.bindsN fun _ _ _ _ _ _ us hl => match us, hl with | [_, _], _ => rfl) .nil pass0 (pa_cons (pv 0) (pa_cons pe_int pa_nil)))) pa_nil)) (blkOk_by (own := [("_law_k", 7)]) (N := nm__law_call) (sc := defScope (top 41)) (by decide +kernel)) (fun _ _ _ _ _ => (pg_name (i := 7) sc__law_call.nd rfl (Or.inl rfl))) (fun _ _ _ _ _ => pts_nil) (fun _ _ _ _ _ => (pe_call (ok__law_next T) (hr.mono (by decide)) rfl T.g__law_next T.F__law_next.kp (T.F__law_next.bindsN fun _ _ _ _ _ _ us hl => match us, hl with | [_, _], _ => rfl) .nil pass0 (pa_cons (pv 0) (pa_cons (pe_op op_add (pv 2) pe_int) pa_nil))))) pa_nil)) pa_nil))) (pss_cons (ps_set (i := 6) sc__law_call.nd rfl (Or.inl rfl) (pe_call (ok__law_next T) (hr.mono (by decide)) rfl T.g__law_next T.F__law_next.kp (T.F__law_next.bindsN fun _ _ _ _ _ _ us hl => match us, hl with | [_, _], _ => rfl) .nil pass0 (pa_cons (pv 0) (pa_cons (pe_op op_add (pv 2) pe_int) pa_nil)))) (pss_one (ps_ret (pe_tup (pa_cons (pv 3) (pa_cons (pv 4) (pa_cons (pe_callTy (tupK (K := K) (by rfl)) rfl T.b_tuple (by decide +kernel) (pa_cons (pv 5) pa_nil)) (pa_cons (pv 6) (pa_cons (pe_op op_add (pv 6) (pe_call (ok__law_next T) (hr.mono (by decide)) rfl T.g__law_next T.F__law_next.kp (T.F__law_next.bindsN fun _ _ _ _ _ _ us hl => match us, hl with | [_, _], _ => rfl) .nil pass0 (pa_cons (pv 0) (pa_cons (pe_op op_sub (pe_op op_add (pv 2) pe_int) (pv 6)) pa_nil)))) pa_nil)))))))))))), ?_⟩)
  refine run_M (n := 5) rfl h fun d ds r d' hR => ?_
  obtain ⟨a0, a1, a2, v, h, rfl, rfl, rfl, rfl⟩ := hR
  unfold m__law_call at h
  refine sd_env (env2 := ([.mu (D.lst [(D.lst (List.map D.int a0.1)), (D.int a0.2.1), (D.int a0.2.2.1), (D.int a0.2.2.2)]), .im (D.int a1), .im (D.int a2), .an, .an, .an, .an, .an] : List Bd)) rfl ?_
  obtain ⟨r1, hr1, h⟩ := Option.bind_eq_some_iff.mp h
  refine sd_seq (sd_asg (d := (D.int r1.1)) rfl (ev_callMm (i := 0) (ks := [true]) (ds := [(D.int (a1 - (1 : Int)))]) (R := R__law_next) rfl rfl ⟨_, rfl⟩ (ea_consP (ev_opP (l := .l2) (ev_im rfl) ev_int rv_sub) ea_nil) rfl ⟨a0, (a1 - (1 : Int)), r1, hr1, rfl, rfl, rfl, rfl⟩)) ?_
  refine sd_env (env2 := ([.mu (D.lst [(D.lst (List.map D.int r1.2.1)), (D.int r1.2.2.1), (D.int r1.2.2.2.1), (D.int r1.2.2.2.2)]), .im (D.int a1), .im (D.int a2), .im (D.int r1.1), .an, .an, .an, .an] : List Bd)) (by kernel_rfl) ?_
  obtain ⟨r2, hr2, h⟩ := Option.bind_eq_some_iff.mp h
  refine sd_seq (sd_asg (d := (D.int ((r1.1 + (1 : Int)) + r2.1))) rfl (ev_opF (l := .l2) rfl (ev_opP (l := .l2) (ev_im rfl) ev_int rv_add) (ev_callMm (i := 0) (ks := [true]) (ds := [(D.int ((a1 - (1 : Int)) - r1.1))]) (R := R__law_next) rfl rfl ⟨_, rfl⟩ (ea_consP (ev_opP (l := .l2) (ev_opP (l := .l2) (ev_im rfl) ev_int rv_sub) (ev_im rfl) rv_sub) ea_nil) rfl ⟨r1.2, ((a1 - (1 : Int)) - r1.1), r2, hr2, rfl, rfl, rfl, rfl⟩) rv_add)) ?_
  refine sd_env (env2 := ([.mu (D.lst [(D.lst (List.map D.int r2.2.1)), (D.int r2.2.2.1), (D.int r2.2.2.2.1), (D.int r2.2.2.2.2)]), .im (D.int a1), .im (D.int a2), .im (D.int r1.1), .im (D.int ((r1.1 + (1 : Int)) + r2.1)), .an, .an, .an] : List Bd)) (by kernel_rfl) ?_
  obtain ⟨r3, hr3, h⟩ := Option.bind_eq_some_iff.mp h
  obtain ⟨x4, hx4, h⟩ := Option.bind_eq_some_iff.mp h
  obtain ⟨ys8, hys8, h⟩ := Option.bind_eq_some_iff.mp h
  obtain ⟨x9, hx9, h⟩ := Option.bind_eq_some_iff.mp h
  refine sd_seq (sd_asg (d := (D.lst (List.map D.int x9))) rfl (ef_ev (ef_ssetK (p := false) hx9 (ea_consF rfl (ef_ev (ef_lcS2 (p := false) (l := .l2) (s := r3.2) (ev := fun (s6 : ((List Int) × Int × Int × Int)) => ([.mu (D.lst [(D.lst (List.map D.int s6.1)), (D.int s6.2.1), (D.int s6.2.2.1), (D.int s6.2.2.2)]), .im (D.int a1), .im (D.int a2), .im (D.int r1.1), .im (D.int ((r1.1 + (1 : Int)) + r2.1)), .an, .an, .an] : List Bd)) (en := D.int) (eb := D.int) hys8 rfl (ei_rng1T (l' := .l2) hx4 (ea_consF rfl (ev_opF (l := .l2) rfl ev_int (ev_callMm (i := 0) (ks := [true]) (ds := [(D.int (4 : Int))]) (R := R__law_next) rfl rfl ⟨_, rfl⟩ (ea_consP ev_int ea_nil) rfl ⟨r2.2, (4 : Int), r3, hr3, rfl, rfl, rfl, rfl⟩) rv_add) ea_nil)) (tw_name (i := 7) (vs := [7]) (by decide)) (anC (v := 7) rfl anN) (fun x5 s6 oo ss wys8 => by obtain ⟨r7, hr7, wys8⟩ := Option.bind_eq_some_iff.mp wys8; obtain ⟨e1, e2⟩ := Prod.mk.inj (Option.some.inj wys8); subst e1; subst e2; exact turn_yes (env2 := ([.mu (D.lst [(D.lst (List.map D.int r7.2.1)), (D.int r7.2.2.1), (D.int r7.2.2.2.1), (D.int r7.2.2.2.2)]), .im (D.int a1), .im (D.int a2), .im (D.int r1.1), .im (D.int ((r1.1 + (1 : Int)) + r2.1)), .an, .an, .im (D.int x5)] : List Bd)) (tg_name rfl) (eb_toF eb_yes) (ev_callMm (i := 0) (ks := [true]) (ds := [(D.int (a2 + (1 : Int)))]) (R := R__law_next) rfl rfl ⟨_, rfl⟩ (ea_consP (ev_opP (l := .l2) (ev_im rfl) ev_int rv_add) ea_nil) rfl ⟨s6, (a2 + (1 : Int)), r7, hr7, rfl, rfl, rfl, rfl⟩) rfl rfl rfl (anC (v := 7) rfl anN)))) ea_nil) (by rfl) (by rfl)))) ?_
  refine sd_env (env2 := ([.mu (D.lst [(D.lst (List.map D.int ys8.2.1)), (D.int ys8.2.2.1), (D.int ys8.2.2.2.1), (D.int ys8.2.2.2.2)]), .im (D.int a1), .im (D.int a2), .im (D.int r1.1), .im (D.int ((r1.1 + (1 : Int)) + r2.1)), .im (D.lst (List.map D.int x9)), .an, .an] : List Bd)) (by kernel_rfl) ?_
  obtain ⟨r10, hr10, h⟩ := Option.bind_eq_some_iff.mp h
  refine sd_seq (sd_asg (d := (D.int r10.1)) rfl (ev_callMm (i := 0) (ks := [true]) (ds := [(D.int (a2 + (1 : Int)))]) (R := R__law_next) rfl rfl ⟨_, rfl⟩ (ea_consP (ev_opP (l := .l2) (ev_im rfl) ev_int rv_add) ea_nil) rfl ⟨ys8.2, (a2 + (1 : Int)), r10, hr10, rfl, rfl, rfl, rfl⟩)) ?_
  refine sd_env (env2 := ([.mu (D.lst [(D.lst (List.map D.int r10.2.1)), (D.int r10.2.2.1), (D.int r10.2.2.2.1), (D.int r10.2.2.2.2)]), .im (D.int a1), .im (D.int a2), .im (D.int r1.1), .im (D.int ((r1.1 + (1 : Int)) + r2.1)), .im (D.lst (List.map D.int x9)), .im (D.int r10.1), .an] : List Bd)) (by kernel_rfl) ?_
  obtain ⟨r11, hr11, h⟩ := Option.bind_eq_some_iff.mp h
  have h := Option.some.inj h; subst h
  exact (sd_retM (d := (D.tup [(D.int r1.1), (D.int ((r1.1 + (1 : Int)) + r2.1)), (D.tup (List.map D.int x9)), (D.int r10.1), (D.int (r10.1 + r11.1))])) (ev_up (ev_tup (ea_consF rfl (ev_im rfl) (ea_consF rfl (ev_im rfl) (ea_consF rfl (ev_tuple_of (ea_consP (ev_im rfl) ea_nil)) (ea_consF rfl (ev_im rfl) (ea_consF rfl (ev_opF (l := .l2) rfl (ev_im rfl) (ev_callMm (i := 0) (ks := [true]) (ds := [(D.int ((a2 + (1 : Int)) - r10.1))]) (R := R__law_next) rfl rfl ⟨_, rfl⟩ (ea_consP (ev_opP (l := .l2) (ev_opP (l := .l2) (ev_im rfl) ev_int rv_add) (ev_im rfl) rv_sub) ea_nil) rfl ⟨r10.2, ((a2 + (1 : Int)) - r10.1), r11, hr11, rfl, rfl, rfl, rfl⟩) rv_add) ea_nil))))) (show 5 ≤ 1000 from by decide))) rfl)
/-- _law_system -/
def m__law_system (a0 : ((List Int) × Int × Int × Int)) (a1 : Int) (a2 : Int) (a3 : Int) : Option ((Int × (List (Int × Int × (List Int) × Int × Int))) × ((List Int) × Int × Int × Int)) := (m__law_next a0 a1).bind fun r1 => (if (decide ((1 : Int) < ((1 : Int) + r1.1))) = true then (m__law_next r1.2 (a2 + (1 : Int))).bind fun r2 => some (r2.1, r2.2) else some ((0 : Int), r1.2)).bind fun y3 => (rngO 0 y3.1).bind fun x4 => (List.foldlM (fun (s6 : ((List (Int × Int × (List Int) × Int × Int)) × ((List Int) × Int × Int × Int))) (x5 : Int) => (m__law_call s6.2 ((1 : Int) + r1.1) a3).bind fun r8 => (okL (List.length s6.1)).bind fun x9 => some ((s6.1 ++ [r8.1]), r8.2)) (([] : List (Int × Int × (List Int) × Int × Int)), y3.2) x4).bind fun y10 => some ((((1 : Int) + r1.1), y10.1), y10.2)
def R__law_system : D → List D → D → D → Prop := fun d ds r d' => ∃ (a0 : ((List Int) × Int × Int × Int)) (a1 : Int) (a2 : Int) (a3 : Int) (v : ((Int × (List (Int × Int × (List Int) × Int × Int))) × ((List Int) × Int × Int × Int))), m__law_system a0 a1 a2 a3 = some v ∧ d = (D.lst [(D.lst (List.map D.int a0.1)), (D.int a0.2.1), (D.int a0.2.2.1), (D.int a0.2.2.2)]) ∧ ds = [(D.int a1), (D.int a2), (D.int a3)] ∧ r = (D.tup [(D.int v.1.1), (D.tup (List.map (fun (z261 : (Int × Int × (List Int) × Int × Int)) => (D.tup [(D.int z261.1), (D.int z261.2.1), (D.tup (List.map D.int z261.2.2.1)), (D.int z261.2.2.2.1), (D.int z261.2.2.2.2)])) v.1.2))]) ∧ d' = (D.lst [(D.lst (List.map D.int v.2.1)), (D.int v.2.2.1), (D.int v.2.2.2.1), (D.int v.2.2.2.2)])
def nm__law_system : List Str := ["_law_d", "_law_services", "_law_calls", "_law_most", "_law_k", "_law_count", "_law_found"]
theorem sc__law_system : FnScope ["_law_d", "_law_services", "_law_calls", "_law_most", "_law_k", "_law_count", "_law_found"] ["_law_d", "_law_services", "_law_calls", "_law_most"] (defScope (top 42)) := ⟨rfl, rfl, rfl, by decide +kernel, rfl, by decide +kernel, by decide +kernel⟩
theorem ok__law_system (T : Tx K mg) : FnOk P w K mg base CX0 3 T.a__law_system T.d__law_system ["_law_d", "_law_services", "_law_calls", "_law_most"] (SpM K [true, true, true] R__law_system) := by
  refine T.F__law_system.ok sc__law_system (SpM.len rfl) (fun cdv A outer s H vs Q E hr h => ⟨_, PSs.nox (pss_cons (ps_par (i := 5) (j := 6) rfl sc__law_system.nd rfl rfl (by decide) rfl rfl (pa_cons (pe_op op_add pe_int (pe_call (ok__law_next T) (hr.mono (by decide)) rfl T.g__law_next T.F__law_next.kp (T.F__law_next.bindsN fun _ _ _ _ _ _ us hl => match us, hl with | [_, _], _ => rfl) .nil pass0 (pa_cons (pv 0) (pa_cons (pv 1) pa_nil)))) (pa_cons (pe_lst pa_nil) pa_nil)) (by rfl)) (pss_cons (ps_for PassesOwn.never rfl (pi_range1 rfl T.b_range (pa_cons (pe_ifExp (pt_cmpR op_gt (pv 5) pe_int (nomark _)) (pe_call (ok__law_next T) (hr.mono (by decide)) rfl T.g__law_next T.F__law_next.kp (T.F__law_next.bindsN fun _ _ _ _ _ _ us hl => match us, hl with | [_, _], _ => rfl) .nil pass0 (pa_cons (pv 0) (pa_cons (pe_op op_add (pv 2) pe_int) pa_nil))) pe_int) pa_nil)) (pg_name (i := 4) sc__law_system.nd rfl (Or.inl rfl)) (pss_one (ps_expr (pe_bm PySem.F.plainAttrs_list PySem.F.slot_list_append PySem.F.type_list_append mt_append (pv 6) (pa_cons (pe_call (ok__law_call T) (hr.mono (by decide)) rfl T.g__law_call T.F__law_call.kp (T.F__law_call.bindsN fun _ _ _ _ _ _ us hl => match us, hl with | [_, _, _], _ => rfl) .nil pass0 (pa_cons (pv 0) (pa_cons (pv 5) (pa_cons (pv 3) pa_nil)))) pa_nil))))) (pss_one (ps_ret (pe_tup (pa_cons (pv 5) (pa_cons (pe_callTy (tupK (K := K) (by rfl)) rfl T.b_tuple (by decide +kernel) (pa_cons (pv 6) pa_nil)) pa_nil))))))), ?_⟩)
  refine run_M (n := 3) rfl h fun d ds r d' hR => ?_
  obtain ⟨a0, a1, a2, a3, v, h, rfl, rfl, rfl, rfl⟩ := hR
  unfold m__law_system at h
  refine sd_env (env2 := ([.mu (D.lst [(D.lst (List.map D.int a0.1)), (D.int a0.2.1), (D.int a0.2.2.1), (D.int a0.2.2.2)]), .im (D.int a1), .im (D.int a2), .im (D.int a3), .an, .an, .an] : List Bd)) rfl ?_
  obtain ⟨r1, hr1, h⟩ := Option.bind_eq_some_iff.mp h
  refine sd_seq (sd_par_io (d := (D.int ((1 : Int) + r1.1))) (d' := (D.lst (List.map (fun (z253 : (Int × Int × (List Int) × Int × Int)) => (D.tup [(D.int z253.1), (D.int z253.2.1), (D.tup (List.map D.int z253.2.2.1)), (D.int z253.2.2.2.1), (D.int z253.2.2.2.2)])) ([] : List (Int × Int × (List Int) × Int × Int))))) rfl rfl (ev_opF (l := .l2) rfl ev_int (ev_callMm (i := 0) (ks := [true]) (ds := [(D.int a1)]) (R := R__law_next) rfl rfl ⟨_, rfl⟩ (ea_consP (ev_im rfl) ea_nil) rfl ⟨a0, a1, r1, hr1, rfl, rfl, rfl, rfl⟩) rv_add) (ef_is (D.lst (List.map (fun (z254 : (Int × Int × (List Int) × Int × Int)) => (D.tup [(D.int z254.1), (D.int z254.2.1), (D.tup (List.map D.int z254.2.2.1)), (D.int z254.2.2.2.1), (D.int z254.2.2.2.2)])) ([] : List (Int × Int × (List Int) × Int × Int)))) (ef_lst ea_nil (show 0 ≤ 1000 from by decide)) rfl)) ?_
  refine sd_env (env2 := ([.mu (D.lst [(D.lst (List.map D.int r1.2.1)), (D.int r1.2.2.1), (D.int r1.2.2.2.1), (D.int r1.2.2.2.2)]), .im (D.int a1), .im (D.int a2), .im (D.int a3), .an, .im (D.int ((1 : Int) + r1.1)), .ow (D.lst (List.map (fun (z255 : (Int × Int × (List Int) × Int × Int)) => (D.tup [(D.int z255.1), (D.int z255.2.1), (D.tup (List.map D.int z255.2.2.1)), (D.int z255.2.2.2.1), (D.int z255.2.2.2.2)])) ([] : List (Int × Int × (List Int) × Int × Int))))] : List Bd)) (by kernel_rfl) ?_
  obtain ⟨y3, hy3, h⟩ := Option.bind_eq_some_iff.mp h
  obtain ⟨x4, hx4, h⟩ := Option.bind_eq_some_iff.mp h
  obtain ⟨y10, hy10, h⟩ := Option.bind_eq_some_iff.mp h
  refine sd_wp' [4] (by kernel_rfl) (env2 := ([.mu (D.lst [(D.lst (List.map D.int r1.2.1)), (D.int r1.2.2.1), (D.int r1.2.2.2.1), (D.int r1.2.2.2.2)]), .im (D.int a1), .im (D.int a2), .im (D.int a3), .an, .im (D.int ((1 : Int) + r1.1)), .ow (D.lst (List.map (fun (z258 : (Int × Int × (List Int) × Int × Int)) => (D.tup [(D.int z258.1), (D.int z258.2.1), (D.tup (List.map D.int z258.2.2.1)), (D.int z258.2.2.2.1), (D.int z258.2.2.2.2)])) ([] : List (Int × Int × (List Int) × Int × Int))))] : List Bd)) (by kernel_rfl) ?_
  refine sd_seq (sd_for (l := .l2) (o := .nx ([.mu (D.lst [(D.lst (List.map D.int y10.2.1)), (D.int y10.2.2.1), (D.int y10.2.2.2.1), (D.int y10.2.2.2.2)]), .im (D.int a1), .im (D.int a2), .im (D.int a3), .an, .im (D.int ((1 : Int) + r1.1)), .ow (D.lst (List.map (fun (z259 : (Int × Int × (List Int) × Int × Int)) => (D.tup [(D.int z259.1), (D.int z259.2.1), (D.tup (List.map D.int z259.2.2.1)), (D.int z259.2.2.2.1), (D.int z259.2.2.2.2)])) y10.1))] : List Bd)) rfl (ei_rng1T (l' := .l2) hx4 (ea_consF rfl (ev_if (eb_toF (eb_test (l := .l2) (ev_opP (l := .l2) (ev_im rfl) ev_int rv_gt))) (fun hb => by have wy3 := ifT hb hy3; obtain ⟨r2, hr2, wy3⟩ := Option.bind_eq_some_iff.mp wy3; have wy3 := Option.some.inj wy3; subst wy3; exact (ev_callMm (i := 0) (ks := [true]) (ds := [(D.int (a2 + (1 : Int)))]) (R := R__law_next) rfl rfl ⟨_, rfl⟩ (ea_consP (ev_opP (l := .l2) (ev_im rfl) ev_int rv_add) ea_nil) rfl ⟨r1.2, (a2 + (1 : Int)), r2, hr2, rfl, rfl, rfl, rfl⟩)) (fun hb => by have wy3 := ifF hb hy3; have wy3 := Option.some.inj wy3; subst wy3; exact (ev_toF ev_int))) ea_nil)) (loop_foldN (en := D.int) (ev := fun (s6 : ((List (Int × Int × (List Int) × Int × Int)) × ((List Int) × Int × Int × Int))) => ([.mu (D.lst [(D.lst (List.map D.int s6.2.1)), (D.int s6.2.2.1), (D.int s6.2.2.2.1), (D.int s6.2.2.2.2)]), .im (D.int a1), .im (D.int a2), .im (D.int a3), .an, .im (D.int ((1 : Int) + r1.1)), .ow (D.lst (List.map (fun (z257 : (Int × Int × (List Int) × Int × Int)) => (D.tup [(D.int z257.1), (D.int z257.2.1), (D.tup (List.map D.int z257.2.2.1)), (D.int z257.2.2.2.1), (D.int z257.2.2.2.2)])) s6.1))] : List Bd)) (fun x5 s6 z7 h => ?_) _ (([] : List (Int × Int × (List Int) × Int × Int)), y3.2) y10 hy10)) ?_
  · refine sdt (tg_name rfl) ?_
    obtain ⟨r8, hr8, h⟩ := Option.bind_eq_some_iff.mp h
    obtain ⟨x9, hx9, h⟩ := Option.bind_eq_some_iff.mp h
    have h := Option.some.inj h; subst h
    exact sd_endW [4] (sd_appendT (f := (fun (z256 : (Int × Int × (List Int) × Int × Int)) => (D.tup [(D.int z256.1), (D.int z256.2.1), (D.tup (List.map D.int z256.2.2.1)), (D.int z256.2.2.2.1), (D.int z256.2.2.2.2)]))) (xs := s6.1) (v := r8.1) hx9 rfl rfl (ev_callMm (i := 0) (ks := [true, true]) (ds := [(D.int ((1 : Int) + r1.1)), (D.int a3)]) (R := R__law_call) rfl rfl ⟨_, rfl⟩ (ea_consP (ev_im rfl) (ea_consP (ev_im rfl) ea_nil)) rfl ⟨s6.2, ((1 : Int) + r1.1), a3, r8, hr8, rfl, rfl, rfl, rfl⟩)) (by kernel_rfl) (by kernel_rfl)
  have h := Option.some.inj h; subst h
  exact (sd_retM (d := (D.tup [(D.int ((1 : Int) + r1.1)), (D.tup (List.map (fun (z260 : (Int × Int × (List Int) × Int × Int)) => (D.tup [(D.int z260.1), (D.int z260.2.1), (D.tup (List.map D.int z260.2.2.1)), (D.int z260.2.2.2.1), (D.int z260.2.2.2.2)])) y10.1))])) (ev_tup (ea_consP (ev_im rfl) (ea_consP (ev_tuple_ow rfl) ea_nil)) (show 2 ≤ 1000 from by decide)) rfl)
/-- _law_played -/
def m__law_played (a0 : (Int × (List (Int × Int × (List Int) × Int × Int)))) (a1 : (List Int)) (a2 : (List Int)) (a3 : (List (Int × Int × Int × Int × Int))) : Option (List (Int × Int × Int × Bool)) := (rngO 0 (List.length a2 : Int)).bind fun x1 => (compO (fun (x2 : Int) => (atI a2 x2).bind fun x3 => some (some (x3, (0 : Int), x2, (0 : Int), (-(1 : Int)), (0 : Int)))) x1).bind fun ys4 => (whileC (fun (s5 : ((List (Int × Int × Int × Int × Int × Int)) × (List (Int × Int × Int × Bool)) × (List (Int × Int)) × (List (List Int × Int)))) => some (!List.isEmpty s5.1)) (fun (s5 : ((List (Int × Int × Int × Int × Int × Int)) × (List (Int × Int × Int × Bool)) × (List (Int × Int)) × (List (List Int × Int)))) => (minO (fun (k7 : (Int × Int × Int × Int × Int × Int)) => [k7.1, k7.2.1, k7.2.2.1, k7.2.2.2.1, k7.2.2.2.2.1, k7.2.2.2.2.2]) s5.1).bind fun x8 => (compO (fun (x9 : (Int × Int × Int × Int × Int × Int)) => if (!decide ([x9.1, x9.2.1, x9.2.2.1, x9.2.2.2.1, x9.2.2.2.2.1, x9.2.2.2.2.2] = [x8.1, x8.2.1, x8.2.2.1, x8.2.2.2.1, x8.2.2.2.2.1, x8.2.2.2.2.2])) = true then some (some x9) else some none) s5.1).bind fun ys10 => (okL (List.length s5.2.1)).bind fun x11 => if (decide (((getA s5.2.2.1 x8.2.1).getD (-(1 : Int))) < x8.1)) = true then ((atI a1 x8.2.1).bind fun x12 => (okL (List.length s5.2.2.1)).bind fun x13 => (okL (List.length s5.2.2.2)).bind fun x14 => (List.foldlM (fun (s16 : ((List (Int × Int × Int × Int × Int × Int)))) (x15 : (Int × Int × Int × Int × Int)) => (if (decide (x15.1 = x8.2.2.1)) = true then (if (decide (x15.2.1 = ((getA s5.2.2.2 [x8.2.1, x8.2.2.1]).getD (0 : Int)))) = true then (atI a0.2 x15.2.2.1).bind fun x18 => some (decide (x18.1 = x8.2.1)) else some false).bind fun c19 => some c19 else some false).bind fun c20 => if c20 = true then ((atI a0.2 x15.2.2.1).bind fun x21 => (atI x21.2.2.1 x15.2.2.2.1).bind fun x22 => (atI a0.2 x15.2.2.1).bind fun x23 => (okL (List.length s16)).bind fun x24 => some (s16 ++ [(((x8.1 + x22) + x15.2.2.2.2), x23.2.1, x8.2.2.1, ((getA s5.2.2.2 [x8.2.1, x8.2.2.1]).getD (0 : Int)), x15.2.2.1, x15.2.2.2.1)])) else (some s16)) ys10 a3).bind fun y25 => some (y25, (s5.2.1 ++ [(x8.1, x8.2.1, x8.2.2.1, (decide (((getA s5.2.2.1 x8.2.1).getD (-(1 : Int))) < x8.1)))]), (putA s5.2.2.1 x8.2.1 (x8.1 + x12)), (putA s5.2.2.2 [x8.2.1, x8.2.2.1] (((getA s5.2.2.2 [x8.2.1, x8.2.2.1]).getD (0 : Int)) + (1 : Int))))) else (some (ys10, (s5.2.1 ++ [(x8.1, x8.2.1, x8.2.2.1, (decide (((getA s5.2.2.1 x8.2.1).getD (-(1 : Int))) < x8.1)))]), s5.2.2.1, s5.2.2.2))) 1000 (ys4, ([] : List (Int × Int × Int × Bool)), ([] : List (Int × Int)), ([] : List (List Int × Int)))).bind fun y26 => some y26.2.1
def R__law_played : List D → D → Prop := fun ds r => ∃ (a0 : (Int × (List (Int × Int × (List Int) × Int × Int)))) (a1 : (List Int)) (a2 : (List Int)) (a3 : (List (Int × Int × Int × Int × Int))) (v : (List (Int × Int × Int × Bool))), m__law_played a0 a1 a2 a3 = some v ∧ ds = [(D.tup [(D.int a0.1), (D.tup (List.map (fun (z341 : (Int × Int × (List Int) × Int × Int)) => (D.tup [(D.int z341.1), (D.int z341.2.1), (D.tup (List.map D.int z341.2.2.1)), (D.int z341.2.2.2.1), (D.int z341.2.2.2.2)])) a0.2))]), (D.tup (List.map D.int a1)), (D.lst (List.map D.int a2)), (D.lst (List.map (fun (z342 : (Int × Int × Int × Int × Int)) => (D.tup [(D.int z342.1), (D.int z342.2.1), (D.int z342.2.2.1), (D.int z342.2.2.2.1), (D.int z342.2.2.2.2)])) a3))] ∧ r = (D.lst (List.map (fun (z343 : (Int × Int × Int × Bool)) => (D.tup [(D.int z343.1), (D.int z343.2.1), (D.int z343.2.2.1), (D.bl z343.2.2.2)])) v))
def nm__law_played : List Str := ["_law_system_here", "_law_windows", "_law_times", "_law_schedule", "_law_open_ones", "_law_events", "_law_memory", "_law_counts", "_law_one", "_law_acts", "_law_time", "_law_service", "_law_request", "_law_act", "_law_k", "_law_other", "_law_who", "_law_number", "_law_j", "_law_delay", "_law_arrival"]
theorem sc__law_played : FnScope ["_law_system_here", "_law_windows", "_law_times", "_law_schedule", "_law_open_ones", "_law_events", "_law_memory", "_law_counts", "_law_one", "_law_acts", "_law_time", "_law_service", "_law_request", "_law_act", "_law_k", "_law_other", "_law_who", "_law_number", "_law_j", "_law_delay", "_law_arrival"] ["_law_system_here", "_law_windows", "_law_times", "_law_schedule"] (defScope (top 43)) := ⟨rfl, rfl, rfl, by decide +kernel, rfl, by decide +kernel, by decide +kernel⟩
theorem ok__law_played (T : Tx K mg) : FnOk P w K mg base CX0 1 T.a__law_played T.d__law_played ["_law_system_here", "_law_windows", "_law_times", "_law_schedule"] (SpP K [true, true, true, true] R__law_played) := by
  refine T.F__law_played.ok sc__law_played (SpP.len rfl) (fun cdv A outer s H vs Q E hr h => ⟨_, PSs.nox (pss_cons (ps_asg (pe_tup (pa_cons (pe_lc (own := [("_law_k", 14)]) rfl sc__law_played.nd (pi_range1 rfl T.b_range (pa_cons (pe_callB (lenK (K := K) (by rfl)) rfl T.b_len (by decide +kernel) (pa_cons (pv 2) pa_nil)) pa_nil)) (blkOk_by (own := [("_law_k", 14)]) (N := nm__law_played) (sc := defScope (top 43)) (by decide +kernel)) (fun _ _ _ _ _ => (pg_name (i := 14) sc__law_played.nd rfl (Or.inl rfl))) (fun _ _ _ _ _ => pts_nil) (fun _ _ _ _ _ => (pe_tup (pa_cons (pe_ix (ixLK (K := K) (by rfl)) (pv 2) (pv 14) (fun _ _ => rfl)) (pa_cons pe_int (pa_cons (pv 14) (pa_cons pe_int (pa_cons (pe_un un_neg pe_int) (pa_cons pe_int pa_nil))))))))) (pa_cons (pe_lst pa_nil) (pa_cons pe_dnewK (pa_cons pe_dnewT pa_nil))))) (pgTupK (K := K) (n := 4) (by rfl) rfl (pgs_cons (pg_name (i := 4) sc__law_played.nd rfl (Or.inl rfl)) (pgs_cons (pg_name (i := 5) sc__law_played.nd rfl (Or.inl rfl)) (pgs_cons (pg_name (i := 6) sc__law_played.nd rfl (Or.inl rfl)) (pgs_cons (pg_name (i := 7) sc__law_played.nd rfl (Or.inl rfl)) pgs_nil)))) (by rfl) (by rfl))) (pss_cons (ps_while PassesOwn.never (pt_cmpR (neDK (K := K) (by rfl) (hu64 hr)) (pv 4) (pe_lst pa_nil) (nomark _)) (pss_cons (ps_set (i := 8) sc__law_played.nd rfl (Or.inr rfl) (pe_callB (minDK (K := K) (by rfl) rfl (hu64 hr)) rfl T.b_min (by decide +kernel) (pa_cons (pv 4) pa_nil))) (pss_cons (ps_setLc (i := 4) rfl sc__law_played.nd rfl rfl (sw_true rfl rfl rfl (by decide +kernel)) (own := [("_law_other", 15)]) (piListK (K := K) (by rfl) (pv 4)) (blkOk_by (own := [("_law_other", 15)]) (N := nm__law_played) (sc := defScope (top 43)) (by decide +kernel)) (fun _ _ _ _ _ => (pg_name (i := 15) sc__law_played.nd rfl (Or.inl rfl))) (fun _ _ _ _ _ => (pts_one (pt_cmpR (neDK (K := K) (by rfl) (hu64 hr)) (pv 15) (pv 8) (nomark _)))) (fun _ _ _ _ _ => (pv 15))) (pss_cons (ps_asg (pe_slice (slTK (K := K) (by rfl)) (pv 8) po_none (po_some pe_int)) (pgTupK (K := K) (n := 3) (by rfl) rfl (pgs_cons (pg_name (i := 10) sc__law_played.nd rfl (Or.inl rfl)) (pgs_cons (pg_name (i := 11) sc__law_played.nd rfl (Or.inl rfl)) (pgs_cons (pg_name (i := 12) sc__law_played.nd rfl (Or.inl rfl)) pgs_nil))) (by rfl) (by rfl))) (pss_cons (ps_set (i := 9) sc__law_played.nd rfl (Or.inl rfl) (pe_cmpR op_gt (pv 10) (pe_dget2 (hu_of hr) (pv 6) (pv 11) (pe_un un_neg pe_int) ⟨rfl, rfl, rfl, rfl⟩) (nomark _))) (pss_cons (ps_expr (pe_bm PySem.F.plainAttrs_list PySem.F.slot_list_append PySem.F.type_list_append mt_append (pv 5) (pa_cons (pe_tup (pa_cons (pv 10) (pa_cons (pv 11) (pa_cons (pv 12) (pa_cons (pv 9) pa_nil))))) pa_nil))) (pss_one (ps_if (pt_val (pv 9)) (pss_cons (ps_dput (hu_of hr) (pv 6) (pv 11) (pe_op op_add (pv 10) (pe_ix (ixTK (K := K) (by rfl)) (pv 1) (pv 11) (fun _ _ => rfl))) rfl) (pss_cons (ps_set (i := 13) sc__law_played.nd rfl (Or.inl rfl) (pe_dget2 (hu_of hr) (pv 7) (pe_tup (pa_cons (pv 11) (pa_cons (pv 12) pa_nil))) pe_int ⟨rfl, rfl, rfl, rfl⟩)) (pss_cons (ps_dput (hu_of hr) (pv 7) (pe_tup (pa_cons (pv 11) (pa_cons (pv 12) pa_nil))) (pe_op op_add (pv 13) pe_int) rfl) (pss_one (ps_for PassesOwn.never rfl (piListK (K := K) (by rfl) (pv 3)) (pgTupK (K := K) (n := 5) (by rfl) rfl (pgs_cons (pg_name (i := 16) sc__law_played.nd rfl (Or.inl rfl)) (pgs_cons (pg_name (i := 17) sc__law_played.nd rfl (Or.inl rfl)) (pgs_cons (pg_name (i := 14) sc__law_played.nd rfl (Or.inl rfl)) (pgs_cons (pg_name (i := 18) sc__law_played.nd rfl (Or.inl rfl)) (pgs_cons (pg_name (i := 19) sc__law_played.nd rfl (Or.inl rfl)) pgs_nil))))) (by rfl) (by rfl)) (pss_one (ps_if (PW.pt (pw_and (pt_cmpR op_eq (pv 16) (pv 12) (nomark _)) (pw_and (pt_cmpR op_eq (pv 17) (pv 13) (nomark _)) (pw_and1 (pt_cmpR op_eq (pe_ix (ixTK (K := K) (by rfl)) (pe_ix (ixTK (K := K) (by rfl)) (pe_ix (ixTK (K := K) (by rfl)) (pv 0) pe_int (fun _ _ => rfl)) (pv 14) (fun _ _ => rfl)) pe_int (fun _ _ => rfl)) (pv 11) (nomark _)))))) (pss_cons (ps_set (i := 20) sc__law_played.nd rfl (Or.inl rfl) (pe_op op_add (pe_op op_add (pv 10) (pe_ix (ixTK (K := K) (by rfl)) (pe_ix (ixTK (K := K) (by rfl)) (pe_ix (ixTK (K := K) (by rfl)) (pe_ix (ixTK (K := K) (by rfl)) (pv 0) pe_int (fun _ _ => rfl)) (pv 14) (fun _ _ => rfl)) pe_int (fun _ _ => rfl)) (pv 18) (fun _ _ => rfl))) (pv 19))) (pss_one (ps_expr (pe_bm PySem.F.plainAttrs_list PySem.F.slot_list_append PySem.F.type_list_append mt_append (pv 4) (pa_cons (pe_tup (pa_cons (pv 20) (pa_cons (pe_ix (ixTK (K := K) (by rfl)) (pe_ix (ixTK (K := K) (by rfl)) (pe_ix (ixTK (K := K) (by rfl)) (pv 0) pe_int (fun _ _ => rfl)) (pv 14) (fun _ _ => rfl)) pe_int (fun _ _ => rfl)) (pa_cons (pv 12) (pa_cons (pv 13) (pa_cons (pv 14) (pa_cons (pv 18) pa_nil))))))) pa_nil))))) pss_nil))))))) pss_nil)))))))) (pss_one (ps_ret (pv 5))))), ?_⟩)
  refine run_P (n := 17) rfl h fun ds r hR => ?_
  obtain ⟨a0, a1, a2, a3, v, h, rfl, rfl⟩ := hR
  unfold m__law_played at h
  refine sd_env (env2 := ([.im (D.tup [(D.int a0.1), (D.tup (List.map (fun (z344 : (Int × Int × (List Int) × Int × Int)) => (D.tup [(D.int z344.1), (D.int z344.2.1), (D.tup (List.map D.int z344.2.2.1)), (D.int z344.2.2.2.1), (D.int z344.2.2.2.2)])) a0.2))]), .im (D.tup (List.map D.int a1)), .im (D.lst (List.map D.int a2)), .im (D.lst (List.map (fun (z345 : (Int × Int × Int × Int × Int)) => (D.tup [(D.int z345.1), (D.int z345.2.1), (D.int z345.2.2.1), (D.int z345.2.2.2.1), (D.int z345.2.2.2.2)])) a3)), .an, .an, .an, .an, .an, .an, .an, .an, .an, .an, .an, .an, .an, .an, .an, .an, .an] : List Bd)) rfl ?_
  obtain ⟨x1, hx1, h⟩ := Option.bind_eq_some_iff.mp h
  obtain ⟨ys4, hys4, h⟩ := Option.bind_eq_some_iff.mp h
  refine sd_seq (sd_parT (n := 4) (pf_ow (d := (D.lst (List.map (fun (z265 : (Int × Int × Int × Int × Int × Int)) => (D.tup [(D.int z265.1), (D.int z265.2.1), (D.int z265.2.2.1), (D.int z265.2.2.2.1), (D.int z265.2.2.2.2.1), (D.int z265.2.2.2.2.2)])) ys4))) rfl (ef_lcO (l := .l2) (en := D.int) (eb := (fun (z262 : (Int × Int × Int × Int × Int × Int)) => (D.tup [(D.int z262.1), (D.int z262.2.1), (D.int z262.2.2.1), (D.int z262.2.2.2.1), (D.int z262.2.2.2.2.1), (D.int z262.2.2.2.2.2)]))) hys4 rfl (ei_rng1T (l' := .l2) hx1 (ea_consP (ev_cb (l := .l2) (ea_consP (ev_im rfl) ea_nil) (rc_len_lm (f := D.int))) ea_nil)) (tw_name (i := 14) (vs := [14]) (by decide)) (anC (v := 14) rfl anN) (fun x2 rr wys4 => by obtain ⟨x3, hx3, wys4⟩ := Option.bind_eq_some_iff.mp wys4; have wys4 := Option.some.inj wys4; subst wys4; exact turn_yes (tg_name rfl) eb_yes (ev_tup (ea_consP (ev_opP (l := .l2) (ev_im rfl) (ev_im rfl) (rv_ixLm (f := D.int) (xs := a2) (v := x3) hx3)) (ea_consP ev_int (ea_consP (ev_im rfl) (ea_consP ev_int (ea_consP (ev_un (f := fun i => V.int (-i)) (e := D.int (-(1 : Int))) (l := .l2) ev_int (fun _ => rfl)) (ea_consP ev_int ea_nil)))))) (show 6 ≤ 1000 from by decide)) rfl rfl rfl (anC (v := 14) rfl anN))) (pf_ow (d := (D.lst (List.map (fun (z263 : (Int × Int × Int × Bool)) => (D.tup [(D.int z263.1), (D.int z263.2.1), (D.int z263.2.2.1), (D.bl z263.2.2.2)])) ([] : List (Int × Int × Int × Bool))))) rfl (ef_is (D.lst (List.map (fun (z264 : (Int × Int × Int × Bool)) => (D.tup [(D.int z264.1), (D.int z264.2.1), (D.int z264.2.2.1), (D.bl z264.2.2.2)])) ([] : List (Int × Int × Int × Bool)))) (ef_lst ea_nil (show 0 ≤ 1000 from by decide)) rfl) (pf_ow (d := (dkL (List.map (fun (z : Int × Int) => ((Sum.inl z.1 : Key), (D.int z.2))) ([] : List (Int × Int))))) rfl (ef_is (dkL (List.map (fun (z : Int × Int) => ((Sum.inl z.1 : Key), (D.int z.2))) ([] : List (Int × Int)))) ef_dk rfl) (pf_ow (d := (dtL (List.map (fun (z : List Int × Int) => ((z.1.map Sum.inl : List Key), (D.int z.2))) ([] : List (List Int × Int))))) rfl (ef_is (dtL (List.map (fun (z : List Int × Int) => ((z.1.map Sum.inl : List Key), (D.int z.2))) ([] : List (List Int × Int)))) ef_dt rfl) pf_nil)))) (fun _ _ _ _ h => gs_cons (fun _ _ _ _ h => gs_cons (fun _ _ _ _ h => gs_cons (fun _ _ _ _ h => gs_cons (fun _ _ _ _ h => gs_nil h) (gn_ex _) h) (gn_ex _) h) (gn_ex _) h) (gn_ex _) h) (show 4 ≤ 1000 from by decide)) ?_
  refine sd_env (env2 := ([.im (D.tup [(D.int a0.1), (D.tup (List.map (fun (z266 : (Int × Int × (List Int) × Int × Int)) => (D.tup [(D.int z266.1), (D.int z266.2.1), (D.tup (List.map D.int z266.2.2.1)), (D.int z266.2.2.2.1), (D.int z266.2.2.2.2)])) a0.2))]), .im (D.tup (List.map D.int a1)), .im (D.lst (List.map D.int a2)), .im (D.lst (List.map (fun (z267 : (Int × Int × Int × Int × Int)) => (D.tup [(D.int z267.1), (D.int z267.2.1), (D.int z267.2.2.1), (D.int z267.2.2.2.1), (D.int z267.2.2.2.2)])) a3)), .ow (D.lst (List.map (fun (z268 : (Int × Int × Int × Int × Int × Int)) => (D.tup [(D.int z268.1), (D.int z268.2.1), (D.int z268.2.2.1), (D.int z268.2.2.2.1), (D.int z268.2.2.2.2.1), (D.int z268.2.2.2.2.2)])) ys4)), .ow (D.lst (List.map (fun (z269 : (Int × Int × Int × Bool)) => (D.tup [(D.int z269.1), (D.int z269.2.1), (D.int z269.2.2.1), (D.bl z269.2.2.2)])) ([] : List (Int × Int × Int × Bool)))), .ow (dkL (List.map (fun (z : Int × Int) => ((Sum.inl z.1 : Key), (D.int z.2))) ([] : List (Int × Int)))), .ow (dtL (List.map (fun (z : List Int × Int) => ((z.1.map Sum.inl : List Key), (D.int z.2))) ([] : List (List Int × Int)))), .an, .an, .an, .an, .an, .an, .an, .an, .an, .an, .an, .an, .an] : List Bd)) (by kernel_rfl) ?_
  obtain ⟨y26, hy26, h⟩ := Option.bind_eq_some_iff.mp h
  refine sd_wp' [8, 10, 11, 12, 9, 13, 16, 17, 14, 18, 19, 20] (by kernel_rfl) (env2 := ([.im (D.tup [(D.int a0.1), (D.tup (List.map (fun (z332 : (Int × Int × (List Int) × Int × Int)) => (D.tup [(D.int z332.1), (D.int z332.2.1), (D.tup (List.map D.int z332.2.2.1)), (D.int z332.2.2.2.1), (D.int z332.2.2.2.2)])) a0.2))]), .im (D.tup (List.map D.int a1)), .im (D.lst (List.map D.int a2)), .im (D.lst (List.map (fun (z333 : (Int × Int × Int × Int × Int)) => (D.tup [(D.int z333.1), (D.int z333.2.1), (D.int z333.2.2.1), (D.int z333.2.2.2.1), (D.int z333.2.2.2.2)])) a3)), .ow (D.lst (List.map (fun (z334 : (Int × Int × Int × Int × Int × Int)) => (D.tup [(D.int z334.1), (D.int z334.2.1), (D.int z334.2.2.1), (D.int z334.2.2.2.1), (D.int z334.2.2.2.2.1), (D.int z334.2.2.2.2.2)])) ys4)), .ow (D.lst (List.map (fun (z335 : (Int × Int × Int × Bool)) => (D.tup [(D.int z335.1), (D.int z335.2.1), (D.int z335.2.2.1), (D.bl z335.2.2.2)])) ([] : List (Int × Int × Int × Bool)))), .ow (dkL (List.map (fun (z : Int × Int) => ((Sum.inl z.1 : Key), (D.int z.2))) ([] : List (Int × Int)))), .ow (dtL (List.map (fun (z : List Int × Int) => ((z.1.map Sum.inl : List Key), (D.int z.2))) ([] : List (List Int × Int)))), .an, .an, .an, .an, .an, .an, .an, .an, .an, .an, .an, .an, .an] : List Bd)) (by kernel_rfl) ?_
  refine sd_seq (sd_while (p := true) (o := .nx ([.im (D.tup [(D.int a0.1), (D.tup (List.map (fun (z336 : (Int × Int × (List Int) × Int × Int)) => (D.tup [(D.int z336.1), (D.int z336.2.1), (D.tup (List.map D.int z336.2.2.1)), (D.int z336.2.2.2.1), (D.int z336.2.2.2.2)])) a0.2))]), .im (D.tup (List.map D.int a1)), .im (D.lst (List.map D.int a2)), .im (D.lst (List.map (fun (z337 : (Int × Int × Int × Int × Int)) => (D.tup [(D.int z337.1), (D.int z337.2.1), (D.int z337.2.2.1), (D.int z337.2.2.2.1), (D.int z337.2.2.2.2)])) a3)), .ow (D.lst (List.map (fun (z338 : (Int × Int × Int × Int × Int × Int)) => (D.tup [(D.int z338.1), (D.int z338.2.1), (D.int z338.2.2.1), (D.int z338.2.2.2.1), (D.int z338.2.2.2.2.1), (D.int z338.2.2.2.2.2)])) y26.1)), .ow (D.lst (List.map (fun (z339 : (Int × Int × Int × Bool)) => (D.tup [(D.int z339.1), (D.int z339.2.1), (D.int z339.2.2.1), (D.bl z339.2.2.2)])) y26.2.1)), .ow (dkL (List.map (fun (z : Int × Int) => ((Sum.inl z.1 : Key), (D.int z.2))) y26.2.2.1)), .ow (dtL (List.map (fun (z : List Int × Int) => ((z.1.map Sum.inl : List Key), (D.int z.2))) y26.2.2.2)), .an, .an, .an, .an, .an, .an, .an, .an, .an, .an, .an, .an, .an] : List Bd)) (wloopC (C := EvB K true _) (ev := fun (s5 : ((List (Int × Int × Int × Int × Int × Int)) × (List (Int × Int × Int × Bool)) × (List (Int × Int)) × (List (List Int × Int)))) => ([.im (D.tup [(D.int a0.1), (D.tup (List.map (fun (z328 : (Int × Int × (List Int) × Int × Int)) => (D.tup [(D.int z328.1), (D.int z328.2.1), (D.tup (List.map D.int z328.2.2.1)), (D.int z328.2.2.2.1), (D.int z328.2.2.2.2)])) a0.2))]), .im (D.tup (List.map D.int a1)), .im (D.lst (List.map D.int a2)), .im (D.lst (List.map (fun (z329 : (Int × Int × Int × Int × Int)) => (D.tup [(D.int z329.1), (D.int z329.2.1), (D.int z329.2.2.1), (D.int z329.2.2.2.1), (D.int z329.2.2.2.2)])) a3)), .ow (D.lst (List.map (fun (z330 : (Int × Int × Int × Int × Int × Int)) => (D.tup [(D.int z330.1), (D.int z330.2.1), (D.int z330.2.2.1), (D.int z330.2.2.2.1), (D.int z330.2.2.2.2.1), (D.int z330.2.2.2.2.2)])) s5.1)), .ow (D.lst (List.map (fun (z331 : (Int × Int × Int × Bool)) => (D.tup [(D.int z331.1), (D.int z331.2.1), (D.int z331.2.2.1), (D.bl z331.2.2.2)])) s5.2.1)), .ow (dkL (List.map (fun (z : Int × Int) => ((Sum.inl z.1 : Key), (D.int z.2))) s5.2.2.1)), .ow (dtL (List.map (fun (z : List Int × Int) => ((z.1.map Sum.inl : List Key), (D.int z.2))) s5.2.2.2)), .an, .an, .an, .an, .an, .an, .an, .an, .an, .an, .an, .an, .an] : List Bd)) (fun s5 bb h => ?_) (fun s5 z6 hb h => ?_) _ (ys4, ([] : List (Int × Int × Int × Bool)), ([] : List (Int × Int)), ([] : List (List Int × Int))) y26 hy26)) ?_
  · skip
    have h := Option.some.inj h; subst h
    exact (eb_test (l := .l2) (ev_opP (l := .l3) (ev_ow (.inr rfl) rfl) (ev_lst ea_nil (Nat.zero_le _)) (rv_neNilT (f := (fun (z270 : (Int × Int × Int × Int × Int × Int)) => (D.tup [(D.int z270.1), (D.int z270.2.1), (D.int z270.2.2.1), (D.int z270.2.2.2.1), (D.int z270.2.2.2.2.1), (D.int z270.2.2.2.2.2)]))) (n := 4) (fun _ => (pl_tup (pll_cons (pl_up (m := 3) (by decide) (pl_int _)) (pll_cons (pl_up (m := 3) (by decide) (pl_int _)) (pll_cons (pl_up (m := 3) (by decide) (pl_int _)) (pll_cons (pl_up (m := 3) (by decide) (pl_int _)) (pll_cons (pl_up (m := 3) (by decide) (pl_int _)) (pll_cons (pl_up (m := 3) (by decide) (pl_int _)) (pll_nil _))))))))) (by decide))))
  · skip
    obtain ⟨x8, hx8, h⟩ := Option.bind_eq_some_iff.mp h
    refine sd_seq (sd_asg (d := (D.tup [(D.int x8.1), (D.int x8.2.1), (D.int x8.2.2.1), (D.int x8.2.2.2.1), (D.int x8.2.2.2.2.1), (D.int x8.2.2.2.2.2)])) rfl (ev_minOwT (key := (fun (k7 : (Int × Int × Int × Int × Int × Int)) => [k7.1, k7.2.1, k7.2.2.1, k7.2.2.2.1, k7.2.2.2.2.1, k7.2.2.2.2.2])) rfl hx8)) ?_
    refine sd_env (env2 := ([.im (D.tup [(D.int a0.1), (D.tup (List.map (fun (z271 : (Int × Int × (List Int) × Int × Int)) => (D.tup [(D.int z271.1), (D.int z271.2.1), (D.tup (List.map D.int z271.2.2.1)), (D.int z271.2.2.2.1), (D.int z271.2.2.2.2)])) a0.2))]), .im (D.tup (List.map D.int a1)), .im (D.lst (List.map D.int a2)), .im (D.lst (List.map (fun (z272 : (Int × Int × Int × Int × Int)) => (D.tup [(D.int z272.1), (D.int z272.2.1), (D.int z272.2.2.1), (D.int z272.2.2.2.1), (D.int z272.2.2.2.2)])) a3)), .ow (D.lst (List.map (fun (z273 : (Int × Int × Int × Int × Int × Int)) => (D.tup [(D.int z273.1), (D.int z273.2.1), (D.int z273.2.2.1), (D.int z273.2.2.2.1), (D.int z273.2.2.2.2.1), (D.int z273.2.2.2.2.2)])) s5.1)), .ow (D.lst (List.map (fun (z274 : (Int × Int × Int × Bool)) => (D.tup [(D.int z274.1), (D.int z274.2.1), (D.int z274.2.2.1), (D.bl z274.2.2.2)])) s5.2.1)), .ow (dkL (List.map (fun (z : Int × Int) => ((Sum.inl z.1 : Key), (D.int z.2))) s5.2.2.1)), .ow (dtL (List.map (fun (z : List Int × Int) => ((z.1.map Sum.inl : List Key), (D.int z.2))) s5.2.2.2)), .im (D.tup [(D.int x8.1), (D.int x8.2.1), (D.int x8.2.2.1), (D.int x8.2.2.2.1), (D.int x8.2.2.2.2.1), (D.int x8.2.2.2.2.2)]), .an, .an, .an, .an, .an, .an, .an, .an, .an, .an, .an, .an] : List Bd)) (by kernel_rfl) ?_
    refine sd_freeze (i := 4) rfl ?_
    obtain ⟨ys10, hys10, h⟩ := Option.bind_eq_some_iff.mp h
    refine sd_seq (sd_asgF (d := (D.lst (List.map (fun (z277 : (Int × Int × Int × Int × Int × Int)) => (D.tup [(D.int z277.1), (D.int z277.2.1), (D.int z277.2.2.1), (D.int z277.2.2.2.1), (D.int z277.2.2.2.2.1), (D.int z277.2.2.2.2.2)])) ys10))) rfl (ef_lcO (l := .l2) (en := (fun (z275 : (Int × Int × Int × Int × Int × Int)) => (D.tup [(D.int z275.1), (D.int z275.2.1), (D.int z275.2.2.1), (D.int z275.2.2.2.1), (D.int z275.2.2.2.2.1), (D.int z275.2.2.2.2.2)]))) (eb := (fun (z276 : (Int × Int × Int × Int × Int × Int)) => (D.tup [(D.int z276.1), (D.int z276.2.1), (D.int z276.2.2.1), (D.int z276.2.2.2.1), (D.int z276.2.2.2.2.1), (D.int z276.2.2.2.2.2)]))) hys10 rfl (ei_list rfl (ev_im rfl)) (tw_name (i := 15) (vs := [15]) (by decide)) (anC (v := 15) rfl anN) (fun x9 rr wys10 => by exact (Bool.eq_false_or_eq_true ((!decide ([x9.1, x9.2.1, x9.2.2.1, x9.2.2.2.1, x9.2.2.2.2.1, x9.2.2.2.2.2] = [x8.1, x8.2.1, x8.2.2.1, x8.2.2.2.1, x8.2.2.2.2.1, x8.2.2.2.2.2])))).elim (fun hb => by have wys10 := ifT hb wys10; have wys10 := Option.some.inj wys10; subst wys10; exact turn_yes (tg_name rfl) (eb_is (eb_test (l := .l2) (ev_opP (l := .l2) (ev_im rfl) (ev_im rfl) (rv_neTI (xs := [x9.1, x9.2.1, x9.2.2.1, x9.2.2.2.1, x9.2.2.2.2.1, x9.2.2.2.2.2]) (ys := [x8.1, x8.2.1, x8.2.2.1, x8.2.2.2.1, x8.2.2.2.2.1, x8.2.2.2.2.2])))) hb) (ev_im rfl) rfl rfl rfl (anC (v := 15) rfl anN)) (fun hb => by have wys10 := ifF hb wys10; have wys10 := Option.some.inj wys10; subst wys10; exact turn_no (tg_name rfl) (eb_is (eb_test (l := .l2) (ev_opP (l := .l2) (ev_im rfl) (ev_im rfl) (rv_neTI (xs := [x9.1, x9.2.1, x9.2.2.1, x9.2.2.2.1, x9.2.2.2.2.1, x9.2.2.2.2.2]) (ys := [x8.1, x8.2.1, x8.2.2.1, x8.2.2.2.1, x8.2.2.2.2.1, x8.2.2.2.2.2])))) hb) rfl rfl (anC (v := 15) rfl anN))))) ?_
    refine sd_env (env2 := ([.im (D.tup [(D.int a0.1), (D.tup (List.map (fun (z278 : (Int × Int × (List Int) × Int × Int)) => (D.tup [(D.int z278.1), (D.int z278.2.1), (D.tup (List.map D.int z278.2.2.1)), (D.int z278.2.2.2.1), (D.int z278.2.2.2.2)])) a0.2))]), .im (D.tup (List.map D.int a1)), .im (D.lst (List.map D.int a2)), .im (D.lst (List.map (fun (z279 : (Int × Int × Int × Int × Int)) => (D.tup [(D.int z279.1), (D.int z279.2.1), (D.int z279.2.2.1), (D.int z279.2.2.2.1), (D.int z279.2.2.2.2)])) a3)), .ow (D.lst (List.map (fun (z280 : (Int × Int × Int × Int × Int × Int)) => (D.tup [(D.int z280.1), (D.int z280.2.1), (D.int z280.2.2.1), (D.int z280.2.2.2.1), (D.int z280.2.2.2.2.1), (D.int z280.2.2.2.2.2)])) ys10)), .ow (D.lst (List.map (fun (z281 : (Int × Int × Int × Bool)) => (D.tup [(D.int z281.1), (D.int z281.2.1), (D.int z281.2.2.1), (D.bl z281.2.2.2)])) s5.2.1)), .ow (dkL (List.map (fun (z : Int × Int) => ((Sum.inl z.1 : Key), (D.int z.2))) s5.2.2.1)), .ow (dtL (List.map (fun (z : List Int × Int) => ((z.1.map Sum.inl : List Key), (D.int z.2))) s5.2.2.2)), .im (D.tup [(D.int x8.1), (D.int x8.2.1), (D.int x8.2.2.1), (D.int x8.2.2.2.1), (D.int x8.2.2.2.2.1), (D.int x8.2.2.2.2.2)]), .an, .an, .an, .an, .an, .an, .an, .an, .an, .an, .an, .an] : List Bd)) (by kernel_rfl) ?_
    refine sd_seq (sd_asgG (l := .l2) (d := (D.tup [(D.int x8.1), (D.int x8.2.1), (D.int x8.2.2.1)])) (ev_is (ev_slT (m := 3) (ev_im rfl) ev_int (show 3 < 6 from by decide)) (show _ = (D.tup [(D.int x8.1), (D.int x8.2.1), (D.int x8.2.2.1)]) from rfl)) (tg_tup rfl (tgs_cons (tg_name rfl) (tgs_cons (tg_name rfl) (tgs_cons (tg_name rfl) tgs_nil))))) ?_
    refine sd_env (env2 := ([.im (D.tup [(D.int a0.1), (D.tup (List.map (fun (z282 : (Int × Int × (List Int) × Int × Int)) => (D.tup [(D.int z282.1), (D.int z282.2.1), (D.tup (List.map D.int z282.2.2.1)), (D.int z282.2.2.2.1), (D.int z282.2.2.2.2)])) a0.2))]), .im (D.tup (List.map D.int a1)), .im (D.lst (List.map D.int a2)), .im (D.lst (List.map (fun (z283 : (Int × Int × Int × Int × Int)) => (D.tup [(D.int z283.1), (D.int z283.2.1), (D.int z283.2.2.1), (D.int z283.2.2.2.1), (D.int z283.2.2.2.2)])) a3)), .ow (D.lst (List.map (fun (z284 : (Int × Int × Int × Int × Int × Int)) => (D.tup [(D.int z284.1), (D.int z284.2.1), (D.int z284.2.2.1), (D.int z284.2.2.2.1), (D.int z284.2.2.2.2.1), (D.int z284.2.2.2.2.2)])) ys10)), .ow (D.lst (List.map (fun (z285 : (Int × Int × Int × Bool)) => (D.tup [(D.int z285.1), (D.int z285.2.1), (D.int z285.2.2.1), (D.bl z285.2.2.2)])) s5.2.1)), .ow (dkL (List.map (fun (z : Int × Int) => ((Sum.inl z.1 : Key), (D.int z.2))) s5.2.2.1)), .ow (dtL (List.map (fun (z : List Int × Int) => ((z.1.map Sum.inl : List Key), (D.int z.2))) s5.2.2.2)), .im (D.tup [(D.int x8.1), (D.int x8.2.1), (D.int x8.2.2.1), (D.int x8.2.2.2.1), (D.int x8.2.2.2.2.1), (D.int x8.2.2.2.2.2)]), .an, .im (D.int x8.1), .im (D.int x8.2.1), .im (D.int x8.2.2.1), .an, .an, .an, .an, .an, .an, .an, .an] : List Bd)) (by kernel_rfl) ?_
    refine sd_seq (sd_asg (d := (D.bl (decide (((getA s5.2.2.1 x8.2.1).getD (-(1 : Int))) < x8.1)))) rfl (ev_opP (l := .l2) (ev_im rfl) (ev_dget2Kt (f := D.int) (v := (-(1 : Int))) rfl (ev_im rfl) (ev_un (f := fun i => V.int (-i)) (e := D.int (-(1 : Int))) (l := .l2) ev_int (fun _ => rfl))) rv_gt)) ?_
    refine sd_env (env2 := ([.im (D.tup [(D.int a0.1), (D.tup (List.map (fun (z286 : (Int × Int × (List Int) × Int × Int)) => (D.tup [(D.int z286.1), (D.int z286.2.1), (D.tup (List.map D.int z286.2.2.1)), (D.int z286.2.2.2.1), (D.int z286.2.2.2.2)])) a0.2))]), .im (D.tup (List.map D.int a1)), .im (D.lst (List.map D.int a2)), .im (D.lst (List.map (fun (z287 : (Int × Int × Int × Int × Int)) => (D.tup [(D.int z287.1), (D.int z287.2.1), (D.int z287.2.2.1), (D.int z287.2.2.2.1), (D.int z287.2.2.2.2)])) a3)), .ow (D.lst (List.map (fun (z288 : (Int × Int × Int × Int × Int × Int)) => (D.tup [(D.int z288.1), (D.int z288.2.1), (D.int z288.2.2.1), (D.int z288.2.2.2.1), (D.int z288.2.2.2.2.1), (D.int z288.2.2.2.2.2)])) ys10)), .ow (D.lst (List.map (fun (z289 : (Int × Int × Int × Bool)) => (D.tup [(D.int z289.1), (D.int z289.2.1), (D.int z289.2.2.1), (D.bl z289.2.2.2)])) s5.2.1)), .ow (dkL (List.map (fun (z : Int × Int) => ((Sum.inl z.1 : Key), (D.int z.2))) s5.2.2.1)), .ow (dtL (List.map (fun (z : List Int × Int) => ((z.1.map Sum.inl : List Key), (D.int z.2))) s5.2.2.2)), .im (D.tup [(D.int x8.1), (D.int x8.2.1), (D.int x8.2.2.1), (D.int x8.2.2.2.1), (D.int x8.2.2.2.2.1), (D.int x8.2.2.2.2.2)]), .im (D.bl (decide (((getA s5.2.2.1 x8.2.1).getD (-(1 : Int))) < x8.1))), .im (D.int x8.1), .im (D.int x8.2.1), .im (D.int x8.2.2.1), .an, .an, .an, .an, .an, .an, .an, .an] : List Bd)) (by kernel_rfl) ?_
    obtain ⟨x11, hx11, h⟩ := Option.bind_eq_some_iff.mp h
    refine sd_seq (sd_appendT (f := (fun (z290 : (Int × Int × Int × Bool)) => (D.tup [(D.int z290.1), (D.int z290.2.1), (D.int z290.2.2.1), (D.bl z290.2.2.2)]))) (xs := s5.2.1) (v := (x8.1, x8.2.1, x8.2.2.1, (decide (((getA s5.2.2.1 x8.2.1).getD (-(1 : Int))) < x8.1)))) hx11 rfl rfl (ev_tup (ea_consP (ev_im rfl) (ea_consP (ev_im rfl) (ea_consP (ev_im rfl) (ea_consP (ev_im rfl) ea_nil)))) (show 4 ≤ 1000 from by decide))) ?_
    refine sd_env (env2 := ([.im (D.tup [(D.int a0.1), (D.tup (List.map (fun (z291 : (Int × Int × (List Int) × Int × Int)) => (D.tup [(D.int z291.1), (D.int z291.2.1), (D.tup (List.map D.int z291.2.2.1)), (D.int z291.2.2.2.1), (D.int z291.2.2.2.2)])) a0.2))]), .im (D.tup (List.map D.int a1)), .im (D.lst (List.map D.int a2)), .im (D.lst (List.map (fun (z292 : (Int × Int × Int × Int × Int)) => (D.tup [(D.int z292.1), (D.int z292.2.1), (D.int z292.2.2.1), (D.int z292.2.2.2.1), (D.int z292.2.2.2.2)])) a3)), .ow (D.lst (List.map (fun (z293 : (Int × Int × Int × Int × Int × Int)) => (D.tup [(D.int z293.1), (D.int z293.2.1), (D.int z293.2.2.1), (D.int z293.2.2.2.1), (D.int z293.2.2.2.2.1), (D.int z293.2.2.2.2.2)])) ys10)), .ow (D.lst (List.map (fun (z294 : (Int × Int × Int × Bool)) => (D.tup [(D.int z294.1), (D.int z294.2.1), (D.int z294.2.2.1), (D.bl z294.2.2.2)])) (s5.2.1 ++ [(x8.1, x8.2.1, x8.2.2.1, (decide (((getA s5.2.2.1 x8.2.1).getD (-(1 : Int))) < x8.1)))]))), .ow (dkL (List.map (fun (z : Int × Int) => ((Sum.inl z.1 : Key), (D.int z.2))) s5.2.2.1)), .ow (dtL (List.map (fun (z : List Int × Int) => ((z.1.map Sum.inl : List Key), (D.int z.2))) s5.2.2.2)), .im (D.tup [(D.int x8.1), (D.int x8.2.1), (D.int x8.2.2.1), (D.int x8.2.2.2.1), (D.int x8.2.2.2.2.1), (D.int x8.2.2.2.2.2)]), .im (D.bl (decide (((getA s5.2.2.1 x8.2.1).getD (-(1 : Int))) < x8.1))), .im (D.int x8.1), .im (D.int x8.2.1), .im (D.int x8.2.2.1), .an, .an, .an, .an, .an, .an, .an, .an] : List Bd)) (by kernel_rfl) ?_
    refine sd_if (eb_B (l := .l2) (ev_im rfl)) (fun hb => ?_) (fun hb => ?_)
    · replace h := ifT hb h
      obtain ⟨x12, hx12, h⟩ := Option.bind_eq_some_iff.mp h
      obtain ⟨x13, hx13, h⟩ := Option.bind_eq_some_iff.mp h
      refine sd_seq (sd_dputKt (f := D.int) (l1 := s5.2.2.1) (v := (x8.1 + x12)) rfl (ev_opP (l := .l2) (ev_im rfl) (ev_opP (l := .l2) (ev_im rfl) (ev_im rfl) (rv_ixTm (f := D.int) (xs := a1) (v := x12) hx12)) rv_add) (ev_im rfl) (okL_of hx13)) ?_
      refine sd_env (env2 := ([.im (D.tup [(D.int a0.1), (D.tup (List.map (fun (z295 : (Int × Int × (List Int) × Int × Int)) => (D.tup [(D.int z295.1), (D.int z295.2.1), (D.tup (List.map D.int z295.2.2.1)), (D.int z295.2.2.2.1), (D.int z295.2.2.2.2)])) a0.2))]), .im (D.tup (List.map D.int a1)), .im (D.lst (List.map D.int a2)), .im (D.lst (List.map (fun (z296 : (Int × Int × Int × Int × Int)) => (D.tup [(D.int z296.1), (D.int z296.2.1), (D.int z296.2.2.1), (D.int z296.2.2.2.1), (D.int z296.2.2.2.2)])) a3)), .ow (D.lst (List.map (fun (z297 : (Int × Int × Int × Int × Int × Int)) => (D.tup [(D.int z297.1), (D.int z297.2.1), (D.int z297.2.2.1), (D.int z297.2.2.2.1), (D.int z297.2.2.2.2.1), (D.int z297.2.2.2.2.2)])) ys10)), .ow (D.lst (List.map (fun (z298 : (Int × Int × Int × Bool)) => (D.tup [(D.int z298.1), (D.int z298.2.1), (D.int z298.2.2.1), (D.bl z298.2.2.2)])) (s5.2.1 ++ [(x8.1, x8.2.1, x8.2.2.1, (decide (((getA s5.2.2.1 x8.2.1).getD (-(1 : Int))) < x8.1)))]))), .ow (dkL (List.map (fun (z : Int × Int) => ((Sum.inl z.1 : Key), (D.int z.2))) (putA s5.2.2.1 x8.2.1 (x8.1 + x12)))), .ow (dtL (List.map (fun (z : List Int × Int) => ((z.1.map Sum.inl : List Key), (D.int z.2))) s5.2.2.2)), .im (D.tup [(D.int x8.1), (D.int x8.2.1), (D.int x8.2.2.1), (D.int x8.2.2.2.1), (D.int x8.2.2.2.2.1), (D.int x8.2.2.2.2.2)]), .im (D.bl (decide (((getA s5.2.2.1 x8.2.1).getD (-(1 : Int))) < x8.1))), .im (D.int x8.1), .im (D.int x8.2.1), .im (D.int x8.2.2.1), .an, .an, .an, .an, .an, .an, .an, .an] : List Bd)) (by kernel_rfl) ?_
      refine sd_seq (sd_asg (d := (D.int ((getA s5.2.2.2 [x8.2.1, x8.2.2.1]).getD (0 : Int)))) rfl (ev_dget2Tt (f := D.int) (ns := [x8.2.1, x8.2.2.1]) (v := (0 : Int)) rfl (ea_consP (ev_im rfl) (ea_consP (ev_im rfl) ea_nil)) (show 2 ≤ 1000 from by decide) ev_int)) ?_
      refine sd_env (env2 := ([.im (D.tup [(D.int a0.1), (D.tup (List.map (fun (z299 : (Int × Int × (List Int) × Int × Int)) => (D.tup [(D.int z299.1), (D.int z299.2.1), (D.tup (List.map D.int z299.2.2.1)), (D.int z299.2.2.2.1), (D.int z299.2.2.2.2)])) a0.2))]), .im (D.tup (List.map D.int a1)), .im (D.lst (List.map D.int a2)), .im (D.lst (List.map (fun (z300 : (Int × Int × Int × Int × Int)) => (D.tup [(D.int z300.1), (D.int z300.2.1), (D.int z300.2.2.1), (D.int z300.2.2.2.1), (D.int z300.2.2.2.2)])) a3)), .ow (D.lst (List.map (fun (z301 : (Int × Int × Int × Int × Int × Int)) => (D.tup [(D.int z301.1), (D.int z301.2.1), (D.int z301.2.2.1), (D.int z301.2.2.2.1), (D.int z301.2.2.2.2.1), (D.int z301.2.2.2.2.2)])) ys10)), .ow (D.lst (List.map (fun (z302 : (Int × Int × Int × Bool)) => (D.tup [(D.int z302.1), (D.int z302.2.1), (D.int z302.2.2.1), (D.bl z302.2.2.2)])) (s5.2.1 ++ [(x8.1, x8.2.1, x8.2.2.1, (decide (((getA s5.2.2.1 x8.2.1).getD (-(1 : Int))) < x8.1)))]))), .ow (dkL (List.map (fun (z : Int × Int) => ((Sum.inl z.1 : Key), (D.int z.2))) (putA s5.2.2.1 x8.2.1 (x8.1 + x12)))), .ow (dtL (List.map (fun (z : List Int × Int) => ((z.1.map Sum.inl : List Key), (D.int z.2))) s5.2.2.2)), .im (D.tup [(D.int x8.1), (D.int x8.2.1), (D.int x8.2.2.1), (D.int x8.2.2.2.1), (D.int x8.2.2.2.2.1), (D.int x8.2.2.2.2.2)]), .im (D.bl (decide (((getA s5.2.2.1 x8.2.1).getD (-(1 : Int))) < x8.1))), .im (D.int x8.1), .im (D.int x8.2.1), .im (D.int x8.2.2.1), .im (D.int ((getA s5.2.2.2 [x8.2.1, x8.2.2.1]).getD (0 : Int))), .an, .an, .an, .an, .an, .an, .an] : List Bd)) (by kernel_rfl) ?_
      obtain ⟨x14, hx14, h⟩ := Option.bind_eq_some_iff.mp h
      refine sd_seq (sd_dputTt (f := D.int) (l1 := s5.2.2.2) (v := (((getA s5.2.2.2 [x8.2.1, x8.2.2.1]).getD (0 : Int)) + (1 : Int))) (ns := [x8.2.1, x8.2.2.1]) rfl (ev_opP (l := .l2) (ev_im rfl) ev_int rv_add) (ea_consP (ev_im rfl) (ea_consP (ev_im rfl) ea_nil)) (show 2 ≤ 1000 from by decide) (okL_of hx14)) ?_
      refine sd_env (env2 := ([.im (D.tup [(D.int a0.1), (D.tup (List.map (fun (z303 : (Int × Int × (List Int) × Int × Int)) => (D.tup [(D.int z303.1), (D.int z303.2.1), (D.tup (List.map D.int z303.2.2.1)), (D.int z303.2.2.2.1), (D.int z303.2.2.2.2)])) a0.2))]), .im (D.tup (List.map D.int a1)), .im (D.lst (List.map D.int a2)), .im (D.lst (List.map (fun (z304 : (Int × Int × Int × Int × Int)) => (D.tup [(D.int z304.1), (D.int z304.2.1), (D.int z304.2.2.1), (D.int z304.2.2.2.1), (D.int z304.2.2.2.2)])) a3)), .ow (D.lst (List.map (fun (z305 : (Int × Int × Int × Int × Int × Int)) => (D.tup [(D.int z305.1), (D.int z305.2.1), (D.int z305.2.2.1), (D.int z305.2.2.2.1), (D.int z305.2.2.2.2.1), (D.int z305.2.2.2.2.2)])) ys10)), .ow (D.lst (List.map (fun (z306 : (Int × Int × Int × Bool)) => (D.tup [(D.int z306.1), (D.int z306.2.1), (D.int z306.2.2.1), (D.bl z306.2.2.2)])) (s5.2.1 ++ [(x8.1, x8.2.1, x8.2.2.1, (decide (((getA s5.2.2.1 x8.2.1).getD (-(1 : Int))) < x8.1)))]))), .ow (dkL (List.map (fun (z : Int × Int) => ((Sum.inl z.1 : Key), (D.int z.2))) (putA s5.2.2.1 x8.2.1 (x8.1 + x12)))), .ow (dtL (List.map (fun (z : List Int × Int) => ((z.1.map Sum.inl : List Key), (D.int z.2))) (putA s5.2.2.2 [x8.2.1, x8.2.2.1] (((getA s5.2.2.2 [x8.2.1, x8.2.2.1]).getD (0 : Int)) + (1 : Int))))), .im (D.tup [(D.int x8.1), (D.int x8.2.1), (D.int x8.2.2.1), (D.int x8.2.2.2.1), (D.int x8.2.2.2.2.1), (D.int x8.2.2.2.2.2)]), .im (D.bl (decide (((getA s5.2.2.1 x8.2.1).getD (-(1 : Int))) < x8.1))), .im (D.int x8.1), .im (D.int x8.2.1), .im (D.int x8.2.2.1), .im (D.int ((getA s5.2.2.2 [x8.2.1, x8.2.2.1]).getD (0 : Int))), .an, .an, .an, .an, .an, .an, .an] : List Bd)) (by kernel_rfl) ?_
      obtain ⟨y25, hy25, h⟩ := Option.bind_eq_some_iff.mp h
      refine sd_wp' [16, 17, 14, 18, 19, 20] (by kernel_rfl) (env2 := ([.im (D.tup [(D.int a0.1), (D.tup (List.map (fun (z319 : (Int × Int × (List Int) × Int × Int)) => (D.tup [(D.int z319.1), (D.int z319.2.1), (D.tup (List.map D.int z319.2.2.1)), (D.int z319.2.2.2.1), (D.int z319.2.2.2.2)])) a0.2))]), .im (D.tup (List.map D.int a1)), .im (D.lst (List.map D.int a2)), .im (D.lst (List.map (fun (z320 : (Int × Int × Int × Int × Int)) => (D.tup [(D.int z320.1), (D.int z320.2.1), (D.int z320.2.2.1), (D.int z320.2.2.2.1), (D.int z320.2.2.2.2)])) a3)), .ow (D.lst (List.map (fun (z321 : (Int × Int × Int × Int × Int × Int)) => (D.tup [(D.int z321.1), (D.int z321.2.1), (D.int z321.2.2.1), (D.int z321.2.2.2.1), (D.int z321.2.2.2.2.1), (D.int z321.2.2.2.2.2)])) ys10)), .ow (D.lst (List.map (fun (z322 : (Int × Int × Int × Bool)) => (D.tup [(D.int z322.1), (D.int z322.2.1), (D.int z322.2.2.1), (D.bl z322.2.2.2)])) (s5.2.1 ++ [(x8.1, x8.2.1, x8.2.2.1, (decide (((getA s5.2.2.1 x8.2.1).getD (-(1 : Int))) < x8.1)))]))), .ow (dkL (List.map (fun (z : Int × Int) => ((Sum.inl z.1 : Key), (D.int z.2))) (putA s5.2.2.1 x8.2.1 (x8.1 + x12)))), .ow (dtL (List.map (fun (z : List Int × Int) => ((z.1.map Sum.inl : List Key), (D.int z.2))) (putA s5.2.2.2 [x8.2.1, x8.2.2.1] (((getA s5.2.2.2 [x8.2.1, x8.2.2.1]).getD (0 : Int)) + (1 : Int))))), .im (D.tup [(D.int x8.1), (D.int x8.2.1), (D.int x8.2.2.1), (D.int x8.2.2.2.1), (D.int x8.2.2.2.2.1), (D.int x8.2.2.2.2.2)]), .im (D.bl (decide (((getA s5.2.2.1 x8.2.1).getD (-(1 : Int))) < x8.1))), .im (D.int x8.1), .im (D.int x8.2.1), .im (D.int x8.2.2.1), .im (D.int ((getA s5.2.2.2 [x8.2.1, x8.2.2.1]).getD (0 : Int))), .an, .an, .an, .an, .an, .an, .an] : List Bd)) (by kernel_rfl) ?_
      have h := Option.some.inj h; subst h
      refine sd_endW [8, 10, 11, 12, 9, 13, 16, 17, 14, 18, 19, 20] (sd_for (l := .l2) (o := .nx ([.im (D.tup [(D.int a0.1), (D.tup (List.map (fun (z323 : (Int × Int × (List Int) × Int × Int)) => (D.tup [(D.int z323.1), (D.int z323.2.1), (D.tup (List.map D.int z323.2.2.1)), (D.int z323.2.2.2.1), (D.int z323.2.2.2.2)])) a0.2))]), .im (D.tup (List.map D.int a1)), .im (D.lst (List.map D.int a2)), .im (D.lst (List.map (fun (z324 : (Int × Int × Int × Int × Int)) => (D.tup [(D.int z324.1), (D.int z324.2.1), (D.int z324.2.2.1), (D.int z324.2.2.2.1), (D.int z324.2.2.2.2)])) a3)), .ow (D.lst (List.map (fun (z325 : (Int × Int × Int × Int × Int × Int)) => (D.tup [(D.int z325.1), (D.int z325.2.1), (D.int z325.2.2.1), (D.int z325.2.2.2.1), (D.int z325.2.2.2.2.1), (D.int z325.2.2.2.2.2)])) y25)), .ow (D.lst (List.map (fun (z326 : (Int × Int × Int × Bool)) => (D.tup [(D.int z326.1), (D.int z326.2.1), (D.int z326.2.2.1), (D.bl z326.2.2.2)])) (s5.2.1 ++ [(x8.1, x8.2.1, x8.2.2.1, (decide (((getA s5.2.2.1 x8.2.1).getD (-(1 : Int))) < x8.1)))]))), .ow (dkL (List.map (fun (z : Int × Int) => ((Sum.inl z.1 : Key), (D.int z.2))) (putA s5.2.2.1 x8.2.1 (x8.1 + x12)))), .ow (dtL (List.map (fun (z : List Int × Int) => ((z.1.map Sum.inl : List Key), (D.int z.2))) (putA s5.2.2.2 [x8.2.1, x8.2.2.1] (((getA s5.2.2.2 [x8.2.1, x8.2.2.1]).getD (0 : Int)) + (1 : Int))))), .im (D.tup [(D.int x8.1), (D.int x8.2.1), (D.int x8.2.2.1), (D.int x8.2.2.2.1), (D.int x8.2.2.2.2.1), (D.int x8.2.2.2.2.2)]), .im (D.bl (decide (((getA s5.2.2.1 x8.2.1).getD (-(1 : Int))) < x8.1))), .im (D.int x8.1), .im (D.int x8.2.1), .im (D.int x8.2.2.1), .im (D.int ((getA s5.2.2.2 [x8.2.1, x8.2.2.1]).getD (0 : Int))), .an, .an, .an, .an, .an, .an, .an] : List Bd)) rfl (ei_list rfl (ev_im rfl)) (loop_foldN (en := (fun (z327 : (Int × Int × Int × Int × Int)) => (D.tup [(D.int z327.1), (D.int z327.2.1), (D.int z327.2.2.1), (D.int z327.2.2.2.1), (D.int z327.2.2.2.2)]))) (ev := fun (s16 : ((List (Int × Int × Int × Int × Int × Int)))) => ([.im (D.tup [(D.int a0.1), (D.tup (List.map (fun (z315 : (Int × Int × (List Int) × Int × Int)) => (D.tup [(D.int z315.1), (D.int z315.2.1), (D.tup (List.map D.int z315.2.2.1)), (D.int z315.2.2.2.1), (D.int z315.2.2.2.2)])) a0.2))]), .im (D.tup (List.map D.int a1)), .im (D.lst (List.map D.int a2)), .im (D.lst (List.map (fun (z316 : (Int × Int × Int × Int × Int)) => (D.tup [(D.int z316.1), (D.int z316.2.1), (D.int z316.2.2.1), (D.int z316.2.2.2.1), (D.int z316.2.2.2.2)])) a3)), .ow (D.lst (List.map (fun (z317 : (Int × Int × Int × Int × Int × Int)) => (D.tup [(D.int z317.1), (D.int z317.2.1), (D.int z317.2.2.1), (D.int z317.2.2.2.1), (D.int z317.2.2.2.2.1), (D.int z317.2.2.2.2.2)])) s16)), .ow (D.lst (List.map (fun (z318 : (Int × Int × Int × Bool)) => (D.tup [(D.int z318.1), (D.int z318.2.1), (D.int z318.2.2.1), (D.bl z318.2.2.2)])) (s5.2.1 ++ [(x8.1, x8.2.1, x8.2.2.1, (decide (((getA s5.2.2.1 x8.2.1).getD (-(1 : Int))) < x8.1)))]))), .ow (dkL (List.map (fun (z : Int × Int) => ((Sum.inl z.1 : Key), (D.int z.2))) (putA s5.2.2.1 x8.2.1 (x8.1 + x12)))), .ow (dtL (List.map (fun (z : List Int × Int) => ((z.1.map Sum.inl : List Key), (D.int z.2))) (putA s5.2.2.2 [x8.2.1, x8.2.2.1] (((getA s5.2.2.2 [x8.2.1, x8.2.2.1]).getD (0 : Int)) + (1 : Int))))), .im (D.tup [(D.int x8.1), (D.int x8.2.1), (D.int x8.2.2.1), (D.int x8.2.2.2.1), (D.int x8.2.2.2.2.1), (D.int x8.2.2.2.2.2)]), .im (D.bl (decide (((getA s5.2.2.1 x8.2.1).getD (-(1 : Int))) < x8.1))), .im (D.int x8.1), .im (D.int x8.2.1), .im (D.int x8.2.2.1), .im (D.int ((getA s5.2.2.2 [x8.2.1, x8.2.2.1]).getD (0 : Int))), .an, .an, .an, .an, .an, .an, .an] : List Bd)) (fun x15 s16 z17 h => ?_) _ ys10 y25 hy25)) (by kernel_rfl) (by kernel_rfl)
      · refine sdt (tg_tup rfl (tgs_cons (tg_name rfl) (tgs_cons (tg_name rfl) (tgs_cons (tg_name rfl) (tgs_cons (tg_name rfl) (tgs_cons (tg_name rfl) tgs_nil)))))) ?_
        obtain ⟨c20, hc20, h⟩ := Option.bind_eq_some_iff.mp h
        refine sd_if (eb_andW (c := c20) (eb_test (l := .l2) (ev_opP (l := .l2) (ev_im rfl) (ev_im rfl) rv_eqI)) (fun hb => by have wc20 := ifT hb hc20; obtain ⟨c19, hc19, wc20⟩ := Option.bind_eq_some_iff.mp wc20; have wc20 := Option.some.inj wc20; subst wc20; exact (eb_andW (c := c19) (eb_test (l := .l2) (ev_opP (l := .l2) (ev_im rfl) (ev_im rfl) rv_eqI)) (fun hb => by have wc19 := ifT hb hc19; obtain ⟨x18, hx18, wc19⟩ := Option.bind_eq_some_iff.mp wc19; have wc19 := Option.some.inj wc19; subst wc19; exact (eb_test (l := .l2) (ev_opP (l := .l2) (ev_opP (l := .l2) (ev_opP (l := .l2) (ev_opP (l := .l2) (ev_im rfl) ev_int (rv_ixTn 1 rfl)) (ev_im rfl) (rv_ixTm (f := (fun (z307 : (Int × Int × (List Int) × Int × Int)) => (D.tup [(D.int z307.1), (D.int z307.2.1), (D.tup (List.map D.int z307.2.2.1)), (D.int z307.2.2.2.1), (D.int z307.2.2.2.2)]))) (xs := a0.2) (v := x18) hx18)) ev_int (rv_ixTn 0 rfl)) (ev_im rfl) rv_eqI))) (fun hb => by have wc19 := ifF hb hc19; exact (Option.some.inj wc19).symm))) (fun hb => by have wc20 := ifF hb hc20; exact (Option.some.inj wc20).symm)) (fun hb => ?_) (fun hb => ?_)
        · replace h := ifT hb h
          obtain ⟨x21, hx21, h⟩ := Option.bind_eq_some_iff.mp h
          obtain ⟨x22, hx22, h⟩ := Option.bind_eq_some_iff.mp h
          refine sd_seq (sd_asg (d := (D.int ((x8.1 + x22) + x15.2.2.2.2))) rfl (ev_opP (l := .l2) (ev_opP (l := .l2) (ev_im rfl) (ev_opP (l := .l2) (ev_opP (l := .l2) (ev_opP (l := .l2) (ev_opP (l := .l2) (ev_im rfl) ev_int (rv_ixTn 1 rfl)) (ev_im rfl) (rv_ixTm (f := (fun (z308 : (Int × Int × (List Int) × Int × Int)) => (D.tup [(D.int z308.1), (D.int z308.2.1), (D.tup (List.map D.int z308.2.2.1)), (D.int z308.2.2.2.1), (D.int z308.2.2.2.2)]))) (xs := a0.2) (v := x21) hx21)) ev_int (rv_ixTn 2 rfl)) (ev_im rfl) (rv_ixTm (f := D.int) (xs := x21.2.2.1) (v := x22) hx22)) rv_add) (ev_im rfl) rv_add)) ?_
          refine sd_env (env2 := ([.im (D.tup [(D.int a0.1), (D.tup (List.map (fun (z309 : (Int × Int × (List Int) × Int × Int)) => (D.tup [(D.int z309.1), (D.int z309.2.1), (D.tup (List.map D.int z309.2.2.1)), (D.int z309.2.2.2.1), (D.int z309.2.2.2.2)])) a0.2))]), .im (D.tup (List.map D.int a1)), .im (D.lst (List.map D.int a2)), .im (D.lst (List.map (fun (z310 : (Int × Int × Int × Int × Int)) => (D.tup [(D.int z310.1), (D.int z310.2.1), (D.int z310.2.2.1), (D.int z310.2.2.2.1), (D.int z310.2.2.2.2)])) a3)), .ow (D.lst (List.map (fun (z311 : (Int × Int × Int × Int × Int × Int)) => (D.tup [(D.int z311.1), (D.int z311.2.1), (D.int z311.2.2.1), (D.int z311.2.2.2.1), (D.int z311.2.2.2.2.1), (D.int z311.2.2.2.2.2)])) s16)), .ow (D.lst (List.map (fun (z312 : (Int × Int × Int × Bool)) => (D.tup [(D.int z312.1), (D.int z312.2.1), (D.int z312.2.2.1), (D.bl z312.2.2.2)])) (s5.2.1 ++ [(x8.1, x8.2.1, x8.2.2.1, (decide (((getA s5.2.2.1 x8.2.1).getD (-(1 : Int))) < x8.1)))]))), .ow (dkL (List.map (fun (z : Int × Int) => ((Sum.inl z.1 : Key), (D.int z.2))) (putA s5.2.2.1 x8.2.1 (x8.1 + x12)))), .ow (dtL (List.map (fun (z : List Int × Int) => ((z.1.map Sum.inl : List Key), (D.int z.2))) (putA s5.2.2.2 [x8.2.1, x8.2.2.1] (((getA s5.2.2.2 [x8.2.1, x8.2.2.1]).getD (0 : Int)) + (1 : Int))))), .im (D.tup [(D.int x8.1), (D.int x8.2.1), (D.int x8.2.2.1), (D.int x8.2.2.2.1), (D.int x8.2.2.2.2.1), (D.int x8.2.2.2.2.2)]), .im (D.bl (decide (((getA s5.2.2.1 x8.2.1).getD (-(1 : Int))) < x8.1))), .im (D.int x8.1), .im (D.int x8.2.1), .im (D.int x8.2.2.1), .im (D.int ((getA s5.2.2.2 [x8.2.1, x8.2.2.1]).getD (0 : Int))), .im (D.int x15.2.2.1), .an, .im (D.int x15.1), .im (D.int x15.2.1), .im (D.int x15.2.2.2.1), .im (D.int x15.2.2.2.2), .im (D.int ((x8.1 + x22) + x15.2.2.2.2))] : List Bd)) (by kernel_rfl) ?_
          obtain ⟨x23, hx23, h⟩ := Option.bind_eq_some_iff.mp h
          obtain ⟨x24, hx24, h⟩ := Option.bind_eq_some_iff.mp h
          have h := Option.some.inj h; subst h
          exact sd_endW [16, 17, 14, 18, 19, 20] (sd_appendT (f := (fun (z314 : (Int × Int × Int × Int × Int × Int)) => (D.tup [(D.int z314.1), (D.int z314.2.1), (D.int z314.2.2.1), (D.int z314.2.2.2.1), (D.int z314.2.2.2.2.1), (D.int z314.2.2.2.2.2)]))) (xs := s16) (v := (((x8.1 + x22) + x15.2.2.2.2), x23.2.1, x8.2.2.1, ((getA s5.2.2.2 [x8.2.1, x8.2.2.1]).getD (0 : Int)), x15.2.2.1, x15.2.2.2.1)) hx24 rfl rfl (ev_tup (ea_consP (ev_im rfl) (ea_consP (ev_opP (l := .l2) (ev_opP (l := .l2) (ev_opP (l := .l2) (ev_im rfl) ev_int (rv_ixTn 1 rfl)) (ev_im rfl) (rv_ixTm (f := (fun (z313 : (Int × Int × (List Int) × Int × Int)) => (D.tup [(D.int z313.1), (D.int z313.2.1), (D.tup (List.map D.int z313.2.2.1)), (D.int z313.2.2.2.1), (D.int z313.2.2.2.2)]))) (xs := a0.2) (v := x23) hx23)) ev_int (rv_ixTn 1 rfl)) (ea_consP (ev_im rfl) (ea_consP (ev_im rfl) (ea_consP (ev_im rfl) (ea_consP (ev_im rfl) ea_nil)))))) (show 6 ≤ 1000 from by decide))) (by kernel_rfl) (by kernel_rfl)
        · replace h := ifF hb h
          have h := Option.some.inj h; subst h
          exact sd_nextW [16, 17, 14, 18, 19, 20] (by kernel_rfl) (by kernel_rfl)
    · replace h := ifF hb h
      have h := Option.some.inj h; subst h
      exact sd_nextW [8, 10, 11, 12, 9, 13, 16, 17, 14, 18, 19, 20] (by kernel_rfl) (by kernel_rfl)
  have h := Option.some.inj h; subst h
  exact (sd_ret (d := (D.lst (List.map (fun (z340 : (Int × Int × Int × Bool)) => (D.tup [(D.int z340.1), (D.int z340.2.1), (D.int z340.2.2.1), (D.bl z340.2.2.2)])) y26.2.1))) (ev_ow (.inr rfl) rfl))
/-- _law_is_schedule -/
def m__law_is_schedule (a0 : (Int × (List (Int × Int × (List Int) × Int × Int)))) (a1 : Int) (a2 : (List (Int × Int × Int × Int × Int))) : Option Bool := (foldR (fun (s2 : ((List Int))) (x1 : (Int × Int × Int × Int × Int)) => if ((!true) || ((!decide ((5 : Int) = (5 : Int))) || (!(lexI s2 [x1.1, x1.2.1, x1.2.2.1, x1.2.2.2.1])))) = true then (some (.inr false)) else ((if (!((decide ((0 : Int) ≤ x1.1)) && (decide (x1.1 < a1)))) = true then some true else (if (!((decide ((0 : Int) ≤ x1.2.2.1)) && (decide (x1.2.2.1 < (List.length a0.2 : Int))))) = true then some true else (atI a0.2 x1.2.2.1).bind fun x4 => some (!((decide ((0 : Int) ≤ x1.2.2.2.1)) && (decide (x1.2.2.2.1 < (List.length x4.2.2.1 : Int)))))).bind fun c5 => some c5).bind fun c6 => if c6 = true then (some (.inr false)) else ((atI a0.2 x1.2.2.1).bind fun x7 => (atI a0.2 x1.2.2.1).bind fun x8 => if (!((decide (x7.2.2.2.1 ≤ x1.2.2.2.2)) && (decide (x1.2.2.2.2 ≤ x8.2.2.2.2)))) = true then (some (.inr false)) else (some (.inl ([x1.1, x1.2.1, x1.2.2.1, x1.2.2.2.1] : List Int)))))) a2 ([(-(1 : Int))] : List Int)).bind fun y9 => (match y9 with | .inl y10 => some true | .inr y10 => some y10)
def R__law_is_schedule : List D → D → Prop := fun ds r => ∃ (a0 : (Int × (List (Int × Int × (List Int) × Int × Int)))) (a1 : Int) (a2 : (List (Int × Int × Int × Int × Int))) (v : Bool), m__law_is_schedule a0 a1 a2 = some v ∧ ds = [(D.tup [(D.int a0.1), (D.tup (List.map (fun (z359 : (Int × Int × (List Int) × Int × Int)) => (D.tup [(D.int z359.1), (D.int z359.2.1), (D.tup (List.map D.int z359.2.2.1)), (D.int z359.2.2.2.1), (D.int z359.2.2.2.2)])) a0.2))]), (D.int a1), (D.lst (List.map (fun (z360 : (Int × Int × Int × Int × Int)) => (D.tup [(D.int z360.1), (D.int z360.2.1), (D.int z360.2.2.1), (D.int z360.2.2.2.1), (D.int z360.2.2.2.2)])) a2))] ∧ r = (D.bl v)
def nm__law_is_schedule : List Str := ["_law_system_here", "_law_requests", "_law_schedule", "_law_last", "_law_one", "_law_who", "_law_act", "_law_k", "_law_j", "_law_delay"]
theorem sc__law_is_schedule : FnScope ["_law_system_here", "_law_requests", "_law_schedule", "_law_last", "_law_one", "_law_who", "_law_act", "_law_k", "_law_j", "_law_delay"] ["_law_system_here", "_law_requests", "_law_schedule"] (defScope (top 44)) := ⟨rfl, rfl, rfl, by decide +kernel, rfl, by decide +kernel, by decide +kernel⟩
theorem ok__law_is_schedule (T : Tx K mg) : FnOk P w K mg base CX0 1 T.a__law_is_schedule T.d__law_is_schedule ["_law_system_here", "_law_requests", "_law_schedule"] (SpP K [true, true, true] R__law_is_schedule) := by
  refine T.F__law_is_schedule.ok sc__law_is_schedule (SpP.len rfl) (fun cdv A outer s H vs Q E hr h => ⟨_, PSs.nox (pss_cons (ps_set (i := 3) sc__law_is_schedule.nd rfl (Or.inl rfl) (pe_tup (pa_cons (pe_un un_neg pe_int) pa_nil))) (pss_cons (ps_for PassesOwn.never rfl (piListK (K := K) (by rfl) (pv 2)) (pg_name (i := 4) sc__law_is_schedule.nd rfl (Or.inl rfl)) (pss_cons (ps_if (PW.pt (pw_or (pt_not (pt_val (pe_callB (isiK (K := K) (by rfl)) rfl T.b_isinstance (by decide +kernel) (pa_cons (pv 4) (pa_cons (pe_bltn (v := .ty "tuple") rfl T.b_tuple (by decide +kernel) rfl) pa_nil))))) (pw_or (pt_cmpR op_ne (pe_callB (lenK (K := K) (by rfl)) rfl T.b_len (by decide +kernel) (pa_cons (pv 4) pa_nil)) pe_int (nomark _)) (pw_or1 (pt_not (pt_cmpR (gtDK (K := K) (by rfl) (hu64 hr)) (pe_slice (slTK (K := K) (by rfl)) (pv 4) po_none (po_some pe_int)) (pv 3) (nomark _))))))) (pss_one (ps_ret pe_bl)) pss_nil) (pss_cons (ps_asg (pv 4) (pgTupK (K := K) (n := 5) (by rfl) rfl (pgs_cons (pg_name (i := 5) sc__law_is_schedule.nd rfl (Or.inl rfl)) (pgs_cons (pg_name (i := 6) sc__law_is_schedule.nd rfl (Or.inl rfl)) (pgs_cons (pg_name (i := 7) sc__law_is_schedule.nd rfl (Or.inl rfl)) (pgs_cons (pg_name (i := 8) sc__law_is_schedule.nd rfl (Or.inl rfl)) (pgs_cons (pg_name (i := 9) sc__law_is_schedule.nd rfl (Or.inl rfl)) pgs_nil))))) (by rfl) (by rfl))) (pss_cons (ps_if (PW.pt (pw_or (pt_not (pt_chain op_le op_lt pe_int (pv 5) (pv 1))) (pw_or (pt_not (pt_chain op_le op_lt pe_int (pv 7) (pe_callB (lenK (K := K) (by rfl)) rfl T.b_len (by decide +kernel) (pa_cons (pe_ix (ixTK (K := K) (by rfl)) (pv 0) pe_int (fun _ _ => rfl)) pa_nil)))) (pw_or1 (pt_not (pt_chain op_le op_lt pe_int (pv 8) (pe_callB (lenK (K := K) (by rfl)) rfl T.b_len (by decide +kernel) (pa_cons (pe_ix (ixTK (K := K) (by rfl)) (pe_ix (ixTK (K := K) (by rfl)) (pe_ix (ixTK (K := K) (by rfl)) (pv 0) pe_int (fun _ _ => rfl)) (pv 7) (fun _ _ => rfl)) pe_int (fun _ _ => rfl)) pa_nil)))))))) (pss_one (ps_ret pe_bl)) pss_nil) (pss_cons (ps_if (pt_not (pt_chain op_le op_le (pe_ix (ixTK (K := K) (by rfl)) (pe_ix (ixTK (K := K) (by rfl)) (pe_ix (ixTK (K := K) (by rfl)) (pv 0) pe_int (fun _ _ => rfl)) (pv 7) (fun _ _ => rfl)) pe_int (fun _ _ => rfl)) (pv 9) (pe_ix (ixTK (K := K) (by rfl)) (pe_ix (ixTK (K := K) (by rfl)) (pe_ix (ixTK (K := K) (by rfl)) (pv 0) pe_int (fun _ _ => rfl)) (pv 7) (fun _ _ => rfl)) pe_int (fun _ _ => rfl)))) (pss_one (ps_ret pe_bl)) pss_nil) (pss_one (ps_set (i := 3) sc__law_is_schedule.nd rfl (Or.inl rfl) (pe_slice (slTK (K := K) (by rfl)) (pv 4) po_none (po_some pe_int))))))))) (pss_one (ps_ret (pe_callB (isiK (K := K) (by rfl)) rfl T.b_isinstance (by decide +kernel) (pa_cons (pv 2) (pa_cons (pe_bltn (v := .ty "list") rfl T.b_list (by decide +kernel) rfl) pa_nil))))))), ?_⟩)
  refine run_P (n := 7) rfl h fun ds r hR => ?_
  obtain ⟨a0, a1, a2, v, h, rfl, rfl⟩ := hR
  unfold m__law_is_schedule at h
  refine sd_env (env2 := ([.im (D.tup [(D.int a0.1), (D.tup (List.map (fun (z361 : (Int × Int × (List Int) × Int × Int)) => (D.tup [(D.int z361.1), (D.int z361.2.1), (D.tup (List.map D.int z361.2.2.1)), (D.int z361.2.2.2.1), (D.int z361.2.2.2.2)])) a0.2))]), .im (D.int a1), .im (D.lst (List.map (fun (z362 : (Int × Int × Int × Int × Int)) => (D.tup [(D.int z362.1), (D.int z362.2.1), (D.int z362.2.2.1), (D.int z362.2.2.2.1), (D.int z362.2.2.2.2)])) a2)), .an, .an, .an, .an, .an, .an, .an] : List Bd)) rfl ?_
  refine sd_seq (sd_asg (d := (D.tup (List.map D.int ([(-(1 : Int))] : List Int)))) rfl (ev_is (ev_tup (ea_consP (ev_un (f := fun i => V.int (-i)) (e := D.int (-(1 : Int))) (l := .l2) ev_int (fun _ => rfl)) ea_nil) (show 1 ≤ 1000 from by decide)) (show _ = (D.tup (List.map D.int ([(-(1 : Int))] : List Int))) from rfl))) ?_
  refine sd_env (env2 := ([.im (D.tup [(D.int a0.1), (D.tup (List.map (fun (z346 : (Int × Int × (List Int) × Int × Int)) => (D.tup [(D.int z346.1), (D.int z346.2.1), (D.tup (List.map D.int z346.2.2.1)), (D.int z346.2.2.2.1), (D.int z346.2.2.2.2)])) a0.2))]), .im (D.int a1), .im (D.lst (List.map (fun (z347 : (Int × Int × Int × Int × Int)) => (D.tup [(D.int z347.1), (D.int z347.2.1), (D.int z347.2.2.1), (D.int z347.2.2.2.1), (D.int z347.2.2.2.2)])) a2)), .im (D.tup (List.map D.int ([(-(1 : Int))] : List Int))), .an, .an, .an, .an, .an, .an] : List Bd)) (by kernel_rfl) ?_
  obtain ⟨y9, hy9, h⟩ := Option.bind_eq_some_iff.mp h
  refine sd_wp' [4, 5, 6, 7, 8, 9] (by kernel_rfl) (env2 := ([.im (D.tup [(D.int a0.1), (D.tup (List.map (fun (z356 : (Int × Int × (List Int) × Int × Int)) => (D.tup [(D.int z356.1), (D.int z356.2.1), (D.tup (List.map D.int z356.2.2.1)), (D.int z356.2.2.2.1), (D.int z356.2.2.2.2)])) a0.2))]), .im (D.int a1), .im (D.lst (List.map (fun (z357 : (Int × Int × Int × Int × Int)) => (D.tup [(D.int z357.1), (D.int z357.2.1), (D.int z357.2.2.1), (D.int z357.2.2.2.1), (D.int z357.2.2.2.2)])) a2)), .im (D.tup (List.map D.int ([(-(1 : Int))] : List Int))), .an, .an, .an, .an, .an, .an] : List Bd)) (by kernel_rfl) ?_
  refine sd_seqZ (sd_for (l := .l2) rfl (ei_list rfl (ev_im rfl)) (loop_foldZ (en := (fun (z358 : (Int × Int × Int × Int × Int)) => (D.tup [(D.int z358.1), (D.int z358.2.1), (D.int z358.2.2.1), (D.int z358.2.2.2.1), (D.int z358.2.2.2.2)]))) (ev := fun (s2 : ((List Int))) => ([.im (D.tup [(D.int a0.1), (D.tup (List.map (fun (z354 : (Int × Int × (List Int) × Int × Int)) => (D.tup [(D.int z354.1), (D.int z354.2.1), (D.tup (List.map D.int z354.2.2.1)), (D.int z354.2.2.2.1), (D.int z354.2.2.2.2)])) a0.2))]), .im (D.int a1), .im (D.lst (List.map (fun (z355 : (Int × Int × Int × Int × Int)) => (D.tup [(D.int z355.1), (D.int z355.2.1), (D.int z355.2.2.1), (D.int z355.2.2.2.1), (D.int z355.2.2.2.2)])) a2)), .im (D.tup (List.map D.int s2)), .an, .an, .an, .an, .an, .an] : List Bd)) (fin := (fun (r : Bool) => Out.rx (D.bl r))) (fun _ => rfl) (fun x1 s2 z3 h => ?_) _ ([(-(1 : Int))] : List Int) _ hy9)) (fun _ => rfl) (fun y10 e => ?_) (fun y10 e => ?_)
  · refine sdt (tg_name rfl) ?_
    refine sd_ifs (eb_or (eb_not (eb_B (l := .l2) (ev_isi (l := .l2) (ev_im rfl) (show kitB "tuple" "tuple" = some true from by decide +kernel)))) (fun _ => (eb_or (eb_test (l := .l2) (ev_opP (l := .l2) (ev_cb (l := .l2) (ea_consP (ev_im rfl) ea_nil) rc_len_t) ev_int rv_neI)) (fun _ => (eb_not (eb_test (l := .l2) (ev_opP (l := .l2) (ev_is (ev_slT (m := 4) (ev_im rfl) ev_int (show 4 < 5 from by decide)) (show _ = (D.tup [(D.int x1.1), (D.int x1.2.1), (D.int x1.2.2.1), (D.int x1.2.2.2.1)]) from rfl)) (ev_im rfl) (rv_gtI (xs := [x1.1, x1.2.1, x1.2.2.1, x1.2.2.2.1]) (ys := s2))))))))) (fun hb => ?_) (fun hb => ?_)
    · replace h := ifT hb h
      have h := Option.some.inj h; subst h
      exact sd_out (sd_ret (d := (D.bl false)) ev_bl) rfl
    · replace h := ifF hb h
      refine sd_seqNext ?_
      refine sd_seq (sd_asgG (l := .l2) (d := (D.tup [(D.int x1.1), (D.int x1.2.1), (D.int x1.2.2.1), (D.int x1.2.2.2.1), (D.int x1.2.2.2.2)])) (ev_im rfl) (tg_tup rfl (tgs_cons (tg_name rfl) (tgs_cons (tg_name rfl) (tgs_cons (tg_name rfl) (tgs_cons (tg_name rfl) (tgs_cons (tg_name rfl) tgs_nil))))))) ?_
      refine sd_env (env2 := ([.im (D.tup [(D.int a0.1), (D.tup (List.map (fun (z348 : (Int × Int × (List Int) × Int × Int)) => (D.tup [(D.int z348.1), (D.int z348.2.1), (D.tup (List.map D.int z348.2.2.1)), (D.int z348.2.2.2.1), (D.int z348.2.2.2.2)])) a0.2))]), .im (D.int a1), .im (D.lst (List.map (fun (z349 : (Int × Int × Int × Int × Int)) => (D.tup [(D.int z349.1), (D.int z349.2.1), (D.int z349.2.2.1), (D.int z349.2.2.2.1), (D.int z349.2.2.2.2)])) a2)), .im (D.tup (List.map D.int s2)), .im (D.tup [(D.int x1.1), (D.int x1.2.1), (D.int x1.2.2.1), (D.int x1.2.2.2.1), (D.int x1.2.2.2.2)]), .im (D.int x1.1), .im (D.int x1.2.1), .im (D.int x1.2.2.1), .im (D.int x1.2.2.2.1), .im (D.int x1.2.2.2.2)] : List Bd)) (by kernel_rfl) ?_
      obtain ⟨c6, hc6, h⟩ := Option.bind_eq_some_iff.mp h
      refine sd_ifs (eb_orW (c := c6) (eb_not (eb_test (l := .l2) (ev_chain (c := (decide (x1.1 < a1))) (Bool.eq_false_or_eq_true _) ev_int (ev_im rfl) (ev_im rfl) rv_le rv_lt))) (fun hb => by have wc6 := ifF hb hc6; obtain ⟨c5, hc5, wc6⟩ := Option.bind_eq_some_iff.mp wc6; have wc6 := Option.some.inj wc6; subst wc6; exact (eb_orW (c := c5) (eb_not (eb_test (l := .l2) (ev_chain (c := (decide (x1.2.2.1 < (List.length a0.2 : Int)))) (Bool.eq_false_or_eq_true _) ev_int (ev_im rfl) (ev_cb (l := .l2) (ea_consP (ev_opP (l := .l2) (ev_im rfl) ev_int (rv_ixTn 1 rfl)) ea_nil) (rc_len_tm (f := (fun (z353 : (Int × Int × (List Int) × Int × Int)) => (D.tup [(D.int z353.1), (D.int z353.2.1), (D.tup (List.map D.int z353.2.2.1)), (D.int z353.2.2.2.1), (D.int z353.2.2.2.2)]))))) rv_le rv_lt))) (fun hb => by have wc5 := ifF hb hc5; obtain ⟨x4, hx4, wc5⟩ := Option.bind_eq_some_iff.mp wc5; have wc5 := Option.some.inj wc5; subst wc5; exact (eb_not (eb_test (l := .l2) (ev_chain (c := (decide (x1.2.2.2.1 < (List.length x4.2.2.1 : Int)))) (Bool.eq_false_or_eq_true _) ev_int (ev_im rfl) (ev_cb (l := .l2) (ea_consP (ev_opP (l := .l2) (ev_opP (l := .l2) (ev_opP (l := .l2) (ev_im rfl) ev_int (rv_ixTn 1 rfl)) (ev_im rfl) (rv_ixTm (f := (fun (z350 : (Int × Int × (List Int) × Int × Int)) => (D.tup [(D.int z350.1), (D.int z350.2.1), (D.tup (List.map D.int z350.2.2.1)), (D.int z350.2.2.2.1), (D.int z350.2.2.2.2)]))) (xs := a0.2) (v := x4) hx4)) ev_int (rv_ixTn 2 rfl)) ea_nil) (rc_len_tm (f := D.int))) rv_le rv_lt)))) (fun hb => by have wc5 := ifT hb hc5; exact (Option.some.inj wc5).symm))) (fun hb => by have wc6 := ifT hb hc6; exact (Option.some.inj wc6).symm)) (fun hb => ?_) (fun hb => ?_)
      · replace h := ifT hb h
        have h := Option.some.inj h; subst h
        exact sd_out (sd_ret (d := (D.bl false)) ev_bl) rfl
      · replace h := ifF hb h
        refine sd_seqNext ?_
        obtain ⟨x7, hx7, h⟩ := Option.bind_eq_some_iff.mp h
        obtain ⟨x8, hx8, h⟩ := Option.bind_eq_some_iff.mp h
        refine sd_ifs (eb_not (eb_test (l := .l2) (ev_chain (c := (decide (x1.2.2.2.2 ≤ x8.2.2.2.2))) (Bool.eq_false_or_eq_true _) (ev_opP (l := .l2) (ev_opP (l := .l2) (ev_opP (l := .l2) (ev_im rfl) ev_int (rv_ixTn 1 rfl)) (ev_im rfl) (rv_ixTm (f := (fun (z351 : (Int × Int × (List Int) × Int × Int)) => (D.tup [(D.int z351.1), (D.int z351.2.1), (D.tup (List.map D.int z351.2.2.1)), (D.int z351.2.2.2.1), (D.int z351.2.2.2.2)]))) (xs := a0.2) (v := x7) hx7)) ev_int (rv_ixTn 3 rfl)) (ev_im rfl) (ev_opP (l := .l2) (ev_opP (l := .l2) (ev_opP (l := .l2) (ev_im rfl) ev_int (rv_ixTn 1 rfl)) (ev_im rfl) (rv_ixTm (f := (fun (z352 : (Int × Int × (List Int) × Int × Int)) => (D.tup [(D.int z352.1), (D.int z352.2.1), (D.tup (List.map D.int z352.2.2.1)), (D.int z352.2.2.2.1), (D.int z352.2.2.2.2)]))) (xs := a0.2) (v := x8) hx8)) ev_int (rv_ixTn 4 rfl)) rv_le rv_le))) (fun hb => ?_) (fun hb => ?_)
        · replace h := ifT hb h
          have h := Option.some.inj h; subst h
          exact sd_out (sd_ret (d := (D.bl false)) ev_bl) rfl
        · replace h := ifF hb h
          refine sd_seqNext ?_
          have h := Option.some.inj h; subst h
          exact sd_endW [4, 5, 6, 7, 8, 9] (sd_asg (d := (D.tup (List.map D.int ([x1.1, x1.2.1, x1.2.2.1, x1.2.2.2.1] : List Int)))) rfl (ev_is (ev_slT (m := 4) (ev_im rfl) ev_int (show 4 < 5 from by decide)) (show _ = (D.tup (List.map D.int ([x1.1, x1.2.1, x1.2.2.1, x1.2.2.2.1] : List Int))) from rfl))) (by kernel_rfl) (by kernel_rfl)
  · subst e; replace h : _ = _ := h
    have h := Option.some.inj h; subst h
    exact (sd_ret (d := (D.bl true)) (ev_isi (l := .l2) (ev_im rfl) (show kitB "list" "list" = some true from by decide +kernel)))
  · subst e; have h := Option.some.inj h; subst h; rfl
/-- law -/
def m_law (a0 : (List Int)) : Option Bool := (m__law_dice a0).bind fun r1 => (rngO 0 (4 : Int)).bind fun x2 => (foldR (fun (s4 : (((List Int) × Int × Int × Int))) (x3 : Int) => (m__law_next s4 (2 : Int)).bind fun r6 => (atI ([(3 : Int), (20 : Int)] : List Int) r6.1).bind fun x7 => (m__law_system r6.2 (6 : Int) (10 : Int) x7).bind fun r8 => (m_least_windows r8.1).bind fun r9 => (compS (fun (s11 : ((List Int) × Int × Int × Int)) (x10 : Int) => (m__law_next s11 (9 : Int)).bind fun r12 => some (some (x10 + r12.1), r12.2)) r9 r8.2).bind fun ys13 => (m_act_times r8.1).bind fun r14 => (compO (fun (x15 : Int) => (atI ys13.1 x15).bind fun x16 => (getA r14 x15).bind fun x17 => (getA r14 x15).bind fun x18 => some (some (((x16 + x17.2) - x18.1), ((0 : Int) - x15)))) (List.map (fun z => z.1) r14)).bind fun ys19 => (maxO (fun (k20 : (Int × Int)) => [k20.1, k20.2]) ys19).bind fun x21 => (m_least_reuse_time r8.1 ys13.1).bind fun r22 => (m__law_like r22 (x21.1 + (1 : Int))).bind fun r23 => if (!r23) = true then (some (.inr false)) else ((m_reuse_conflict r8.1 ys13.1).bind fun r24 => (if (!decide (r24.1 = ((0 : Int) - x21.2))) = true then some true else (m__law_is_schedule r8.1 (2 : Int) r24.2).bind fun r25 => some (!r25)).bind fun c26 => if c26 = true then (some (.inr false)) else (if (decide ((0 : Int) < x21.1)) = true then ((m__law_played r8.1 ys13.1 ([(0 : Int), x21.1] : List Int) r24.2).bind fun r27 => (compO (fun (x28 : (Int × Int × Int × Bool)) => if ((decide (x28.2.1 = r24.1)) && (decide (x28.2.2.1 = (1 : Int)))) = true then some (some x28) else some none) r27).bind fun ys29 => (if (List.isEmpty ys29) = true then some true else (atI ys29 (0 : Int)).bind fun x30 => some x30.2.2.2).bind fun c31 => if c31 = true then (some (.inr false)) else ((m__law_played r8.1 ys13.1 ([(0 : Int), (x21.1 + (1 : Int))] : List Int) r24.2).bind fun r32 => (compO (fun (x33 : (Int × Int × Int × Bool)) => if ((decide (x33.2.1 = r24.1)) && (decide (x33.2.2.1 = (1 : Int)))) = true then some (some x33) else some none) r32).bind fun ys34 => (if (List.isEmpty ys34) = true then some true else (atI ys34 (0 : Int)).bind fun x35 => some (!x35.2.2.2)).bind fun c36 => if c36 = true then (some (.inr false)) else (some (.inl ys13.2)))) else (some (.inl ys13.2))))) x2 r1).bind fun y37 => (match y37 with | .inl y38 => some true | .inr y38 => some y38)
def R_law : List D → D → Prop := fun ds r => ∃ (a0 : (List Int)) (v : Bool), m_law a0 = some v ∧ ds = [(D.lst (List.map D.int a0))] ∧ r = (D.bl v)
def nm_law : List Str := ["_law_script", "_law_d", "_law_turn", "_law_system_here", "_law_windows", "_law_spans", "_law_rows", "_law_ticks", "_law_service", "_law_found", "_law_schedule", "_law_events", "_law_some", "_law_one", "_law_event"]
theorem sc_law : FnScope ["_law_script", "_law_d", "_law_turn", "_law_system_here", "_law_windows", "_law_spans", "_law_rows", "_law_ticks", "_law_service", "_law_found", "_law_schedule", "_law_events", "_law_some", "_law_one", "_law_event"] ["_law_script"] (defScope (top 45)) := ⟨rfl, rfl, rfl, by decide +kernel, rfl, by decide +kernel, by decide +kernel⟩
theorem ok_law (T : Tx K mg) : FnOk P w K mg base CX0 11 T.a_law T.d_law ["_law_script"] (SpP K [true] R_law) := by
  refine T.F_law.ok sc_law (SpP.len rfl) (fun cdv A outer s H vs Q E hr h => ⟨_, PSs.nox (pss_cons (ps_set (i := 1) sc_law.nd rfl (Or.inr rfl) (pe_call (ok__law_dice T) (hr.mono (by decide)) rfl T.g__law_dice T.F__law_dice.kp (T.F__law_dice.bindsN fun _ _ _ _ _ _ us hl => match us, hl with | [_], _ => rfl) .nil pass0 (pa_cons (pv 0) pa_nil))) (pss_cons (ps_for PassesOwn.never rfl (pi_range1 rfl T.b_range (pa_cons pe_int pa_nil)) (pg_name (i := 2) sc_law.nd rfl (Or.inl rfl)) (pss_cons (ps_set (i := 3) sc_law.nd rfl (Or.inl rfl) (pe_call (ok__law_system T) (hr.mono (by decide)) rfl T.g__law_system T.F__law_system.kp (T.F__law_system.bindsN fun _ _ _ _ _ _ us hl => match us, hl with | [_, _, _, _], _ => rfl) .nil pass0 (pa_cons (pv 1) (pa_cons pe_int (pa_cons pe_int (pa_cons (pe_ix (ixLK (K := K) (by rfl)) (pe_lst (pa_cons pe_int (pa_cons pe_int pa_nil))) (pe_call (ok__law_next T) (hr.mono (by decide)) rfl T.g__law_next T.F__law_next.kp (T.F__law_next.bindsN fun _ _ _ _ _ _ us hl => match us, hl with | [_, _], _ => rfl) .nil pass0 (pa_cons (pv 1) (pa_cons pe_int pa_nil))) (fun _ _ => rfl)) pa_nil)))))) (pss_cons (ps_set (i := 4) sc_law.nd rfl (Or.inr rfl) (pe_callTy (tupK (K := K) (by rfl)) rfl T.b_tuple (by decide +kernel) (pa_cons (pe_lc (own := [("_law_one", 13)]) rfl sc_law.nd (piTupK (K := K) (by rfl) (pe_call (ok_least_windows T) (hr.mono (by decide)) rfl T.g_least_windows T.F_least_windows.kp (T.F_least_windows.bindsN fun _ _ _ _ _ _ us hl => match us, hl with | [_], _ => rfl) .nil pass0 (pa_cons (pv 3) pa_nil))) (blkOk_by (own := [("_law_one", 13)]) (N := nm_law) (sc := defScope (top 45)) (by decide +kernel)) (fun _ _ _ _ _ => (pg_name (i := 13) sc_law.nd rfl (Or.inl rfl))) (fun _ _ _ _ _ => pts_nil) (fun _ _ _ _ _ => (pe_op op_add (pv 13) (pe_call (ok__law_next T) (hr.mono (by decide)) rfl T.g__law_next T.F__law_next.kp (T.F__law_next.bindsN fun _ _ _ _ _ _ us hl => match us, hl with | [_, _], _ => rfl) .nil pass0 (pa_cons (pv 1) (pa_cons pe_int pa_nil)))))) pa_nil))) (pss_cons (ps_set (i := 5) sc_law.nd rfl (Or.inr rfl) (pe_call (ok_act_times T) (hr.mono (by decide)) rfl T.g_act_times T.F_act_times.kp (T.F_act_times.bindsN fun _ _ _ _ _ _ us hl => match us, hl with | [_], _ => rfl) .nil pass0 (pa_cons (pv 3) pa_nil))) (pss_cons (ps_lk (ps_setLc (i := 6) rfl sc_law.nd rfl rfl (sw_true rfl rfl rfl (by decide +kernel)) (own := [("_law_service", 8)]) (pi_keys (pv 5)) (blkOk_by (own := [("_law_service", 8)]) (N := nm_law) (sc := defScope (top 45)) (by decide +kernel)) (fun _ _ _ _ _ => (pg_name (i := 8) sc_law.nd rfl (Or.inl rfl))) (fun _ _ _ _ _ => pts_nil) (fun _ _ _ _ _ => (pe_tup (pa_cons (pe_op op_sub (pe_op op_add (pe_ix (ixTK (K := K) (by rfl)) (pv 4) (pv 8) (fun _ _ => rfl)) (pe_ix (ixTK (K := K) (by rfl)) (pe_dget (hu_of hr) (pv 5) (pv 8) (fun _ _ => rfl)) pe_int (fun _ _ => rfl))) (pe_ix (ixTK (K := K) (by rfl)) (pe_dget (hu_of hr) (pv 5) (pv 8) (fun _ _ => rfl)) pe_int (fun _ _ => rfl))) (pa_cons (pe_op op_sub pe_int (pv 8)) pa_nil)))))) (pss_cons (ps_asg (pe_callB (maxDK (K := K) (by rfl) rfl (hu64 hr)) rfl T.b_max (by decide +kernel) (pa_cons (pv 6) pa_nil)) (pgTupK (K := K) (n := 2) (by rfl) rfl (pgs_cons (pg_name (i := 7) sc_law.nd rfl (Or.inl rfl)) (pgs_cons (pg_name (i := 8) sc_law.nd rfl (Or.inl rfl)) pgs_nil)) (by rfl) (by rfl))) (pss_cons (ps_if (pt_not (pt_val (pe_call (ok__law_like T) (hr.mono (by decide)) rfl T.g__law_like T.F__law_like.kp (T.F__law_like.bindsN fun _ _ _ _ _ _ us hl => match us, hl with | [_, _], _ => rfl) .nil pass0 (pa_cons (pe_call (ok_least_reuse_time T) (hr.mono (by decide)) rfl T.g_least_reuse_time T.F_least_reuse_time.kp (T.F_least_reuse_time.bindsN fun _ _ _ _ _ _ us hl => match us, hl with | [_, _], _ => rfl) .nil pass0 (pa_cons (pv 3) (pa_cons (pv 4) pa_nil))) (pa_cons (pe_op op_add (pv 7) pe_int) pa_nil))))) (pss_one (ps_ret pe_bl)) pss_nil) (pss_cons (ps_asg (pe_call (ok_reuse_conflict T) (hr.mono (by decide)) rfl T.g_reuse_conflict T.F_reuse_conflict.kp (T.F_reuse_conflict.bindsN fun _ _ _ _ _ _ us hl => match us, hl with | [_, _], _ => rfl) .nil pass0 (pa_cons (pv 3) (pa_cons (pv 4) pa_nil))) (pgTupK (K := K) (n := 2) (by rfl) rfl (pgs_cons (pg_name (i := 9) sc_law.nd rfl (Or.inr rfl)) (pgs_cons (pg_name (i := 10) sc_law.nd rfl (Or.inl rfl)) pgs_nil)) (by rfl) (by rfl))) (pss_cons (ps_if (PW.pt (pw_or (pt_cmpR op_ne (pv 9) (pe_op op_sub pe_int (pv 8)) (nomark _)) (pw_or1 (pt_not (pt_val (pe_call (ok__law_is_schedule T) (hr.mono (by decide)) rfl T.g__law_is_schedule T.F__law_is_schedule.kp (T.F__law_is_schedule.bindsN fun _ _ _ _ _ _ us hl => match us, hl with | [_, _, _], _ => rfl) .nil pass0 (pa_cons (pv 3) (pa_cons pe_int (pa_cons (pv 10) pa_nil))))))))) (pss_one (ps_ret pe_bl)) pss_nil) (pss_one (ps_if (pt_cmpR op_gt (pv 7) pe_int (nomark _)) (pss_cons (ps_set (i := 11) sc_law.nd rfl (Or.inl rfl) (pe_call (ok__law_played T) (hr.mono (by decide)) rfl T.g__law_played T.F__law_played.kp (T.F__law_played.bindsN fun _ _ _ _ _ _ us hl => match us, hl with | [_, _, _, _], _ => rfl) .nil pass0 (pa_cons (pv 3) (pa_cons (pv 4) (pa_cons (pe_lst (pa_cons pe_int (pa_cons (pv 7) pa_nil))) (pa_cons (pv 10) pa_nil)))))) (pss_cons (ps_setLc (i := 12) rfl sc_law.nd rfl rfl (sw_true rfl rfl rfl (by decide +kernel)) (own := [("_law_event", 14)]) (piListK (K := K) (by rfl) (pv 11)) (blkOk_by (own := [("_law_event", 14)]) (N := nm_law) (sc := defScope (top 45)) (by decide +kernel)) (fun _ _ _ _ _ => (pg_name (i := 14) sc_law.nd rfl (Or.inl rfl))) (fun _ _ _ _ _ => (pts_one (PW.pt (pw_and (pt_cmpR op_eq (pe_ix (ixTK (K := K) (by rfl)) (pv 14) pe_int (fun _ _ => rfl)) (pv 9) (nomark _)) (pw_and1 (pt_cmpR op_eq (pe_ix (ixTK (K := K) (by rfl)) (pv 14) pe_int (fun _ _ => rfl)) pe_int (nomark _))))))) (fun _ _ _ _ _ => (pv 14))) (pss_cons (ps_if (PW.pt (pw_or (pt_cmpR (eqDK (K := K) (by rfl) (hu64 hr)) (pv 12) (pe_lst pa_nil) (nomark _)) (pw_or1 (pt_val (pe_ix (ixTK (K := K) (by rfl)) (pe_ix (ixLK (K := K) (by rfl)) (pv 12) pe_int (fun _ _ => rfl)) pe_int (fun _ _ => rfl)))))) (pss_one (ps_ret pe_bl)) pss_nil) (pss_cons (ps_set (i := 11) sc_law.nd rfl (Or.inl rfl) (pe_call (ok__law_played T) (hr.mono (by decide)) rfl T.g__law_played T.F__law_played.kp (T.F__law_played.bindsN fun _ _ _ _ _ _ us hl => match us, hl with | [_, _, _, _], _ => rfl) .nil pass0 (pa_cons (pv 3) (pa_cons (pv 4) (pa_cons (pe_lst (pa_cons pe_int (pa_cons (pe_op op_add (pv 7) pe_int) pa_nil))) (pa_cons (pv 10) pa_nil)))))) (pss_cons (ps_setLc (i := 12) rfl sc_law.nd rfl rfl (sw_true rfl rfl rfl (by decide +kernel)) (own := [("_law_event", 14)]) (piListK (K := K) (by rfl) (pv 11)) (blkOk_by (own := [("_law_event", 14)]) (N := nm_law) (sc := defScope (top 45)) (by decide +kernel)) (fun _ _ _ _ _ => (pg_name (i := 14) sc_law.nd rfl (Or.inl rfl))) (fun _ _ _ _ _ => (pts_one (PW.pt (pw_and (pt_cmpR op_eq (pe_ix (ixTK (K := K) (by rfl)) (pv 14) pe_int (fun _ _ => rfl)) (pv 9) (nomark _)) (pw_and1 (pt_cmpR op_eq (pe_ix (ixTK (K := K) (by rfl)) (pv 14) pe_int (fun _ _ => rfl)) pe_int (nomark _))))))) (fun _ _ _ _ _ => (pv 14))) (pss_one (ps_if (PW.pt (pw_or (pt_cmpR (eqDK (K := K) (by rfl) (hu64 hr)) (pv 12) (pe_lst pa_nil) (nomark _)) (pw_or1 (pt_not (pt_val (pe_ix (ixTK (K := K) (by rfl)) (pe_ix (ixLK (K := K) (by rfl)) (pv 12) pe_int (fun _ _ => rfl)) pe_int (fun _ _ => rfl))))))) (pss_one (ps_ret pe_bl)) pss_nil))))))) pss_nil))))))))))) (pss_one (ps_ret pe_bl)))), ?_⟩)
  refine run_P (n := 14) rfl h fun ds r hR => ?_
  obtain ⟨a0, v, h, rfl, rfl⟩ := hR
  unfold m_law at h
  refine sd_env (env2 := ([.im (D.lst (List.map D.int a0)), .an, .an, .an, .an, .an, .an, .an, .an, .an, .an, .an, .an, .an, .an] : List Bd)) rfl ?_
  obtain ⟨r1, hr1, h⟩ := Option.bind_eq_some_iff.mp h
  refine sd_seq (sd_asgF (d := (D.lst [(D.lst (List.map D.int r1.1)), (D.int r1.2.1), (D.int r1.2.2.1), (D.int r1.2.2.2)])) rfl (ef_callA (ks := [true]) (ds := [(D.lst (List.map D.int a0))]) (R := R__law_dice) rfl (ea_consP (ev_im rfl) ea_nil) ⟨a0, r1, hr1, rfl, rfl⟩)) ?_
  refine sd_env (env2 := ([.im (D.lst (List.map D.int a0)), .ow (D.lst [(D.lst (List.map D.int r1.1)), (D.int r1.2.1), (D.int r1.2.2.1), (D.int r1.2.2.2)]), .an, .an, .an, .an, .an, .an, .an, .an, .an, .an, .an, .an, .an] : List Bd)) (by kernel_rfl) ?_
  obtain ⟨x2, hx2, h⟩ := Option.bind_eq_some_iff.mp h
  obtain ⟨y37, hy37, h⟩ := Option.bind_eq_some_iff.mp h
  refine sd_wp' [2, 3, 4, 5, 6, 7, 8, 9, 10, 11, 12] (by kernel_rfl) (env2 := ([.im (D.lst (List.map D.int a0)), .ow (D.lst [(D.lst (List.map D.int r1.1)), (D.int r1.2.1), (D.int r1.2.2.1), (D.int r1.2.2.2)]), .an, .an, .an, .an, .an, .an, .an, .an, .an, .an, .an, .an, .an] : List Bd)) (by kernel_rfl) ?_
  refine sd_seqZ (sd_for (l := .l2) rfl (ei_rng1T (l' := .l2) hx2 (ea_consP ev_int ea_nil)) (loop_foldZ (en := D.int) (ev := fun (s4 : (((List Int) × Int × Int × Int))) => ([.im (D.lst (List.map D.int a0)), .ow (D.lst [(D.lst (List.map D.int s4.1)), (D.int s4.2.1), (D.int s4.2.2.1), (D.int s4.2.2.2)]), .an, .an, .an, .an, .an, .an, .an, .an, .an, .an, .an, .an, .an] : List Bd)) (fin := (fun (r : Bool) => Out.rx (D.bl r))) (fun _ => rfl) (fun x3 s4 z5 h => ?_) _ r1 _ hy37)) (fun _ => rfl) (fun y38 e => ?_) (fun y38 e => ?_)
  · refine sdt (tg_name rfl) ?_
    obtain ⟨r6, hr6, h⟩ := Option.bind_eq_some_iff.mp h
    obtain ⟨x7, hx7, h⟩ := Option.bind_eq_some_iff.mp h
    obtain ⟨r8, hr8, h⟩ := Option.bind_eq_some_iff.mp h
    refine sd_seq (sd_asg (d := (D.tup [(D.int r8.1.1), (D.tup (List.map (fun (z363 : (Int × Int × (List Int) × Int × Int)) => (D.tup [(D.int z363.1), (D.int z363.2.1), (D.tup (List.map D.int z363.2.2.1)), (D.int z363.2.2.2.1), (D.int z363.2.2.2.2)])) r8.1.2))])) rfl (ev_callMo (i := 1) (ks := [true, true, true]) (ds := [(D.int (6 : Int)), (D.int (10 : Int)), (D.int x7)]) (R := R__law_system) rfl rfl ⟨_, rfl⟩ (ea_consF rfl ev_int (ea_consF rfl ev_int (ea_consF rfl (ev_opF (l := .l2) rfl (ef_ev (ef_is (D.lst (List.map D.int ([(3 : Int), (20 : Int)] : List Int))) (ef_lst (ea_consP ev_int (ea_consP ev_int ea_nil)) (show 2 ≤ 1000 from by decide)) rfl)) (ev_callMo (i := 1) (ks := [true]) (ds := [(D.int (2 : Int))]) (R := R__law_next) rfl rfl ⟨_, rfl⟩ (ea_consP ev_int ea_nil) rfl ⟨s4, (2 : Int), r6, hr6, rfl, rfl, rfl, rfl⟩) (rv_ixLm (f := D.int) (xs := ([(3 : Int), (20 : Int)] : List Int)) (v := x7) hx7)) ea_nil))) rfl ⟨r6.2, (6 : Int), (10 : Int), x7, r8, hr8, rfl, rfl, rfl, rfl⟩)) ?_
    refine sd_env (env2 := ([.im (D.lst (List.map D.int a0)), .ow (D.lst [(D.lst (List.map D.int r8.2.1)), (D.int r8.2.2.1), (D.int r8.2.2.2.1), (D.int r8.2.2.2.2)]), .im (D.int x3), .im (D.tup [(D.int r8.1.1), (D.tup (List.map (fun (z364 : (Int × Int × (List Int) × Int × Int)) => (D.tup [(D.int z364.1), (D.int z364.2.1), (D.tup (List.map D.int z364.2.2.1)), (D.int z364.2.2.2.1), (D.int z364.2.2.2.2)])) r8.1.2))]), .an, .an, .an, .an, .an, .an, .an, .an, .an, .an, .an] : List Bd)) (by kernel_rfl) ?_
    obtain ⟨r9, hr9, h⟩ := Option.bind_eq_some_iff.mp h
    obtain ⟨ys13, hys13, h⟩ := Option.bind_eq_some_iff.mp h
    refine sd_seq (sd_asg (d := (D.tup (List.map D.int ys13.1))) rfl (ev_tuple_of (ea_consF rfl (ef_ev (ef_lcS2 (p := false) (l := .l2) (s := r8.2) (ev := fun (s11 : ((List Int) × Int × Int × Int)) => ([.im (D.lst (List.map D.int a0)), .ow (D.lst [(D.lst (List.map D.int s11.1)), (D.int s11.2.1), (D.int s11.2.2.1), (D.int s11.2.2.2)]), .im (D.int x3), .im (D.tup [(D.int r8.1.1), (D.tup (List.map (fun (z366 : (Int × Int × (List Int) × Int × Int)) => (D.tup [(D.int z366.1), (D.int z366.2.1), (D.tup (List.map D.int z366.2.2.1)), (D.int z366.2.2.2.1), (D.int z366.2.2.2.2)])) r8.1.2))]), .an, .an, .an, .an, .an, .an, .an, .an, .an, .an, .an] : List Bd)) (en := D.int) (eb := D.int) hys13 rfl (ei_toF (ei_tup rfl (ev_callK (l := .l2) (ds := [(D.tup [(D.int r8.1.1), (D.tup (List.map (fun (z365 : (Int × Int × (List Int) × Int × Int)) => (D.tup [(D.int z365.1), (D.int z365.2.1), (D.tup (List.map D.int z365.2.2.1)), (D.int z365.2.2.2.1), (D.int z365.2.2.2.2)])) r8.1.2))])]) (R := R_least_windows) (ek_A (ev_im rfl) ek_nil) ⟨r8.1, r9, hr9, rfl, rfl⟩))) (tw_name (i := 13) (vs := [13]) (by decide)) (anC (v := 13) rfl anN) (fun x10 s11 oo ss wys13 => by obtain ⟨r12, hr12, wys13⟩ := Option.bind_eq_some_iff.mp wys13; obtain ⟨e1, e2⟩ := Prod.mk.inj (Option.some.inj wys13); subst e1; subst e2; exact turn_yes (env2 := ([.im (D.lst (List.map D.int a0)), .ow (D.lst [(D.lst (List.map D.int r12.2.1)), (D.int r12.2.2.1), (D.int r12.2.2.2.1), (D.int r12.2.2.2.2)]), .im (D.int x3), .im (D.tup [(D.int r8.1.1), (D.tup (List.map (fun (z367 : (Int × Int × (List Int) × Int × Int)) => (D.tup [(D.int z367.1), (D.int z367.2.1), (D.tup (List.map D.int z367.2.2.1)), (D.int z367.2.2.2.1), (D.int z367.2.2.2.2)])) r8.1.2))]), .an, .an, .an, .an, .an, .an, .an, .an, .an, .im (D.int x10), .an] : List Bd)) (tg_name rfl) (eb_toF eb_yes) (ev_opF (l := .l2) rfl (ev_im rfl) (ev_callMo (i := 1) (ks := [true]) (ds := [(D.int (9 : Int))]) (R := R__law_next) rfl rfl ⟨_, rfl⟩ (ea_consP ev_int ea_nil) rfl ⟨s11, (9 : Int), r12, hr12, rfl, rfl, rfl, rfl⟩) rv_add) rfl rfl rfl (anC (v := 13) rfl anN)))) ea_nil))) ?_
    refine sd_env (env2 := ([.im (D.lst (List.map D.int a0)), .ow (D.lst [(D.lst (List.map D.int ys13.2.1)), (D.int ys13.2.2.1), (D.int ys13.2.2.2.1), (D.int ys13.2.2.2.2)]), .im (D.int x3), .im (D.tup [(D.int r8.1.1), (D.tup (List.map (fun (z368 : (Int × Int × (List Int) × Int × Int)) => (D.tup [(D.int z368.1), (D.int z368.2.1), (D.tup (List.map D.int z368.2.2.1)), (D.int z368.2.2.2.1), (D.int z368.2.2.2.2)])) r8.1.2))]), .im (D.tup (List.map D.int ys13.1)), .an, .an, .an, .an, .an, .an, .an, .an, .an, .an] : List Bd)) (by kernel_rfl) ?_
    obtain ⟨r14, hr14, h⟩ := Option.bind_eq_some_iff.mp h
    refine sd_seq (sd_asg (d := (dkL (List.map (fun (z : Int × (Int × Int)) => ((Sum.inl z.1 : Key), (D.tup [(D.int z.2.1), (D.int z.2.2)]))) r14))) rfl (ev_callK (l := .l2) (ds := [(D.tup [(D.int r8.1.1), (D.tup (List.map (fun (z369 : (Int × Int × (List Int) × Int × Int)) => (D.tup [(D.int z369.1), (D.int z369.2.1), (D.tup (List.map D.int z369.2.2.1)), (D.int z369.2.2.2.1), (D.int z369.2.2.2.2)])) r8.1.2))])]) (R := R_act_times) (ek_A (ev_im rfl) ek_nil) ⟨r8.1, r14, hr14, rfl, rfl⟩)) ?_
    refine sd_env (env2 := ([.im (D.lst (List.map D.int a0)), .ow (D.lst [(D.lst (List.map D.int ys13.2.1)), (D.int ys13.2.2.1), (D.int ys13.2.2.2.1), (D.int ys13.2.2.2.2)]), .im (D.int x3), .im (D.tup [(D.int r8.1.1), (D.tup (List.map (fun (z370 : (Int × Int × (List Int) × Int × Int)) => (D.tup [(D.int z370.1), (D.int z370.2.1), (D.tup (List.map D.int z370.2.2.1)), (D.int z370.2.2.2.1), (D.int z370.2.2.2.2)])) r8.1.2))]), .im (D.tup (List.map D.int ys13.1)), .im (dkL (List.map (fun (z : Int × (Int × Int)) => ((Sum.inl z.1 : Key), (D.tup [(D.int z.2.1), (D.int z.2.2)]))) r14)), .an, .an, .an, .an, .an, .an, .an, .an, .an] : List Bd)) (by kernel_rfl) ?_
    obtain ⟨ys19, hys19, h⟩ := Option.bind_eq_some_iff.mp h
    refine sd_seq (sd_lk rfl rfl (sd_asg (d := (D.lst (List.map (fun (z374 : (Int × Int)) => (D.tup [(D.int z374.1), (D.int z374.2)])) ys19))) rfl (ef_ev (ef_lcO (l := .l2) (en := D.int) (eb := (fun (z373 : (Int × Int)) => (D.tup [(D.int z373.1), (D.int z373.2)]))) hys19 rfl (ei_keysKt (f := (fun (z375 : (Int × Int)) => (D.tup [(D.int z375.1), (D.int z375.2)]))) (l1 := r14) rfl) (tw_name (i := 8) (vs := [8]) (by decide)) (anC (v := 8) rfl anN) (fun x15 rr wys19 => by obtain ⟨x16, hx16, wys19⟩ := Option.bind_eq_some_iff.mp wys19; obtain ⟨x17, hx17, wys19⟩ := Option.bind_eq_some_iff.mp wys19; obtain ⟨x18, hx18, wys19⟩ := Option.bind_eq_some_iff.mp wys19; have wys19 := Option.some.inj wys19; subst wys19; exact turn_yes (tg_name rfl) eb_yes (ev_tup (ea_consP (ev_opP (l := .l2) (ev_opP (l := .l2) (ev_opP (l := .l2) (ev_im rfl) (ev_im rfl) (rv_ixTm (f := D.int) (xs := ys13.1) (v := x16) hx16)) (ev_opP (l := .l2) (ev_dgetKt (f := (fun (z371 : (Int × Int)) => (D.tup [(D.int z371.1), (D.int z371.2)]))) (v := x17) hx17 (ev_im rfl) (ev_im rfl)) ev_int (rv_ixTn 1 rfl)) rv_add) (ev_opP (l := .l2) (ev_dgetKt (f := (fun (z372 : (Int × Int)) => (D.tup [(D.int z372.1), (D.int z372.2)]))) (v := x18) hx18 (ev_im rfl) (ev_im rfl)) ev_int (rv_ixTn 0 rfl)) rv_sub) (ea_consP (ev_opP (l := .l2) ev_int (ev_im rfl) rv_sub) ea_nil)) (show 2 ≤ 1000 from by decide)) rfl rfl rfl (anC (v := 8) rfl anN))))) (fun _ _ _ hf h => h hf)) ?_
    refine sd_env (env2 := ([.im (D.lst (List.map D.int a0)), .ow (D.lst [(D.lst (List.map D.int ys13.2.1)), (D.int ys13.2.2.1), (D.int ys13.2.2.2.1), (D.int ys13.2.2.2.2)]), .im (D.int x3), .im (D.tup [(D.int r8.1.1), (D.tup (List.map (fun (z376 : (Int × Int × (List Int) × Int × Int)) => (D.tup [(D.int z376.1), (D.int z376.2.1), (D.tup (List.map D.int z376.2.2.1)), (D.int z376.2.2.2.1), (D.int z376.2.2.2.2)])) r8.1.2))]), .im (D.tup (List.map D.int ys13.1)), .im (dkL (List.map (fun (z : Int × (Int × Int)) => ((Sum.inl z.1 : Key), (D.tup [(D.int z.2.1), (D.int z.2.2)]))) r14)), .im (D.lst (List.map (fun (z377 : (Int × Int)) => (D.tup [(D.int z377.1), (D.int z377.2)])) ys19)), .an, .an, .an, .an, .an, .an, .an, .an] : List Bd)) (by kernel_rfl) ?_
    obtain ⟨x21, hx21, h⟩ := Option.bind_eq_some_iff.mp h
    refine sd_seq (sd_asgG (l := .l2) (d := (D.tup [(D.int x21.1), (D.int x21.2)])) (ev_cb (l := .l2) (ea_consP (ev_im rfl) ea_nil) (rc_maxT (key := (fun (k20 : (Int × Int)) => [k20.1, k20.2])) hx21)) (tg_tup rfl (tgs_cons (tg_name rfl) (tgs_cons (tg_name rfl) tgs_nil)))) ?_
    refine sd_env (env2 := ([.im (D.lst (List.map D.int a0)), .ow (D.lst [(D.lst (List.map D.int ys13.2.1)), (D.int ys13.2.2.1), (D.int ys13.2.2.2.1), (D.int ys13.2.2.2.2)]), .im (D.int x3), .im (D.tup [(D.int r8.1.1), (D.tup (List.map (fun (z378 : (Int × Int × (List Int) × Int × Int)) => (D.tup [(D.int z378.1), (D.int z378.2.1), (D.tup (List.map D.int z378.2.2.1)), (D.int z378.2.2.2.1), (D.int z378.2.2.2.2)])) r8.1.2))]), .im (D.tup (List.map D.int ys13.1)), .im (dkL (List.map (fun (z : Int × (Int × Int)) => ((Sum.inl z.1 : Key), (D.tup [(D.int z.2.1), (D.int z.2.2)]))) r14)), .im (D.lst (List.map (fun (z379 : (Int × Int)) => (D.tup [(D.int z379.1), (D.int z379.2)])) ys19)), .im (D.int x21.1), .im (D.int x21.2), .an, .an, .an, .an, .an, .an] : List Bd)) (by kernel_rfl) ?_
    obtain ⟨r22, hr22, h⟩ := Option.bind_eq_some_iff.mp h
    obtain ⟨r23, hr23, h⟩ := Option.bind_eq_some_iff.mp h
    refine sd_ifs (eb_not (eb_B (l := .l2) (ev_callK (l := .l2) (ds := [(D.int r22), (D.int (x21.1 + (1 : Int)))]) (R := R__law_like) (ek_A (ev_callK (l := .l2) (ds := [(D.tup [(D.int r8.1.1), (D.tup (List.map (fun (z380 : (Int × Int × (List Int) × Int × Int)) => (D.tup [(D.int z380.1), (D.int z380.2.1), (D.tup (List.map D.int z380.2.2.1)), (D.int z380.2.2.2.1), (D.int z380.2.2.2.2)])) r8.1.2))]), (D.tup (List.map D.int ys13.1))]) (R := R_least_reuse_time) (ek_A (ev_im rfl) (ek_A (ev_im rfl) ek_nil)) ⟨r8.1, ys13.1, r22, hr22, rfl, rfl⟩) (ek_A (ev_opP (l := .l2) (ev_im rfl) ev_int rv_add) ek_nil)) ⟨r22, (x21.1 + (1 : Int)), r23, hr23, rfl, rfl⟩))) (fun hb => ?_) (fun hb => ?_)
    · replace h := ifT hb h
      have h := Option.some.inj h; subst h
      exact sd_out (sd_ret (d := (D.bl false)) ev_bl) rfl
    · replace h := ifF hb h
      refine sd_seqNext ?_
      obtain ⟨r24, hr24, h⟩ := Option.bind_eq_some_iff.mp h
      refine sd_seq (sd_asgG (l := .l2) (d := (D.tup [(D.int r24.1), (D.lst (List.map (fun (z382 : (Int × Int × Int × Int × Int)) => (D.tup [(D.int z382.1), (D.int z382.2.1), (D.int z382.2.2.1), (D.int z382.2.2.2.1), (D.int z382.2.2.2.2)])) r24.2))])) (ev_callK (l := .l2) (ds := [(D.tup [(D.int r8.1.1), (D.tup (List.map (fun (z381 : (Int × Int × (List Int) × Int × Int)) => (D.tup [(D.int z381.1), (D.int z381.2.1), (D.tup (List.map D.int z381.2.2.1)), (D.int z381.2.2.2.1), (D.int z381.2.2.2.2)])) r8.1.2))]), (D.tup (List.map D.int ys13.1))]) (R := R_reuse_conflict) (ek_A (ev_im rfl) (ek_A (ev_im rfl) ek_nil)) ⟨r8.1, ys13.1, r24, hr24, rfl, rfl⟩) (tg_tup rfl (tgs_cons (tg_name rfl) (tgs_cons (tg_name rfl) tgs_nil)))) ?_
      refine sd_env (env2 := ([.im (D.lst (List.map D.int a0)), .ow (D.lst [(D.lst (List.map D.int ys13.2.1)), (D.int ys13.2.2.1), (D.int ys13.2.2.2.1), (D.int ys13.2.2.2.2)]), .im (D.int x3), .im (D.tup [(D.int r8.1.1), (D.tup (List.map (fun (z383 : (Int × Int × (List Int) × Int × Int)) => (D.tup [(D.int z383.1), (D.int z383.2.1), (D.tup (List.map D.int z383.2.2.1)), (D.int z383.2.2.2.1), (D.int z383.2.2.2.2)])) r8.1.2))]), .im (D.tup (List.map D.int ys13.1)), .im (dkL (List.map (fun (z : Int × (Int × Int)) => ((Sum.inl z.1 : Key), (D.tup [(D.int z.2.1), (D.int z.2.2)]))) r14)), .im (D.lst (List.map (fun (z384 : (Int × Int)) => (D.tup [(D.int z384.1), (D.int z384.2)])) ys19)), .im (D.int x21.1), .im (D.int x21.2), .im (D.int r24.1), .im (D.lst (List.map (fun (z385 : (Int × Int × Int × Int × Int)) => (D.tup [(D.int z385.1), (D.int z385.2.1), (D.int z385.2.2.1), (D.int z385.2.2.2.1), (D.int z385.2.2.2.2)])) r24.2)), .an, .an, .an, .an] : List Bd)) (by kernel_rfl) ?_
      obtain ⟨c26, hc26, h⟩ := Option.bind_eq_some_iff.mp h
      refine sd_ifs (eb_orW (c := c26) (eb_test (l := .l2) (ev_opP (l := .l2) (ev_im rfl) (ev_opP (l := .l2) ev_int (ev_im rfl) rv_sub) rv_neI)) (fun hb => by have wc26 := ifF hb hc26; obtain ⟨r25, hr25, wc26⟩ := Option.bind_eq_some_iff.mp wc26; have wc26 := Option.some.inj wc26; subst wc26; exact (eb_not (eb_B (l := .l2) (ev_callK (l := .l2) (ds := [(D.tup [(D.int r8.1.1), (D.tup (List.map (fun (z386 : (Int × Int × (List Int) × Int × Int)) => (D.tup [(D.int z386.1), (D.int z386.2.1), (D.tup (List.map D.int z386.2.2.1)), (D.int z386.2.2.2.1), (D.int z386.2.2.2.2)])) r8.1.2))]), (D.int (2 : Int)), (D.lst (List.map (fun (z387 : (Int × Int × Int × Int × Int)) => (D.tup [(D.int z387.1), (D.int z387.2.1), (D.int z387.2.2.1), (D.int z387.2.2.2.1), (D.int z387.2.2.2.2)])) r24.2))]) (R := R__law_is_schedule) (ek_A (ev_im rfl) (ek_A ev_int (ek_A (ev_im rfl) ek_nil))) ⟨r8.1, (2 : Int), r24.2, r25, hr25, rfl, rfl⟩)))) (fun hb => by have wc26 := ifT hb hc26; exact (Option.some.inj wc26).symm)) (fun hb => ?_) (fun hb => ?_)
      · replace h := ifT hb h
        have h := Option.some.inj h; subst h
        exact sd_out (sd_ret (d := (D.bl false)) ev_bl) rfl
      · replace h := ifF hb h
        refine sd_seqNext ?_
        refine sd_if (eb_test (l := .l2) (ev_opP (l := .l2) (ev_im rfl) ev_int rv_gt)) (fun hb => ?_) (fun hb => ?_)
        · replace h := ifT hb h
          obtain ⟨r27, hr27, h⟩ := Option.bind_eq_some_iff.mp h
          refine sd_seq (sd_asg (d := (D.lst (List.map (fun (z390 : (Int × Int × Int × Bool)) => (D.tup [(D.int z390.1), (D.int z390.2.1), (D.int z390.2.2.1), (D.bl z390.2.2.2)])) r27))) rfl (ev_callK (l := .l2) (ds := [(D.tup [(D.int r8.1.1), (D.tup (List.map (fun (z388 : (Int × Int × (List Int) × Int × Int)) => (D.tup [(D.int z388.1), (D.int z388.2.1), (D.tup (List.map D.int z388.2.2.1)), (D.int z388.2.2.2.1), (D.int z388.2.2.2.2)])) r8.1.2))]), (D.tup (List.map D.int ys13.1)), (D.lst (List.map D.int ([(0 : Int), x21.1] : List Int))), (D.lst (List.map (fun (z389 : (Int × Int × Int × Int × Int)) => (D.tup [(D.int z389.1), (D.int z389.2.1), (D.int z389.2.2.1), (D.int z389.2.2.2.1), (D.int z389.2.2.2.2)])) r24.2))]) (R := R__law_played) (ek_A (ev_im rfl) (ek_A (ev_im rfl) (ek_A (ef_ev (ef_is (D.lst (List.map D.int ([(0 : Int), x21.1] : List Int))) (ef_lst (ea_consP ev_int (ea_consP (ev_im rfl) ea_nil)) (show 2 ≤ 1000 from by decide)) rfl)) (ek_A (ev_im rfl) ek_nil)))) ⟨r8.1, ys13.1, ([(0 : Int), x21.1] : List Int), r24.2, r27, hr27, rfl, rfl⟩)) ?_
          refine sd_env (env2 := ([.im (D.lst (List.map D.int a0)), .ow (D.lst [(D.lst (List.map D.int ys13.2.1)), (D.int ys13.2.2.1), (D.int ys13.2.2.2.1), (D.int ys13.2.2.2.2)]), .im (D.int x3), .im (D.tup [(D.int r8.1.1), (D.tup (List.map (fun (z391 : (Int × Int × (List Int) × Int × Int)) => (D.tup [(D.int z391.1), (D.int z391.2.1), (D.tup (List.map D.int z391.2.2.1)), (D.int z391.2.2.2.1), (D.int z391.2.2.2.2)])) r8.1.2))]), .im (D.tup (List.map D.int ys13.1)), .im (dkL (List.map (fun (z : Int × (Int × Int)) => ((Sum.inl z.1 : Key), (D.tup [(D.int z.2.1), (D.int z.2.2)]))) r14)), .im (D.lst (List.map (fun (z392 : (Int × Int)) => (D.tup [(D.int z392.1), (D.int z392.2)])) ys19)), .im (D.int x21.1), .im (D.int x21.2), .im (D.int r24.1), .im (D.lst (List.map (fun (z393 : (Int × Int × Int × Int × Int)) => (D.tup [(D.int z393.1), (D.int z393.2.1), (D.int z393.2.2.1), (D.int z393.2.2.2.1), (D.int z393.2.2.2.2)])) r24.2)), .im (D.lst (List.map (fun (z394 : (Int × Int × Int × Bool)) => (D.tup [(D.int z394.1), (D.int z394.2.1), (D.int z394.2.2.1), (D.bl z394.2.2.2)])) r27)), .an, .an, .an] : List Bd)) (by kernel_rfl) ?_
          obtain ⟨ys29, hys29, h⟩ := Option.bind_eq_some_iff.mp h
          refine sd_seq (sd_asg (d := (D.lst (List.map (fun (z397 : (Int × Int × Int × Bool)) => (D.tup [(D.int z397.1), (D.int z397.2.1), (D.int z397.2.2.1), (D.bl z397.2.2.2)])) ys29))) rfl (ef_ev (ef_lcO (l := .l2) (en := (fun (z395 : (Int × Int × Int × Bool)) => (D.tup [(D.int z395.1), (D.int z395.2.1), (D.int z395.2.2.1), (D.bl z395.2.2.2)]))) (eb := (fun (z396 : (Int × Int × Int × Bool)) => (D.tup [(D.int z396.1), (D.int z396.2.1), (D.int z396.2.2.1), (D.bl z396.2.2.2)]))) hys29 rfl (ei_list rfl (ev_im rfl)) (tw_name (i := 14) (vs := [14]) (by decide)) (anC (v := 14) rfl anN) (fun x28 rr wys29 => by exact (Bool.eq_false_or_eq_true (((decide (x28.2.1 = r24.1)) && (decide (x28.2.2.1 = (1 : Int)))))).elim (fun hb => by have wys29 := ifT hb wys29; have wys29 := Option.some.inj wys29; subst wys29; exact turn_yes (tg_name rfl) (eb_is (eb_and (eb_test (l := .l2) (ev_opP (l := .l2) (ev_opP (l := .l2) (ev_im rfl) ev_int (rv_ixTn 1 rfl)) (ev_im rfl) rv_eqI)) (fun _ => (eb_test (l := .l2) (ev_opP (l := .l2) (ev_opP (l := .l2) (ev_im rfl) ev_int (rv_ixTn 2 rfl)) ev_int rv_eqI)))) hb) (ev_im rfl) rfl rfl rfl (anC (v := 14) rfl anN)) (fun hb => by have wys29 := ifF hb wys29; have wys29 := Option.some.inj wys29; subst wys29; exact turn_no (tg_name rfl) (eb_is (eb_and (eb_test (l := .l2) (ev_opP (l := .l2) (ev_opP (l := .l2) (ev_im rfl) ev_int (rv_ixTn 1 rfl)) (ev_im rfl) rv_eqI)) (fun _ => (eb_test (l := .l2) (ev_opP (l := .l2) (ev_opP (l := .l2) (ev_im rfl) ev_int (rv_ixTn 2 rfl)) ev_int rv_eqI)))) hb) rfl rfl (anC (v := 14) rfl anN)))))) ?_
          refine sd_env (env2 := ([.im (D.lst (List.map D.int a0)), .ow (D.lst [(D.lst (List.map D.int ys13.2.1)), (D.int ys13.2.2.1), (D.int ys13.2.2.2.1), (D.int ys13.2.2.2.2)]), .im (D.int x3), .im (D.tup [(D.int r8.1.1), (D.tup (List.map (fun (z398 : (Int × Int × (List Int) × Int × Int)) => (D.tup [(D.int z398.1), (D.int z398.2.1), (D.tup (List.map D.int z398.2.2.1)), (D.int z398.2.2.2.1), (D.int z398.2.2.2.2)])) r8.1.2))]), .im (D.tup (List.map D.int ys13.1)), .im (dkL (List.map (fun (z : Int × (Int × Int)) => ((Sum.inl z.1 : Key), (D.tup [(D.int z.2.1), (D.int z.2.2)]))) r14)), .im (D.lst (List.map (fun (z399 : (Int × Int)) => (D.tup [(D.int z399.1), (D.int z399.2)])) ys19)), .im (D.int x21.1), .im (D.int x21.2), .im (D.int r24.1), .im (D.lst (List.map (fun (z400 : (Int × Int × Int × Int × Int)) => (D.tup [(D.int z400.1), (D.int z400.2.1), (D.int z400.2.2.1), (D.int z400.2.2.2.1), (D.int z400.2.2.2.2)])) r24.2)), .im (D.lst (List.map (fun (z401 : (Int × Int × Int × Bool)) => (D.tup [(D.int z401.1), (D.int z401.2.1), (D.int z401.2.2.1), (D.bl z401.2.2.2)])) r27)), .im (D.lst (List.map (fun (z402 : (Int × Int × Int × Bool)) => (D.tup [(D.int z402.1), (D.int z402.2.1), (D.int z402.2.2.1), (D.bl z402.2.2.2)])) ys29)), .an, .an] : List Bd)) (by kernel_rfl) ?_
          obtain ⟨c31, hc31, h⟩ := Option.bind_eq_some_iff.mp h
          refine sd_ifs (eb_orW (c := c31) (eb_test (l := .l2) (ev_opP (l := .l2) (ev_im rfl) (ev_lst ea_nil (Nat.zero_le _)) (rv_eqNilT (f := (fun (z403 : (Int × Int × Int × Bool)) => (D.tup [(D.int z403.1), (D.int z403.2.1), (D.int z403.2.2.1), (D.bl z403.2.2.2)]))) (n := 4) (fun _ => (pl_tup (pll_cons (pl_up (m := 3) (by decide) (pl_int _)) (pll_cons (pl_up (m := 3) (by decide) (pl_int _)) (pll_cons (pl_up (m := 3) (by decide) (pl_int _)) (pll_cons (pl_up (m := 3) (by decide) (pl_bl _)) (pll_nil _))))))) (by decide)))) (fun hb => by have wc31 := ifF hb hc31; obtain ⟨x30, hx30, wc31⟩ := Option.bind_eq_some_iff.mp wc31; have wc31 := Option.some.inj wc31; subst wc31; exact (eb_B (l := .l2) (ev_opP (l := .l2) (ev_opP (l := .l2) (ev_im rfl) ev_int (rv_ixLm (f := (fun (z404 : (Int × Int × Int × Bool)) => (D.tup [(D.int z404.1), (D.int z404.2.1), (D.int z404.2.2.1), (D.bl z404.2.2.2)]))) (xs := ys29) (v := x30) hx30)) ev_int (rv_ixTn 3 rfl)))) (fun hb => by have wc31 := ifT hb hc31; exact (Option.some.inj wc31).symm)) (fun hb => ?_) (fun hb => ?_)
          · replace h := ifT hb h
            have h := Option.some.inj h; subst h
            exact sd_out (sd_ret (d := (D.bl false)) ev_bl) rfl
          · replace h := ifF hb h
            refine sd_seqNext ?_
            obtain ⟨r32, hr32, h⟩ := Option.bind_eq_some_iff.mp h
            refine sd_seq (sd_asg (d := (D.lst (List.map (fun (z407 : (Int × Int × Int × Bool)) => (D.tup [(D.int z407.1), (D.int z407.2.1), (D.int z407.2.2.1), (D.bl z407.2.2.2)])) r32))) rfl (ev_callK (l := .l2) (ds := [(D.tup [(D.int r8.1.1), (D.tup (List.map (fun (z405 : (Int × Int × (List Int) × Int × Int)) => (D.tup [(D.int z405.1), (D.int z405.2.1), (D.tup (List.map D.int z405.2.2.1)), (D.int z405.2.2.2.1), (D.int z405.2.2.2.2)])) r8.1.2))]), (D.tup (List.map D.int ys13.1)), (D.lst (List.map D.int ([(0 : Int), (x21.1 + (1 : Int))] : List Int))), (D.lst (List.map (fun (z406 : (Int × Int × Int × Int × Int)) => (D.tup [(D.int z406.1), (D.int z406.2.1), (D.int z406.2.2.1), (D.int z406.2.2.2.1), (D.int z406.2.2.2.2)])) r24.2))]) (R := R__law_played) (ek_A (ev_im rfl) (ek_A (ev_im rfl) (ek_A (ef_ev (ef_is (D.lst (List.map D.int ([(0 : Int), (x21.1 + (1 : Int))] : List Int))) (ef_lst (ea_consP ev_int (ea_consP (ev_opP (l := .l2) (ev_im rfl) ev_int rv_add) ea_nil)) (show 2 ≤ 1000 from by decide)) rfl)) (ek_A (ev_im rfl) ek_nil)))) ⟨r8.1, ys13.1, ([(0 : Int), (x21.1 + (1 : Int))] : List Int), r24.2, r32, hr32, rfl, rfl⟩)) ?_
            refine sd_env (env2 := ([.im (D.lst (List.map D.int a0)), .ow (D.lst [(D.lst (List.map D.int ys13.2.1)), (D.int ys13.2.2.1), (D.int ys13.2.2.2.1), (D.int ys13.2.2.2.2)]), .im (D.int x3), .im (D.tup [(D.int r8.1.1), (D.tup (List.map (fun (z408 : (Int × Int × (List Int) × Int × Int)) => (D.tup [(D.int z408.1), (D.int z408.2.1), (D.tup (List.map D.int z408.2.2.1)), (D.int z408.2.2.2.1), (D.int z408.2.2.2.2)])) r8.1.2))]), .im (D.tup (List.map D.int ys13.1)), .im (dkL (List.map (fun (z : Int × (Int × Int)) => ((Sum.inl z.1 : Key), (D.tup [(D.int z.2.1), (D.int z.2.2)]))) r14)), .im (D.lst (List.map (fun (z409 : (Int × Int)) => (D.tup [(D.int z409.1), (D.int z409.2)])) ys19)), .im (D.int x21.1), .im (D.int x21.2), .im (D.int r24.1), .im (D.lst (List.map (fun (z410 : (Int × Int × Int × Int × Int)) => (D.tup [(D.int z410.1), (D.int z410.2.1), (D.int z410.2.2.1), (D.int z410.2.2.2.1), (D.int z410.2.2.2.2)])) r24.2)), .im (D.lst (List.map (fun (z411 : (Int × Int × Int × Bool)) => (D.tup [(D.int z411.1), (D.int z411.2.1), (D.int z411.2.2.1), (D.bl z411.2.2.2)])) r32)), .im (D.lst (List.map (fun (z412 : (Int × Int × Int × Bool)) => (D.tup [(D.int z412.1), (D.int z412.2.1), (D.int z412.2.2.1), (D.bl z412.2.2.2)])) ys29)), .an, .an] : List Bd)) (by kernel_rfl) ?_
            obtain ⟨ys34, hys34, h⟩ := Option.bind_eq_some_iff.mp h
            refine sd_seq (sd_asg (d := (D.lst (List.map (fun (z415 : (Int × Int × Int × Bool)) => (D.tup [(D.int z415.1), (D.int z415.2.1), (D.int z415.2.2.1), (D.bl z415.2.2.2)])) ys34))) rfl (ef_ev (ef_lcO (l := .l2) (en := (fun (z413 : (Int × Int × Int × Bool)) => (D.tup [(D.int z413.1), (D.int z413.2.1), (D.int z413.2.2.1), (D.bl z413.2.2.2)]))) (eb := (fun (z414 : (Int × Int × Int × Bool)) => (D.tup [(D.int z414.1), (D.int z414.2.1), (D.int z414.2.2.1), (D.bl z414.2.2.2)]))) hys34 rfl (ei_list rfl (ev_im rfl)) (tw_name (i := 14) (vs := [14]) (by decide)) (anC (v := 14) rfl anN) (fun x33 rr wys34 => by exact (Bool.eq_false_or_eq_true (((decide (x33.2.1 = r24.1)) && (decide (x33.2.2.1 = (1 : Int)))))).elim (fun hb => by have wys34 := ifT hb wys34; have wys34 := Option.some.inj wys34; subst wys34; exact turn_yes (tg_name rfl) (eb_is (eb_and (eb_test (l := .l2) (ev_opP (l := .l2) (ev_opP (l := .l2) (ev_im rfl) ev_int (rv_ixTn 1 rfl)) (ev_im rfl) rv_eqI)) (fun _ => (eb_test (l := .l2) (ev_opP (l := .l2) (ev_opP (l := .l2) (ev_im rfl) ev_int (rv_ixTn 2 rfl)) ev_int rv_eqI)))) hb) (ev_im rfl) rfl rfl rfl (anC (v := 14) rfl anN)) (fun hb => by have wys34 := ifF hb wys34; have wys34 := Option.some.inj wys34; subst wys34; exact turn_no (tg_name rfl) (eb_is (eb_and (eb_test (l := .l2) (ev_opP (l := .l2) (ev_opP (l := .l2) (ev_im rfl) ev_int (rv_ixTn 1 rfl)) (ev_im rfl) rv_eqI)) (fun _ => (eb_test (l := .l2) (ev_opP (l := .l2) (ev_opP (l := .l2) (ev_im rfl) ev_int (rv_ixTn 2 rfl)) ev_int rv_eqI)))) hb) rfl rfl (anC (v := 14) rfl anN)))))) ?_
            refine sd_env (env2 := ([.im (D.lst (List.map D.int a0)), .ow (D.lst [(D.lst (List.map D.int ys13.2.1)), (D.int ys13.2.2.1), (D.int ys13.2.2.2.1), (D.int ys13.2.2.2.2)]), .im (D.int x3), .im (D.tup [(D.int r8.1.1), (D.tup (List.map (fun (z416 : (Int × Int × (List Int) × Int × Int)) => (D.tup [(D.int z416.1), (D.int z416.2.1), (D.tup (List.map D.int z416.2.2.1)), (D.int z416.2.2.2.1), (D.int z416.2.2.2.2)])) r8.1.2))]), .im (D.tup (List.map D.int ys13.1)), .im (dkL (List.map (fun (z : Int × (Int × Int)) => ((Sum.inl z.1 : Key), (D.tup [(D.int z.2.1), (D.int z.2.2)]))) r14)), .im (D.lst (List.map (fun (z417 : (Int × Int)) => (D.tup [(D.int z417.1), (D.int z417.2)])) ys19)), .im (D.int x21.1), .im (D.int x21.2), .im (D.int r24.1), .im (D.lst (List.map (fun (z418 : (Int × Int × Int × Int × Int)) => (D.tup [(D.int z418.1), (D.int z418.2.1), (D.int z418.2.2.1), (D.int z418.2.2.2.1), (D.int z418.2.2.2.2)])) r24.2)), .im (D.lst (List.map (fun (z419 : (Int × Int × Int × Bool)) => (D.tup [(D.int z419.1), (D.int z419.2.1), (D.int z419.2.2.1), (D.bl z419.2.2.2)])) r32)), .im (D.lst (List.map (fun (z420 : (Int × Int × Int × Bool)) => (D.tup [(D.int z420.1), (D.int z420.2.1), (D.int z420.2.2.1), (D.bl z420.2.2.2)])) ys34)), .an, .an] : List Bd)) (by kernel_rfl) ?_
            obtain ⟨c36, hc36, h⟩ := Option.bind_eq_some_iff.mp h
            refine sd_if (eb_orW (c := c36) (eb_test (l := .l2) (ev_opP (l := .l2) (ev_im rfl) (ev_lst ea_nil (Nat.zero_le _)) (rv_eqNilT (f := (fun (z421 : (Int × Int × Int × Bool)) => (D.tup [(D.int z421.1), (D.int z421.2.1), (D.int z421.2.2.1), (D.bl z421.2.2.2)]))) (n := 4) (fun _ => (pl_tup (pll_cons (pl_up (m := 3) (by decide) (pl_int _)) (pll_cons (pl_up (m := 3) (by decide) (pl_int _)) (pll_cons (pl_up (m := 3) (by decide) (pl_int _)) (pll_cons (pl_up (m := 3) (by decide) (pl_bl _)) (pll_nil _))))))) (by decide)))) (fun hb => by have wc36 := ifF hb hc36; obtain ⟨x35, hx35, wc36⟩ := Option.bind_eq_some_iff.mp wc36; have wc36 := Option.some.inj wc36; subst wc36; exact (eb_not (eb_B (l := .l2) (ev_opP (l := .l2) (ev_opP (l := .l2) (ev_im rfl) ev_int (rv_ixLm (f := (fun (z422 : (Int × Int × Int × Bool)) => (D.tup [(D.int z422.1), (D.int z422.2.1), (D.int z422.2.2.1), (D.bl z422.2.2.2)]))) (xs := ys34) (v := x35) hx35)) ev_int (rv_ixTn 3 rfl))))) (fun hb => by have wc36 := ifT hb hc36; exact (Option.some.inj wc36).symm)) (fun hb => ?_) (fun hb => ?_)
            · replace h := ifT hb h
              have h := Option.some.inj h; subst h
              exact (sd_ret (d := (D.bl false)) ev_bl)
            · replace h := ifF hb h
              have h := Option.some.inj h; subst h
              exact sd_nextW [2, 3, 4, 5, 6, 7, 8, 9, 10, 11, 12] (by kernel_rfl) (by kernel_rfl)
        · replace h := ifF hb h
          have h := Option.some.inj h; subst h
          exact sd_nextW [2, 3, 4, 5, 6, 7, 8, 9, 10, 11, 12] (by kernel_rfl) (by kernel_rfl)
  · subst e; replace h : _ = _ := h
    have h := Option.some.inj h; subst h
    exact (sd_ret (d := (D.bl true)) ev_bl)
  · subst e; have h := Option.some.inj h; subst h; rfl
end
end K10
namespace K10
open PySem L2 Pw
abbrev Call := Int × Int × List Int × Int × Int
theorem modO_pos {i n : Int} (h : 0 < n) : modO i n = some (i % n) := by unfold modO; rw [if_pos h]
theorem divO_pos {i n : Int} (h : 0 < n) (h1 : n < 2 ^ 62) : divO i n = some (i / n) := by unfold divO; rw [if_pos ⟨h, h1⟩]
theorem mulO_small {i j : Int} (h : i.natAbs < 2 ^ 64) (h1 : j.natAbs < 2 ^ 64) : mulO i j = some (i * j) := by
  unfold mulO
  rw [if_pos ⟨Nat.lt_of_lt_of_le h (Nat.pow_le_pow_right (by decide) (by decide)), Nat.lt_of_lt_of_le h1 (Nat.pow_le_pow_right (by decide) (by decide))⟩]
theorem okL_small {n : Nat} (h : n < 100000) : okL n = some () := by unfold okL; rw [if_pos h]
def VO (os : List Int) : Prop := os ≠ [] ∧ os.length ≤ 4 ∧ os.Pairwise (· < ·) ∧ ∀ x ∈ os, 0 ≤ x ∧ x ≤ 99
structure VC (n : Int) (c : Call) : Prop where
  lo : 0 ≤ c.1
  lt : c.1 < c.2.1
  hi : c.2.1 < n
  os : VO c.2.2.1
  le : 0 ≤ c.2.2.2.1
  lm : c.2.2.2.1 ≤ c.2.2.2.2
  mo : c.2.2.2.2 ≤ 99
structure VS (s : Int × List Call) : Prop where
  n1 : 1 ≤ s.1
  n8 : s.1 ≤ 8
  cs : ∀ c ∈ s.2, VC s.1 c
  few : s.2.length ≤ 20
theorem rngO_small {lo hi : Int} (h1 : -1000 ≤ lo) (h2 : lo ≤ 1000) (h3 : -1000 ≤ hi) (h4 : hi ≤ 1000) : rngO lo hi = some (rng lo (hi - lo).toNat) := by
  unfold rngO
  rw [if_pos (by unfold inR; simp only [Bool.and_eq_true, decide_eq_true_eq]; omega)]
theorem compSL_ok {α β S : Type} (P : S → Prop) (B : β → Prop) {f : S → α → Option (Option β × S)} (h : ∀ s x, P s → ∃ b s', f s x = some (some b, s') ∧ P s' ∧ B b) :
    ∀ (xs : List α) s, P s → ∃ ys s', compSL f xs s = some (ys, s') ∧ P s' ∧ ys.length = xs.length ∧ ∀ y ∈ ys, B y
  | [], s, hs => ⟨[], s, rfl, hs, rfl, fun y hy => by cases hy⟩
  | x :: xs, s, hs => by
    obtain ⟨b, s1, e, h1, h2⟩ := h s x hs
    obtain ⟨ys, s2, e2, h3, h4, h5⟩ := compSL_ok P B h xs s1 h1
    refine ⟨b :: ys, s2, ?_, h3, by simp [h4], fun y hy => ?_⟩
    · show (f s x).bind _ = _
      rw [e]
      show (compSL f xs s1).bind _ = _
      rw [e2]
      rfl
    · cases hy with
      | head => exact h2
      | tail _ z => exact h5 y z
theorem ins_len (k : Int) : ∀ xs : List Int, (insI k xs).length ≤ xs.length + 1 ∧ insI k xs ≠ []
  | [] => by unfold insI; simp
  | x :: xs => by
    have := ins_len k xs
    unfold insI
    split
    · simp
    · split <;> simp <;> omega
theorem sset_len : ∀ xs : List Int, (ssetI xs).length ≤ xs.length ∧ (xs ≠ [] → ssetI xs ≠ [])
  | [] => ⟨Nat.le_refl _, fun h => absurd rfl h⟩
  | x :: xs => by
    have := (sset_len xs).1
    have := ins_len x (ssetI xs)
    unfold ssetI
    exact ⟨by simp; omega, fun _ => this.2⟩
theorem rng_len {lo : Int} {n : Nat} : (rng lo n).length = n := by unfold rng; simp
end K10
namespace K10
open PySem L2 Pw
abbrev Dice := List Int × Int × Int × Int
def DI (d : Dice) : Prop := 0 ≤ d.2.1 ∧ 0 ≤ d.2.2.1 ∧ d.2.2.1 < 2147483647
theorem next_ok {d : Dice} {n : Int} (hd : DI d) (h0 : 0 < n) (h1 : n < 2 ^ 62) : ∃ r d', m__law_next d n = some (r, d') ∧ 0 ≤ r ∧ r < n ∧ DI d' := by
  have e0 : n ≠ 0 := by omega
  obtain ⟨g1, g2, g3⟩ := hd
  unfold m__law_next
  by_cases c1 : (0 : Int) < d.2.2.2
  · rw [if_pos (decide_eq_true c1), modO_pos h0, divO_pos h0 h1]
    exact ⟨_, _, rfl, Int.emod_nonneg _ e0, Int.emod_lt_of_pos _ h0, g1, g2, g3⟩
  · rw [if_neg (by simpa using c1)]
    by_cases c2 : d.2.1 + 1 ≤ (d.1.length : Int)
    · rw [if_pos (decide_eq_true c2)]
      obtain ⟨j, hj⟩ := Int.eq_ofNat_of_zero_le g1
      have hl : j < d.1.length := by omega
      have hx : d.1[j]? = some d.1[j] := List.getElem?_eq_getElem hl
      have ha : atI d.1 (d.2.1 + 1 - 1) = some d.1[j] := by
        rw [show d.2.1 + 1 - 1 = ((j : Nat) : Int) by omega]
        exact atI_nat hx
      rw [ha]
      rw [Option.bind_some]
      rw [divO_pos h0 h1]
      by_cases c3 : (10 : Int) ^ (Int.toNat 18) ≤ d.1[j]
      · rw [if_pos (decide_eq_true c3)]
        rw [Option.bind_some]
        rw [modO_pos h0]
        exact ⟨_, _, rfl, Int.emod_nonneg _ e0, Int.emod_lt_of_pos _ h0, by show 0 ≤ d.2.1 + 1; omega, g2, g3⟩
      · rw [if_neg (by simpa using c3)]
        rw [Option.bind_some]
        rw [modO_pos h0]
        exact ⟨_, _, rfl, Int.emod_nonneg _ e0, Int.emod_lt_of_pos _ h0, by show 0 ≤ d.2.1 + 1; omega, g2, g3⟩
    · rw [if_neg (by simpa using c2), mulO_small (by omega) (by decide)]
      rw [Option.bind_some]
      rw [divO_pos (by decide) (by decide)]
      rw [Option.bind_some]
      rw [modO_pos h0]
      exact ⟨_, _, rfl, Int.emod_nonneg _ e0, Int.emod_lt_of_pos _ h0, by show 0 ≤ d.2.1 + 1; omega, Int.emod_nonneg _ (by decide), Int.emod_lt_of_pos _ (by decide)⟩
theorem dice_ok {ns : List Int} : ∃ d, m__law_dice ns = some d ∧ DI d := by
  have fold : ∀ (xs : List Int) (s : Int), 0 ≤ s → s < 2147483647 → ∃ s', xs.foldlM (fun (s2 : (Int)) (x1 : Int) => (mulO s2 (48271 : Int)).bind fun x4 => (mulO (x1 % (2147483647 : Int)) (69621 : Int)).bind fun x5 => some (((x4 + x5) + (11 : Int)) % (2147483647 : Int))) s = some s' ∧ 0 ≤ s' ∧ s' < 2147483647 := by
    intro xs
    induction xs with
    | nil => exact fun s h1 h2 => ⟨s, rfl, h1, h2⟩
    | cons x xs ih =>
      intro s h1 h2
      rw [List.foldlM_cons, mulO_small (by omega) (by decide)]
      have := Int.emod_nonneg x (show (2147483647 : Int) ≠ 0 by decide)
      have := Int.emod_lt_of_pos x (show (0 : Int) < 2147483647 by decide)
      rw [show (Option.bind (some (s * 48271)) fun x4 => (mulO (x % (2147483647 : Int)) (69621 : Int)).bind fun x5 => some (((x4 + x5) + (11 : Int)) % (2147483647 : Int))) = some (((s * 48271 + x % 2147483647 * 69621) + 11) % 2147483647) by
        show (mulO (x % (2147483647 : Int)) (69621 : Int)).bind _ = _
        rw [mulO_small (by omega) (by decide)]
        rfl]
      exact ih _ (Int.emod_nonneg _ (by decide)) (Int.emod_lt_of_pos _ (by decide))
  obtain ⟨s, e, h1, h2⟩ := fold ns 0 (by decide) (by decide)
  unfold m__law_dice
  rw [e]
  rw [Option.bind_some]
  by_cases c : (2 : Int) < (ns.length : Int)
  · rw [if_pos (decide_eq_true c), mulO_small (by omega) (by decide)]
    exact ⟨_, rfl, Int.le_refl _, by show 0 ≤ s * 1; omega, by show s * 1 < _; omega⟩
  · rw [if_neg (by simpa using c), mulO_small (by omega) (by decide)]
    exact ⟨_, rfl, Int.le_refl _, by show 0 ≤ s * 0; omega, by show s * 0 < _; omega⟩
end K10
namespace K10
open PySem L2 Pw
theorem within_ok {a l h : Int} : m_is_number_within a l h = some (decide (l ≤ a) && decide (a ≤ h)) := by
  unfold m_is_number_within m_is_number
  rw [Option.bind_some]
  rfl
theorem within_yes {a l h : Int} (h1 : l ≤ a) (h2 : a ≤ h) : m_is_number_within a l h = some true := by
  rw [within_ok, decide_eq_true h1, decide_eq_true h2]; rfl
theorem offs_fold : ∀ (xs : List Int) (lo : Int), xs.Pairwise (· < ·) → (∀ x ∈ xs, lo ≤ x ∧ x ≤ 99) → ∃ s, foldR (fun (s2 : (Int)) (x1 : Int) => (m_is_number_within x1 s2 (99 : Int)).bind fun r4 => if (!r4) = true then (some (.inr false)) else (some (.inl (x1 + (1 : Int))))) xs lo = some (.inl s : Int ⊕ Bool)
  | [], lo, _, _ => ⟨lo, rfl⟩
  | x :: xs, lo, hp, hb => by
    have h1 := hb x (List.mem_cons_self ..)
    have hp' := List.pairwise_cons.mp hp
    obtain ⟨s, e⟩ := offs_fold xs (x + 1) hp'.2 fun y hy => ⟨hp'.1 y hy, (hb y (List.mem_cons_of_mem _ hy)).2⟩
    refine ⟨s, ?_⟩
    unfold foldR
    rw [within_yes h1.1 h1.2]
    exact e
theorem offsets_yes {os : List Int} (h : VO os) : m_are_offsets os = some true := by
  obtain ⟨h1, h2, h3, h4⟩ := h
  unfold m_are_offsets
  have l1 : (1 : Int) ≤ (os.length : Int) := by
    cases os with
    | nil => exact absurd rfl h1
    | cons a b => simp; omega
  have l2 : (os.length : Int) ≤ 4 := by omega
  rw [decide_eq_true l1, decide_eq_true l2]
  obtain ⟨s, e⟩ := offs_fold os 0 h3 h4
  rw [if_neg (by decide), e]
  rfl
theorem call_yes {n : Int} {c : Call} (h : VC n c) : m_is_call c n = some true := by
  have := h.lo; have := h.lt; have := h.hi; have := h.le; have := h.lm; have := h.mo
  unfold m_is_call
  rw [if_neg (by decide), within_yes (by omega) (by omega), Option.bind_some, if_pos rfl, within_yes (by omega) (by omega), Option.bind_some, if_pos rfl, offsets_yes h.os, Option.bind_some, if_pos rfl, within_yes (by omega) (by omega), Option.bind_some, if_pos rfl, within_yes (by omega) (by omega)]
  rfl
theorem mem_enum {α : Type} {xs : List α} {p : Int × α} : p ∈ enumT xs ↔ ∃ j : Nat, xs[j]? = some p.2 ∧ p.1 = (j : Int) := by
  unfold enumT
  rw [List.mem_mapIdx]
  constructor
  · rintro ⟨i, hi, e⟩
    exact ⟨i, by rw [← e]; exact List.getElem?_eq_getElem hi, by rw [← e]⟩
  · rintro ⟨j, h1, h2⟩
    obtain ⟨hj, e⟩ := List.getElem?_eq_some_iff.mp h1
    exact ⟨j, hj, by rw [e, ← h2]⟩
theorem enum_len {α : Type} {xs : List α} : (enumT xs).length = xs.length := by unfold enumT; simp
theorem fold_unit {α : Type} {f : Unit → α → Option Unit} : ∀ (xs : List α), (∀ x ∈ xs, f () x = some ()) → xs.foldlM f () = some ()
  | [], _ => rfl
  | x :: xs, h => by
    rw [List.foldlM_cons, h x (List.mem_cons_self ..)]
    exact fold_unit xs fun y hy => h y (List.mem_cons_of_mem _ hy)
theorem check_ok {s : Int × List Call} (h : VS s) : m_check_system s = some () := by
  have := h.n1; have := h.n8; have := h.few
  unfold m_check_system
  rw [if_neg (by decide), within_yes h.n1 h.n8, Option.bind_some, if_neg (by decide), if_neg (by decide)]
  rw [fold_unit (enumT s.2) (fun p hp => by
    obtain ⟨j, h1, h2⟩ := mem_enum.mp hp
    obtain ⟨hj, _⟩ := List.getElem?_eq_some_iff.mp h1
    have hc : ¬ (20 : Int) ≤ p.1 := by omega
    rw [decide_eq_false hc, if_neg (by decide), call_yes (h.cs _ (List.mem_of_getElem? h1))]
    rfl)]
  rfl
/-! ### who is reached -/
theorem compL_if {α β : Type} (c : α → Bool) (g : α → β) : ∀ xs : List α, compL (fun x => if c x = true then some (some (g x)) else some none) xs = some (xs.filterMap fun x => if c x = true then some (g x) else none)
  | [] => rfl
  | x :: xs => by
    unfold compL
    rw [compL_if c g xs, List.filterMap_cons]
    cases c x <;> rfl
theorem compO_if {α β : Type} (c : α → Bool) (g : α → β) (xs : List α) (h : xs.length ≤ 100000) : compO (fun x => if c x = true then some (some (g x)) else some none) xs = some (xs.filterMap fun x => if c x = true then some (g x) else none) := by
  unfold compO
  rw [if_pos h]
  exact compL_if c g xs
def idx (cs : List Call) (rs : List Int) (t : Int) : List Int := (enumT cs).filterMap fun x1 => if ((decide (x1.2.1 ∈ rs)) && (decide (x1.2.2.1 = t))) = true then some x1.1 else none
theorem calls_ok {cs : List Call} {rs : List Int} {t : Int} (h : cs.length ≤ 20) : m_calls_to cs rs t = some (idx cs rs t) := by
  unfold m_calls_to
  rw [compO_if (fun x1 : Int × Call => ((decide (x1.2.1 ∈ rs)) && (decide (x1.2.2.1 = t)))) (fun x1 => x1.1) (enumT cs) (by rw [enum_len]; omega)]
  rfl
theorem mem_idx {cs : List Call} {rs : List Int} {t i : Int} : i ∈ idx cs rs t ↔ ∃ (j : Nat) (c : Call), i = (j : Int) ∧ cs[j]? = some c ∧ c.1 ∈ rs ∧ c.2.1 = t := by
  unfold idx
  rw [List.mem_filterMap]
  constructor
  · rintro ⟨p, hp, e⟩
    obtain ⟨j, h1, h2⟩ := mem_enum.mp hp
    by_cases c : ((decide (p.2.1 ∈ rs)) && (decide (p.2.2.1 = t))) = true
    · rw [if_pos c] at e
      have c' := Bool.and_eq_true_iff.mp c
      exact ⟨j, p.2, by rw [← Option.some.inj e, h2], h1, of_decide_eq_true c'.1, of_decide_eq_true c'.2⟩
    · rw [if_neg c] at e; cases e
  · rintro ⟨j, c, h1, h2, h3, h4⟩
    refine ⟨((j : Int), c), mem_enum.mpr ⟨j, h2, rfl⟩, ?_⟩
    rw [if_pos (by rw [decide_eq_true h3, decide_eq_true h4]; rfl), h1]
theorem idx_len {cs : List Call} {rs : List Int} {t : Int} (h : cs.length ≤ 20) : (idx cs rs t).length ≤ 20 := by
  unfold idx
  exact Nat.le_trans (List.length_filterMap_le _ _) (by rw [enum_len]; exact h)
def F (cs : List Call) (rs : List Int) (t : Int) : List Int := if (!List.isEmpty (idx cs rs t)) = true then rs ++ [t] else rs
theorem F_len {cs : List Call} {rs : List Int} {t : Int} : (F cs rs t).length ≤ rs.length + 1 := by
  unfold F; split <;> simp
theorem rng_succ {lo : Int} {n : Nat} : rng lo (n + 1) = lo :: rng (lo + 1) n := by
  unfold rng
  rw [List.range_succ_eq_map, List.map_cons, List.map_map]
  congr 1
  · simp
  · apply List.map_congr_left
    intro i _
    show lo + ((i + 1 : Nat) : Int) = lo + 1 + (i : Int)
    omega
theorem reach_fold {cs : List Call} (h : cs.length ≤ 20) : ∀ (xs rs : List Int), rs.length + xs.length ≤ 100 → xs.foldlM (fun (s4 : ((List Int))) (x3 : Int) => (m_calls_to cs s4 x3).bind fun r6 => if (!List.isEmpty r6) = true then ((okL (List.length s4)).bind fun x7 => some (s4 ++ [x3])) else (some s4)) rs = some (xs.foldl (F cs) rs)
  | [], rs, _ => rfl
  | x :: xs, rs, hl => by
    rw [List.foldlM_cons, calls_ok h, Option.bind_some, okL_small (by simp at hl; omega)]
    have ih := reach_fold h xs (F cs rs x) (by have := F_len (cs := cs) (rs := rs) (t := x); simp at hl ⊢; omega)
    rw [List.foldl_cons]
    by_cases c : (!List.isEmpty (idx cs rs x)) = true
    · have e2 : F cs rs x = rs ++ [x] := by unfold F; rw [if_pos c]
      rw [e2] at ih ⊢
      rw [if_pos c]
      exact ih
    · have e2 : F cs rs x = rs := by unfold F; rw [if_neg c]
      rw [e2] at ih ⊢
      rw [if_neg c]
      exact ih
def RS (s : Int × List Call) : List Int := (rng 1 (s.1 - 1).toNat).foldl (F s.2) [0]
theorem reach_ok {s : Int × List Call} (h : VS s) : m_reachable_services s = some (RS s) := by
  have := h.n1; have := h.n8
  unfold m_reachable_services
  rw [check_ok h, Option.bind_some, rngO_small (by decide) (by decide) (by omega) (by omega), Option.bind_some, reach_fold h.few _ _ (by rw [rng_len]; simp; omega)]
  rfl
theorem isE {α : Type} {xs : List α} : (!List.isEmpty xs) = true ↔ ∃ x, x ∈ xs := by
  cases xs with
  | nil => simp
  | cons a b => simp
structure RI (cs : List Call) (t : Int) (rs : List Int) : Prop where
  up : rs.Pairwise (· < ·)
  z : 0 ∈ rs
  bd : ∀ x ∈ rs, 0 ≤ x ∧ x < t
  fed : ∀ x ∈ rs, x ≠ 0 → ∃ (j : Nat) (c : Call), cs[j]? = some c ∧ c.1 ∈ rs ∧ c.2.1 = x
theorem RI.step {cs : List Call} {t : Int} {rs : List Int} (h : RI cs t rs) (ht : 0 ≤ t) : RI cs (t + 1) (F cs rs t) := by
  unfold F
  by_cases c : (!List.isEmpty (idx cs rs t)) = true
  · rw [if_pos c]
    refine ⟨?_, List.mem_append_left _ h.z, fun x hx => ?_, fun x hx h0 => ?_⟩
    · rw [List.pairwise_append]
      exact ⟨h.up, List.pairwise_singleton .., fun a ha b hb => by rw [List.mem_singleton.mp hb]; exact (h.bd a ha).2⟩
    · rcases List.mem_append.mp hx with z | z
      · have := h.bd x z; omega
      · rw [List.mem_singleton.mp z]; omega
    · rcases List.mem_append.mp hx with z | z
      · obtain ⟨j, c, h1, h2, h3⟩ := h.fed x z h0
        exact ⟨j, c, h1, List.mem_append_left _ h2, h3⟩
      · obtain ⟨i, hi⟩ := isE.mp c
        obtain ⟨j, c, _, h1, h2, h3⟩ := mem_idx.mp hi
        exact ⟨j, c, h1, List.mem_append_left _ h2, by rw [h3, List.mem_singleton.mp z]⟩
  · rw [if_neg c]
    exact ⟨h.up, h.z, fun x hx => by have := h.bd x hx; omega, h.fed⟩
theorem RI.fold {cs : List Call} : ∀ (n : Nat) (t : Int) (rs : List Int), RI cs t rs → 0 ≤ t → RI cs (t + n) ((rng t n).foldl (F cs) rs)
  | 0, t, rs, h, _ => by
    have : rng t 0 = [] := rfl
    rw [this]
    simpa using h
  | n + 1, t, rs, h, ht => by
    rw [rng_succ, List.foldl_cons]
    have := RI.fold n (t + 1) (F cs rs t) (h.step ht) (by omega)
    rw [show t + ((n + 1 : Nat) : Int) = t + 1 + (n : Int) by omega]
    exact this
theorem RS_ok {s : Int × List Call} (h : VS s) : RI s.2 s.1 (RS s) := by
  have := h.n1
  have := RI.fold (cs := s.2) (s.1 - 1).toNat 1 [0] ⟨List.pairwise_singleton .., List.mem_singleton.mpr rfl, fun x hx => by rw [List.mem_singleton.mp hx]; omega, fun x hx h0 => absurd (List.mem_singleton.mp hx) h0⟩ (by decide)
  rw [show (1 : Int) + ((s.1 - 1).toNat : Int) = s.1 by omega] at this
  exact this
theorem up_len : ∀ (xs : List Int) (n : Nat), xs.Pairwise (· < ·) → (∀ x ∈ xs, 0 ≤ x ∧ x < (n : Int)) → xs.length ≤ n := by
  intro xs n hp hb
  have key : ∀ (xs : List Int) (lo : Int), xs.Pairwise (· < ·) → (∀ x ∈ xs, lo ≤ x ∧ x < (n : Int)) → xs ≠ [] → lo + (xs.length : Int) ≤ n := by
    intro xs
    induction xs with
    | nil => exact fun _ _ _ h => absurd rfl h
    | cons x xs ih =>
      intro lo hp hb _
      have hx := hb x (List.mem_cons_self ..)
      have hp' := List.pairwise_cons.mp hp
      cases xs with
      | nil => simp; omega
      | cons y ys =>
        have := ih (x + 1) hp'.2 (fun y hy => ⟨hp'.1 y hy, (hb y (List.mem_cons_of_mem _ hy)).2⟩) (by simp)
        simp at this ⊢
        omega
  cases xs with
  | nil => simp
  | cons x xs =>
    have := key (x :: xs) 0 hp hb (by simp)
    omega
theorem RS_len {s : Int × List Call} (h : VS s) : (RS s).length ≤ 8 := by
  have := h.n8
  exact up_len _ 8 (RS_ok h).up fun x hx => by have := (RS_ok h).bd x hx; omega
end K10
namespace K10
open PySem L2 Pw
abbrev Tab := List (List Int × (Int × Option Int))
theorem putA_len2 {κ α : Type} [DecidableEq κ] {l : List (κ × α)} {k : κ} {v : α} : (putA l k v).length ≤ l.length + 1 := putA_len
theorem getA_app {κ α : Type} [DecidableEq κ] {l : List (κ × α)} {k k' : κ} {v : α} : getA (l ++ [(k, v)]) k' = match getA l k' with | some x => some x | none => if k = k' then some v else none := by
  unfold getA
  rw [List.find?_append]
  cases h : l.find? (fun kv => decide (kv.1 = k')) with
  | some x => rfl
  | none =>
    by_cases e : k = k'
    · simp [e]
    · simp [e]
theorem getA_none {κ α : Type} [DecidableEq κ] {l : List (κ × α)} {k : κ} (h : ¬ (l.any fun kv => decide (kv.1 = k)) = true) : getA l k = none := by
  unfold getA
  rw [show l.find? (fun kv => decide (kv.1 = k)) = none by
    rw [List.find?_eq_none]
    intro x hx
    intro z
    exact h (List.any_eq_true.mpr ⟨x, hx, z⟩)]
  rfl
theorem getA_rep {κ α : Type} [DecidableEq κ] {k : κ} {v : α} : ∀ l : List (κ × α), ((l.any fun kv => decide (kv.1 = k)) = true → getA (l.map fun z => if z.1 = k then (z.1, v) else z) k = some v) ∧ ∀ k', k' ≠ k → getA (l.map fun z => if z.1 = k then (z.1, v) else z) k' = getA l k'
  | [] => ⟨fun h => by simp at h, fun _ _ => rfl⟩
  | a :: l => by
    have ih := getA_rep (k := k) (v := v) l
    unfold getA at ih ⊢
    by_cases e : a.1 = k
    · refine ⟨fun _ => ?_, fun k' h => ?_⟩
      · rw [List.map_cons, if_pos e, List.find?_cons]
        rw [show decide ((a.1, v).1 = k) = true from decide_eq_true e]
        rfl
      · have e1 : ¬ a.1 = k' := fun z => h (by rw [← z, e])
        rw [List.map_cons, if_pos e, List.find?_cons, List.find?_cons, decide_eq_false e1]
        exact ih.2 k' h
    · refine ⟨fun h => ?_, fun k' h => ?_⟩
      · rw [List.map_cons, if_neg e, List.find?_cons, decide_eq_false e]
        exact ih.1 (by rw [List.any_cons, decide_eq_false e] at h; exact h)
      · rw [List.map_cons, if_neg e, List.find?_cons, List.find?_cons]
        cases decide (a.1 = k') with
        | true => rfl
        | false => exact ih.2 k' h
theorem get_put {κ α : Type} [DecidableEq κ] {l : List (κ × α)} {k : κ} {v : α} : getA (putA l k v) k = some v := by
  unfold putA
  by_cases h : (l.any fun kv => decide (kv.1 = k)) = true
  · rw [if_pos h]; exact (getA_rep l).1 h
  · rw [if_neg h, getA_app, getA_none h]; simp
theorem get_put_ne {κ α : Type} [DecidableEq κ] {l : List (κ × α)} {k k' : κ} {v : α} (e : k' ≠ k) : getA (putA l k v) k' = getA l k' := by
  unfold putA
  by_cases h : (l.any fun kv => decide (kv.1 = k)) = true
  · rw [if_pos h]; exact (getA_rep l).2 k' e
  · rw [if_neg h, getA_app]
    cases getA l k' with
    | some x => rfl
    | none => simp [Ne.symm e]
theorem compL_all {α β : Type} {f : α → Option (Option β)} {B : α → β → Prop} : ∀ xs : List α, (∀ x ∈ xs, ∃ b, f x = some (some b) ∧ B x b) → ∃ ys, compL f xs = some ys ∧ ys.length = xs.length ∧ (∀ y ∈ ys, ∃ x ∈ xs, B x y) ∧ ∀ x ∈ xs, ∃ y ∈ ys, B x y
  | [], _ => ⟨[], rfl, rfl, (fun y hy => by cases hy), fun y hy => by cases hy⟩
  | x :: xs, h => by
    obtain ⟨b, e, hb⟩ := h x (List.mem_cons_self ..)
    obtain ⟨ys, e2, l2, h2, h3⟩ := compL_all xs fun y hy => h y (List.mem_cons_of_mem _ hy)
    refine ⟨b :: ys, ?_, by simp [l2], fun y hy => ?_, fun z hz => ?_⟩
    · unfold compL
      rw [e, Option.bind_some, e2]
      rfl
    · cases hy with
      | head => exact ⟨x, List.mem_cons_self .., hb⟩
      | tail _ z =>
        obtain ⟨x', h3, h4⟩ := h2 y z
        exact ⟨x', List.mem_cons_of_mem _ h3, h4⟩
    · cases hz with
      | head => exact ⟨b, List.mem_cons_self .., hb⟩
      | tail _ z' =>
        obtain ⟨y', g3, g4⟩ := h3 z z'
        exact ⟨y', List.mem_cons_of_mem _ g3, g4⟩
theorem compO_all {α β : Type} {f : α → Option (Option β)} {B : α → β → Prop} (xs : List α) (hl : xs.length ≤ 100000) (h : ∀ x ∈ xs, ∃ b, f x = some (some b) ∧ B x b) : ∃ ys, compO f xs = some ys ∧ ys.length = xs.length ∧ (∀ y ∈ ys, ∃ x ∈ xs, B x y) ∧ ∀ x ∈ xs, ∃ y ∈ ys, B x y := by
  unfold compO
  rw [if_pos hl]
  exact compL_all xs h
theorem maxT_mem {α : Type} (key : α → List Int) : ∀ (r : List α) (x : α), maxT key x r ∈ x :: r
  | [], x => List.mem_cons_self ..
  | y :: r, x => by
    unfold maxT
    rw [List.foldl_cons]
    have := maxT_mem key r (if lexI (key x) (key y) = true then y else x)
    unfold maxT at this
    cases List.mem_cons.mp this with
    | inl z =>
      rw [z]
      split
      · simp
      · simp
    | inr z => exact List.mem_cons_of_mem _ (List.mem_cons_of_mem _ z)
theorem maxO_mem {α : Type} (key : α → List Int) {xs : List α} (h : 0 < xs.length) : ∃ m, maxO key xs = some m ∧ m ∈ xs := by
  cases xs with
  | nil => cases h
  | cons x r => exact ⟨_, rfl, maxT_mem key r x⟩
theorem lex_le {a b c d : Int} (h : lexI [a, b] [c, d] = true) : a ≤ c := by
  unfold lexI at h
  by_cases q : a = c
  · omega
  · rw [if_neg q] at h
    have := of_decide_eq_true h
    omega
theorem lex_ge {a b c d : Int} (h : ¬ lexI [a, b] [c, d] = true) : c ≤ a := by
  unfold lexI at h
  by_cases q : a = c
  · omega
  · rw [if_neg q] at h
    have : ¬ a < c := fun z => h (decide_eq_true z)
    omega
theorem maxT_ge {α : Type} {f g : α → Int} : ∀ (r : List α) (x : α), ∀ y ∈ x :: r, f y ≤ f (maxT (fun k => [f k, g k]) x r)
  | [], x, y, hy => by
    rw [List.mem_singleton.mp hy]; exact Int.le_refl _
  | z :: r, x, y, hy => by
    unfold maxT
    rw [List.foldl_cons]
    have ih := maxT_ge (f := f) (g := g) r (if lexI [f x, g x] [f z, g z] = true then z else x)
    unfold maxT at ih
    have h0 := ih _ (List.mem_cons_self ..)
    rcases List.mem_cons.mp hy with e | e
    · rw [e]
      refine Int.le_trans ?_ h0
      split
      · rename_i q; exact lex_le q
      · exact Int.le_refl _
    · rcases List.mem_cons.mp e with e | e
      · rw [e]
        refine Int.le_trans ?_ h0
        split
        · exact Int.le_refl _
        · rename_i q; exact lex_ge q
      · exact ih y (List.mem_cons_of_mem _ e)
theorem maxO_ge {α : Type} {f g : α → Int} {xs : List α} {m : α} (h : maxO (fun k => [f k, g k]) xs = some m) : ∀ y ∈ xs, f y ≤ f m := by
  cases xs with
  | nil => cases h
  | cons x r =>
    have h : some (maxT (fun k => [f k, g k]) x r) = some m := h
    cases h
    exact maxT_ge r x
def late (c : Call) : Int := (atI c.2.2.1 ((c.2.2.1.length : Int) - 1)).getD 0 + c.2.2.2.2
def early (c : Call) : Int := (atI c.2.2.1 0).getD 0 + c.2.2.2.1
theorem late_ok {n : Int} {c : Call} (h : VC n c) : ∃ o, atI c.2.2.1 ((c.2.2.1.length : Int) - 1) = some o ∧ 0 ≤ o ∧ o ≤ 99 ∧ late c = o + c.2.2.2.2 ∧ m_longest_way c = some (late c) := by
  obtain ⟨h1, h2, h3, h4⟩ := h.os
  have hl : 0 < c.2.2.1.length := List.length_pos_iff.mpr h1
  have hj : c.2.2.1[c.2.2.1.length - 1]? = some c.2.2.1[c.2.2.1.length - 1] := List.getElem?_eq_getElem (by omega)
  have e1 : atI c.2.2.1 ((c.2.2.1.length : Int) - 1) = some c.2.2.1[c.2.2.1.length - 1] := by
    rw [show (c.2.2.1.length : Int) - 1 = ((c.2.2.1.length - 1 : Nat) : Int) by omega]
    exact atI_nat hj
  have e2 : atI c.2.2.1 (-(1 : Int)) = some c.2.2.1[c.2.2.1.length - 1] := by
    have e3 : ixN c.2.2.1.length (-(1 : Int)) = some (c.2.2.1.length - 1) := by
      unfold ixN
      rw [if_neg (by omega), if_pos (by omega)]
      congr 1
      omega
    unfold atI
    rw [e3]
    exact hj
  have hb := h4 _ (List.mem_of_getElem? hj)
  refine ⟨_, e1, hb.1, hb.2, ?_, ?_⟩
  · unfold late; rw [e1]; rfl
  · unfold m_longest_way late
    rw [e2, e1]; rfl
theorem early_ok {n : Int} {c : Call} (h : VC n c) : ∃ o, atI c.2.2.1 0 = some o ∧ 0 ≤ o ∧ o ≤ 99 ∧ early c = o + c.2.2.2.1 ∧ m_shortest_way c = some (early c) := by
  obtain ⟨h1, h2, h3, h4⟩ := h.os
  have hl : 0 < c.2.2.1.length := List.length_pos_iff.mpr h1
  have hj : c.2.2.1[0]? = some c.2.2.1[0] := List.getElem?_eq_getElem hl
  have e1 : atI c.2.2.1 0 = some c.2.2.1[0] := atI_nat (j := 0) hj
  have hb := h4 _ (List.mem_of_getElem? hj)
  refine ⟨_, e1, hb.1, hb.2, ?_, ?_⟩
  · unfold early; rw [e1]; rfl
  · unfold m_shortest_way early
    rw [e1]; rfl
/-- an entry of the table, the message that it is made by, and that no other is better -/
structure Best (cs : List Call) (rs : List Int) (P : Int → Prop) (T : Tab) (a b : Int) : Prop where
  eq : a = b → getA T [a, b] = some (0, none)
  ne : a ≠ b → ∃ (v : Int) (j : Nat) (c : Call), getA T [a, b] = some (v, some (j : Int)) ∧ cs[j]? = some c ∧ P c.1 ∧ c.2.1 = max a b ∧
    (b < a → ∃ w k, getA T [c.1, b] = some (w, k) ∧ v = w + late c) ∧ (a < b → ∃ w k, getA T [a, c.1] = some (w, k) ∧ v = w - early c) ∧
    ∀ c' ∈ cs, c'.1 ∈ rs → c'.2.1 = max a b → (b < a → ∃ w k, getA T [c'.1, b] = some (w, k) ∧ w + late c' ≤ v) ∧ (a < b → ∃ w k, getA T [a, c'.1] = some (w, k) ∧ w - early c' ≤ v)
theorem Best.some {cs : List Call} {rs : List Int} {P : Int → Prop} {T : Tab} {a b : Int} (h : Best cs rs P T a b) : ∃ x, getA T [a, b] = some x := by
  by_cases e : a = b
  · exact ⟨_, h.eq e⟩
  · obtain ⟨v, j, c, h1, _⟩ := h.ne e
    exact ⟨_, h1⟩
theorem Best.keep {n : Int} {cs : List Call} {rs : List Int} {P P' : Int → Prop} {T T' : Tab} {a b : Int} (hv : ∀ c ∈ cs, VC n c) (h : Best cs rs P T a b) (hP : ∀ x, P x → P' x) (hr : ∀ x ∈ rs, x < max a b → P x) (h0 : getA T' [a, b] = getA T [a, b]) (h1 : b < a → ∀ x, P x → getA T' [x, b] = getA T [x, b]) (h2 : a < b → ∀ x, P x → getA T' [a, x] = getA T [a, x]) : Best cs rs P' T' a b := by
  refine ⟨fun e => by rw [h0]; exact h.eq e, fun e => ?_⟩
  obtain ⟨v, j, c, g1, g2, g3, g4, g5, g6, g7⟩ := h.ne e
  refine ⟨v, j, c, by rw [h0]; exact g1, g2, hP _ g3, g4, fun z => ?_, fun z => ?_, fun c' hc hc1 hc2 => ?_⟩
  · rw [h1 z _ g3]; exact g5 z
  · rw [h2 z _ g3]; exact g6 z
  · have hx : P c'.1 := hr _ hc1 (by have := (hv c' hc).lt; omega)
    obtain ⟨q1, q2⟩ := g7 c' hc hc1 hc2
    exact ⟨fun z => by rw [h1 z _ hx]; exact q1 z, fun z => by rw [h2 z _ hx]; exact q2 z⟩
theorem key_ne {a b c d : Int} (h : a ≠ c ∨ b ≠ d) : ([a, b] : List Int) ≠ [c, d] := fun e => by
  injection e with e1 e2
  injection e2 with e2 _
  rcases h with z | z
  · exact z e1
  · exact z e2
theorem idx_call {n : Int} {cs : List Call} {rs : List Int} {t i : Int} (h : i ∈ idx cs rs t) (hv : ∀ c ∈ cs, VC n c) : ∃ (j : Nat) (c : Call), i = (j : Int) ∧ cs[j]? = some c ∧ atI cs i = some c ∧ c.1 ∈ rs ∧ c.2.1 = t ∧ VC n c := by
  obtain ⟨j, c, h1, h2, h3, h4⟩ := mem_idx.mp h
  exact ⟨j, c, h1, h2, by rw [h1]; exact atI_nat h2, h3, h4, hv c (List.mem_of_getElem? h2)⟩
section
variable {n : Int} {cs : List Call} {rs : List Int} {s : Int} {T : Tab} {P : Int → Prop}
theorem late_ch (hv : ∀ c ∈ cs, VC n c) (hf : cs.length ≤ 20) {o : Int} (hP : ∀ x ∈ rs, x < s → P x) (hG : ∀ x, P x → ∃ y, getA T [x, o] = some y) : ∃ ys, m_late_choices cs (idx cs rs s) T o = some ys ∧ ys.length = (idx cs rs s).length ∧ (∀ y ∈ ys, ∃ (j : Nat) (c : Call) (w : Int) (k : Option Int), y.2 = (j : Int) ∧ cs[j]? = some c ∧ P c.1 ∧ c.2.1 = s ∧ getA T [c.1, o] = some (w, k) ∧ y.1 = w + late c) ∧ ∀ (j : Nat) (c : Call), cs[j]? = some c → c.1 ∈ rs → c.2.1 = s → ∃ y ∈ ys, ∃ w k, getA T [c.1, o] = some (w, k) ∧ y.1 = w + late c := by
  obtain ⟨ys, e, l, h, hb⟩ := compO_all (f := fun (x1 : Int) => (atI cs x1).bind fun x2 => (getA T [x2.1, o]).bind fun x3 => (atI cs x1).bind fun x4 => (m_longest_way x4).bind fun r5 => some (some ((x3.1 + r5), x1)))
    (B := fun x (y : Int × Int) => ∃ (j : Nat) (c : Call) (w : Int) (k : Option Int), x = (j : Int) ∧ y.2 = (j : Int) ∧ cs[j]? = some c ∧ P c.1 ∧ c.2.1 = s ∧ getA T [c.1, o] = some (w, k) ∧ y.1 = w + late c) (idx cs rs s) (by have := idx_len (cs := cs) (rs := rs) (t := s) hf; omega) (fun i hi => by
    obtain ⟨j, c, h1, h2, h3, h4, h5, h6⟩ := idx_call hi hv
    have hc := hP c.1 h4 (by have := h6.lt; omega)
    obtain ⟨x, hx⟩ := hG _ hc
    obtain ⟨_, _, _, _, _, hw⟩ := late_ok h6
    refine ⟨(x.1 + late c, i), ?_, j, c, x.1, x.2, h1, h1, h2, hc, h5, hx, rfl⟩
    rw [h3, Option.bind_some, hx, Option.bind_some, Option.bind_some, hw]
    rfl)
  refine ⟨ys, ?_, l, fun y hy => ?_, fun j c hj h1 h2 => ?_⟩
  · unfold m_late_choices; rw [e]; rfl
  · obtain ⟨_, _, j, c, w, k, _, z⟩ := h y hy; exact ⟨j, c, w, k, z⟩
  · obtain ⟨y, hy, j', c', w, k, z1, z2, z3, z4, z5, z6, z7⟩ := hb _ (mem_idx.mpr ⟨j, c, rfl, hj, h1, h2⟩)
    have : j = j' := by omega
    subst this
    rw [hj] at z3; cases z3
    exact ⟨y, hy, w, k, z6, z7⟩
theorem early_ch (hv : ∀ c ∈ cs, VC n c) (hf : cs.length ≤ 20) {o : Int} (hP : ∀ x ∈ rs, x < s → P x) (hG : ∀ x, P x → ∃ y, getA T [o, x] = some y) : ∃ ys, m_early_choices cs (idx cs rs s) T o = some ys ∧ ys.length = (idx cs rs s).length ∧ (∀ y ∈ ys, ∃ (j : Nat) (c : Call) (w : Int) (k : Option Int), y.2 = (j : Int) ∧ cs[j]? = some c ∧ P c.1 ∧ c.2.1 = s ∧ getA T [o, c.1] = some (w, k) ∧ y.1 = w - early c) ∧ ∀ (j : Nat) (c : Call), cs[j]? = some c → c.1 ∈ rs → c.2.1 = s → ∃ y ∈ ys, ∃ w k, getA T [o, c.1] = some (w, k) ∧ y.1 = w - early c := by
  obtain ⟨ys, e, l, h, hb⟩ := compO_all (f := fun (x1 : Int) => (atI cs x1).bind fun x2 => (getA T [o, x2.1]).bind fun x3 => (atI cs x1).bind fun x4 => (m_shortest_way x4).bind fun r5 => some (some ((x3.1 - r5), x1)))
    (B := fun x (y : Int × Int) => ∃ (j : Nat) (c : Call) (w : Int) (k : Option Int), x = (j : Int) ∧ y.2 = (j : Int) ∧ cs[j]? = some c ∧ P c.1 ∧ c.2.1 = s ∧ getA T [o, c.1] = some (w, k) ∧ y.1 = w - early c) (idx cs rs s) (by have := idx_len (cs := cs) (rs := rs) (t := s) hf; omega) (fun i hi => by
    obtain ⟨j, c, h1, h2, h3, h4, h5, h6⟩ := idx_call hi hv
    have hc := hP c.1 h4 (by have := h6.lt; omega)
    obtain ⟨x, hx⟩ := hG _ hc
    obtain ⟨_, _, _, _, _, hw⟩ := early_ok h6
    refine ⟨(x.1 - early c, i), ?_, j, c, x.1, x.2, h1, h1, h2, hc, h5, hx, rfl⟩
    rw [h3, Option.bind_some, hx, Option.bind_some, Option.bind_some, hw]
    rfl)
  refine ⟨ys, ?_, l, fun y hy => ?_, fun j c hj h1 h2 => ?_⟩
  · unfold m_early_choices; rw [e]; rfl
  · obtain ⟨_, _, j, c, w, k, _, z⟩ := h y hy; exact ⟨j, c, w, k, z⟩
  · obtain ⟨y, hy, j', c', w, k, z1, z2, z3, z4, z5, z6, z7⟩ := hb _ (mem_idx.mpr ⟨j, c, rfl, hj, h1, h2⟩)
    have : j = j' := by omega
    subst this
    rw [hj] at z3; cases z3
    exact ⟨y, hy, w, k, z6, z7⟩
/-- what holds while the entries of s are made: those with Dn are there -/
structure In1 (cs : List Call) (rs : List Int) (P : Int → Prop) (s : Int) (Dn : Int → Prop) (T : Tab) : Prop where
  old : ∀ a b, P a → P b → Best cs rs P T a b
  new : ∀ o, Dn o → Best cs rs P T s o ∧ Best cs rs P T o s
theorem inner_one (hv : ∀ c ∈ cs, VC n c) (hf : cs.length ≤ 20) (hPr : ∀ x, x ∈ rs → x < s → P x) (hPd : ∀ y, P y → ∀ x, x ∈ rs → x < y → P x) (hPs : ∀ x, P x → x < s) {Dn : Int → Prop} (hne : 0 < (idx cs rs s).length) (hD : ∀ x, Dn x → P x) {o : Int} (ho : P o) (h : In1 cs rs P s Dn T) (hl : T.length < 90000) :
    ∃ T', ((m_late_choices cs (idx cs rs s) T o).bind fun r9 => (maxO (fun (k10 : (Int × Int)) => [k10.1, k10.2]) r9).bind fun x11 => (okL (List.length T)).bind fun x12 => (m_early_choices cs (idx cs rs s) (putA T [s, o] (x11.1, (some x11.2))) o).bind fun r13 => (maxO (fun (k14 : (Int × Int)) => [k14.1, k14.2]) r13).bind fun x15 => (okL (List.length (putA T [s, o] (x11.1, (some x11.2))))).bind fun x16 => some (putA (putA T [s, o] (x11.1, (some x11.2))) [o, s] (x15.1, (some x15.2)))) = some T'
      ∧ T'.length ≤ T.length + 2 ∧ In1 cs rs P s (fun x => x = o ∨ Dn x) T' := by
  have hos := hPs o ho
  have hmx : ∀ a b, P a → P b → ∀ x ∈ rs, x < max a b → P x := fun a b ha hb x hx hlt => by
    by_cases q : x < a
    · exact hPd a ha x hx q
    · exact hPd b hb x hx (by omega)
  obtain ⟨ys, e1, l1, m1, c1⟩ := late_ch (T := T) (o := o) (rs := rs) (s := s) hv hf hPr fun x hx => (h.old x o hx ho).some
  obtain ⟨x, e2, hx⟩ := maxO_mem (fun (k10 : (Int × Int)) => [k10.1, k10.2]) (xs := ys) (by omega)
  have x2 := maxO_ge (f := fun (k : Int × Int) => k.1) (g := fun (k : Int × Int) => k.2) e2
  obtain ⟨j, c, w, k, g1, g2, g3, g4, g5, g6⟩ := m1 x hx
  have t1 : ∀ a b, P a → P b → getA (putA T [s, o] (x.1, some x.2)) [a, b] = getA T [a, b] := fun a b ha hb => get_put_ne (key_ne (.inl (by have := hPs a ha; omega)))
  obtain ⟨zs, e3, l3, m3, c3⟩ := early_ch (T := putA T [s, o] (x.1, some x.2)) (o := o) (rs := rs) (s := s) (P := P) hv hf hPr fun z hz => by rw [t1 o z ho hz]; exact (h.old o z ho hz).some
  obtain ⟨y, e4, hy⟩ := maxO_mem (fun (k14 : (Int × Int)) => [k14.1, k14.2]) (xs := zs) (by omega)
  have y2 := maxO_ge (f := fun (k : Int × Int) => k.1) (g := fun (k : Int × Int) => k.2) e4
  obtain ⟨j', c', w', k', f1, f2, f3, f4, f5, f6⟩ := m3 y hy
  have q1 := putA_len2 (l := T) (k := [s, o]) (v := (x.1, some x.2))
  have q2 := putA_len2 (l := putA T [s, o] (x.1, some x.2)) (k := [o, s]) (v := (y.1, some y.2))
  have t2 : ∀ a b, P a → P b → getA (putA (putA T [s, o] (x.1, some x.2)) [o, s] (y.1, some y.2)) [a, b] = getA T [a, b] := fun a b ha hb => by
    rw [get_put_ne (key_ne (.inr (by have := hPs b hb; omega)))]; exact t1 a b ha hb
  refine ⟨putA (putA T [s, o] (x.1, some x.2)) [o, s] (y.1, some y.2), ?_, by omega, ?_, ?_⟩
  · rw [e1, Option.bind_some, e2, Option.bind_some, okL_small (by omega), Option.bind_some, e3, Option.bind_some, e4, Option.bind_some, okL_small (by omega)]
    rfl
  · intro a b ha hb
    exact (h.old a b ha hb).keep hv (fun _ z => z) (hmx a b ha hb) (t2 a b ha hb) (fun _ z hz => t2 z b hz hb) (fun _ z hz => t2 a z ha hz)
  · intro q hq
    by_cases e : q = o
    · subst e
      have low : ∀ c' ∈ cs, c'.1 ∈ rs → c'.2.1 = s → P c'.1 := fun c' hc h1 h2 => hPr _ h1 (by have := (hv c' hc).lt; omega)
      refine ⟨⟨fun z => by omega, fun _ => ⟨x.1, j, c, ?_, g2, g3, by rw [g4]; omega, fun _ => ⟨w, k, by rw [t2 _ _ g3 ho]; exact g5, g6⟩, fun z => by omega, fun c0 hc h1 h2 => ⟨fun _ => ?_, fun z => by omega⟩⟩⟩, ⟨fun z => by omega, fun _ => ⟨y.1, j', c', ?_, f2, f3, by rw [f4]; omega, fun z => by omega, fun _ => ⟨w', k', by rw [t2 _ _ ho f3, ← t1 _ _ ho f3]; exact f5, f6⟩, fun c0 hc h1 h2 => ⟨fun z => by omega, fun _ => ?_⟩⟩⟩⟩
      · rw [get_put_ne (key_ne (.inl (by omega))), get_put, g1]
      · have h2' : c0.2.1 = s := by omega
        obtain ⟨j0, hj0⟩ := List.getElem?_of_mem hc
        obtain ⟨y0, hy0, w0, k0, z1, z2⟩ := c1 j0 c0 hj0 h1 h2'
        exact ⟨w0, k0, by rw [t2 _ _ (low c0 hc h1 h2') ho]; exact z1, by have := x2 y0 hy0; omega⟩
      · rw [get_put, f1]
      · have h2' : c0.2.1 = s := by omega
        obtain ⟨j0, hj0⟩ := List.getElem?_of_mem hc
        obtain ⟨y0, hy0, w0, k0, z1, z2⟩ := c3 j0 c0 hj0 h1 h2'
        have hl0 := low c0 hc h1 h2'
        exact ⟨w0, k0, by rw [t2 _ _ ho hl0, ← t1 _ _ ho hl0]; exact z1, by have := y2 y0 hy0; omega⟩
    · have hq' : Dn q := hq.resolve_left e
      obtain ⟨n1, n2⟩ := h.new q hq'
      have hqs := hPs q (hD q hq')
      have u1 : getA (putA (putA T [s, o] (x.1, some x.2)) [o, s] (y.1, some y.2)) [s, q] = getA T [s, q] := by
        rw [get_put_ne (key_ne (.inl (by omega))), get_put_ne (key_ne (.inr e))]
      have u2 : getA (putA (putA T [s, o] (x.1, some x.2)) [o, s] (y.1, some y.2)) [q, s] = getA T [q, s] := by
        rw [get_put_ne (key_ne (.inl e)), get_put_ne (key_ne (.inl (by omega)))]
      exact ⟨n1.keep hv (fun _ z => z) (fun x hx hlt => hPr x hx (by omega)) u1 (fun _ z hz => t2 z q hz (hD q hq')) (fun z => by omega), n2.keep hv (fun _ z => z) (fun x hx hlt => hPr x hx (by omega)) u2 (fun z => by omega) (fun _ z hz => t2 q z (hD q hq') hz)⟩
theorem inner_ok (hv : ∀ c ∈ cs, VC n c) (hf : cs.length ≤ 20) (hPr : ∀ x, x ∈ rs → x < s → P x) (hPd : ∀ y, P y → ∀ x, x ∈ rs → x < y → P x) (hPs : ∀ x, P x → x < s) (hne : ∀ o, P o → 0 < (idx cs rs s).length) :
    ∀ (xs : List Int) (T : Tab) (Dn : Int → Prop), (∀ x ∈ xs, x ∈ rs) → (∀ x, Dn x → P x) → In1 cs rs P s Dn T → T.length + 2 * xs.length < 80000 → ∃ T', xs.foldlM (fun (s7 : ((List (List Int × (Int × (Option Int)))))) (x6 : Int) => if (decide (x6 < s)) = true then ((m_late_choices cs (idx cs rs s) s7 x6).bind fun r9 => (maxO (fun (k10 : (Int × Int)) => [k10.1, k10.2]) r9).bind fun x11 => (okL (List.length s7)).bind fun x12 => (m_early_choices cs (idx cs rs s) (putA s7 [s, x6] (x11.1, (some x11.2))) x6).bind fun r13 => (maxO (fun (k14 : (Int × Int)) => [k14.1, k14.2]) r13).bind fun x15 => (okL (List.length (putA s7 [s, x6] (x11.1, (some x11.2))))).bind fun x16 => some (putA (putA s7 [s, x6] (x11.1, (some x11.2))) [x6, s] (x15.1, (some x15.2)))) else (some s7)) T = some T'
      ∧ T'.length ≤ T.length + 2 * xs.length ∧ In1 cs rs P s (fun x => Dn x ∨ (x ∈ xs ∧ x < s)) T'
  | [], T, Dn, _, _, h, _ => ⟨T, rfl, by simp, h.old, fun o ho => h.new o (ho.resolve_right fun z => by cases z.1)⟩
  | x :: xs, T, Dn, hx, hD, h, hl => by
    rw [List.foldlM_cons]
    by_cases c : x < s
    · rw [if_pos (decide_eq_true c)]
      have px := hPr x (hx x (List.mem_cons_self ..)) c
      obtain ⟨T1, e1, l1, h1⟩ := inner_one hv hf hPr hPd hPs (hne x px) hD px h (by simp at hl; omega)
      rw [e1]
      obtain ⟨T2, e2, l2, h2⟩ := inner_ok hv hf hPr hPd hPs hne xs T1 (fun q => q = x ∨ Dn q) (fun y hy => hx y (List.mem_cons_of_mem _ hy)) (fun y hy => by rcases hy with z | z; rw [z]; exact px; exact hD y z) h1 (by simp at hl; omega)
      refine ⟨T2, e2, by simp; omega, h2.old, fun o ho => h2.new o ?_⟩
      rcases ho with z | ⟨z, z2⟩
      · exact .inl (.inr z)
      · cases z with
        | head => exact .inl (.inl rfl)
        | tail _ z => exact .inr ⟨z, z2⟩
    · rw [if_neg (by simpa using c)]
      obtain ⟨T2, e2, l2, h2⟩ := inner_ok hv hf hPr hPd hPs hne xs T Dn (fun y hy => hx y (List.mem_cons_of_mem _ hy)) hD h (by simp at hl; omega)
      refine ⟨T2, e2, by simp; omega, h2.old, fun o ho => h2.new o ?_⟩
      rcases ho with z | ⟨z, z2⟩
      · exact .inl z
      · cases z with
        | head => exact absurd z2 c
        | tail _ z => exact .inr ⟨z, z2⟩
end
theorem table_ok {s : Int × List Call} (h : VS s) : ∃ T, m_greatest_differences s = some T ∧ T.length ≤ 200 ∧ ∀ a ∈ RS s, ∀ b ∈ RS s, Best s.2 (RS s) (fun x => x ∈ RS s) T a b := by
  have R := RS_ok h
  have hl := RS_len h
  have fold : ∀ (Q P : List Int) (T : Tab), P ++ Q = RS s → (∀ a ∈ P, ∀ b ∈ P, Best s.2 (RS s) (fun x => x ∈ P) T a b) → T.length ≤ 17 * P.length → ∃ T', Q.foldlM (fun (s3 : ((List (List Int × (Int × (Option Int)))))) (x2 : Int) => (m_calls_to s.2 (RS s) x2).bind fun r5 => (List.foldlM (fun (s7 : ((List (List Int × (Int × (Option Int)))))) (x6 : Int) => if (decide (x6 < x2)) = true then ((m_late_choices s.2 r5 s7 x6).bind fun r9 => (maxO (fun (k10 : (Int × Int)) => [k10.1, k10.2]) r9).bind fun x11 => (okL (List.length s7)).bind fun x12 => (m_early_choices s.2 r5 (putA s7 [x2, x6] (x11.1, (some x11.2))) x6).bind fun r13 => (maxO (fun (k14 : (Int × Int)) => [k14.1, k14.2]) r13).bind fun x15 => (okL (List.length (putA s7 [x2, x6] (x11.1, (some x11.2))))).bind fun x16 => some (putA (putA s7 [x2, x6] (x11.1, (some x11.2))) [x6, x2] (x15.1, (some x15.2)))) else (some s7)) s3 (RS s)).bind fun y17 => (okL (List.length y17)).bind fun x18 => some (putA y17 [x2, x2] ((0 : Int), (none : (Option Int))))) T = some T'
      ∧ T'.length ≤ 200 ∧ ∀ a ∈ RS s, ∀ b ∈ RS s, Best s.2 (RS s) (fun x => x ∈ RS s) T' a b := by
    intro Q
    induction Q with
    | nil =>
      intro P T e hG hT
      rw [List.append_nil] at e
      subst e
      exact ⟨T, rfl, by omega, hG⟩
    | cons t Q ih =>
      intro P T e hG hT
      have hpl : P.length + (Q.length + 1) = (RS s).length := by rw [← e]; simp
      have hup := R.up
      rw [← e, List.pairwise_append] at hup
      have hPt : ∀ x, x ∈ P → x < t := fun x hx => hup.2.2 x hx t (List.mem_cons_self ..)
      have htQ := (List.pairwise_cons.mp hup.2.1).1
      have ht : t ∈ RS s := by rw [← e]; simp
      have hPr : ∀ x, x ∈ RS s → x < t → x ∈ P := fun x hx hlt => by
        rw [← e] at hx
        rcases List.mem_append.mp hx with z | z
        · exact z
        · cases z with
          | head => omega
          | tail _ z => have := htQ x z; omega
      have hPd : ∀ y, y ∈ P → ∀ x, x ∈ RS s → x < y → x ∈ P := fun y hy x hx hlt => hPr x hx (by have := hPt y hy; omega)
      have hmx : ∀ a b, a ∈ P → b ∈ P → ∀ x ∈ RS s, x < max a b → x ∈ P := fun a b ha hb x hx hlt => hPr x hx (by have := hPt a ha; have := hPt b hb; omega)
      have hne : ∀ o, o ∈ P → 0 < (idx s.2 (RS s) t).length := fun o ho => by
        have h0 := R.bd o (by rw [← e]; exact List.mem_append_left _ ho)
        have := hPt o ho
        obtain ⟨j, c, g1, g2, g3⟩ := R.fed t ht (by omega)
        exact List.length_pos_of_mem (mem_idx.mpr ⟨j, c, rfl, g1, g2, g3⟩)
      rw [List.foldlM_cons, calls_ok h.few, Option.bind_some]
      obtain ⟨T1, e1, l1, h1⟩ := inner_ok (n := s.1) (P := fun x => x ∈ P) h.cs h.few hPr hPd hPt hne (RS s) T (fun _ => False) (fun x hx => hx) (fun x hx => hx.elim) ⟨fun a b ha hb => hG a ha b hb, fun o ho => ho.elim⟩ (by omega)
      rw [e1, Option.bind_some, okL_small (by omega)]
      have q := putA_len2 (l := T1) (k := [t, t]) (v := ((0 : Int), (none : Option Int)))
      have new : ∀ o, o ∈ P → Best s.2 (RS s) (fun x => x ∈ P) T1 t o ∧ Best s.2 (RS s) (fun x => x ∈ P) T1 o t := fun o ho => h1.new o (.inr ⟨by rw [← e]; exact List.mem_append_left _ ho, hPt o ho⟩)
      refine ih (P ++ [t]) (putA T1 [t, t] ((0 : Int), (none : Option Int))) (by rw [← e]; simp) (fun a ha b hb => ?_) (by simp; omega)
      have hP' : ∀ x, x ∈ P → x ∈ P ++ [t] := fun x hx => List.mem_append_left _ hx
      rcases List.mem_append.mp ha with ha | ha
      · have hat := hPt a ha
        have k1 : ∀ y, getA (putA T1 [t, t] ((0 : Int), (none : Option Int))) [a, y] = getA T1 [a, y] := fun y => get_put_ne (key_ne (.inl (by omega)))
        rcases List.mem_append.mp hb with hb | hb
        · exact (h1.old a b ha hb).keep h.cs hP' (hmx a b ha hb) (k1 b) (fun _ x hx => get_put_ne (key_ne (.inl (by have := hPt x hx; omega)))) (fun _ x _ => k1 x)
        · rw [List.mem_singleton.mp hb]
          exact ((new a ha).2).keep h.cs hP' (fun x hx hlt => hPr x hx (by omega)) (k1 t) (fun z => by omega) (fun _ x _ => k1 x)
      · rw [List.mem_singleton.mp ha]
        rcases List.mem_append.mp hb with hb | hb
        · have hbt := hPt b hb
          exact ((new b hb).1).keep h.cs hP' (fun x hx hlt => hPr x hx (by omega)) (get_put_ne (key_ne (.inr (by omega)))) (fun _ x hx => get_put_ne (key_ne (.inr (by omega)))) (fun z => by omega)
        · rw [List.mem_singleton.mp hb]
          exact ⟨fun _ => get_put, fun z => absurd rfl z⟩
  obtain ⟨T, e, hT, hG⟩ := fold (RS s) [] [] rfl (fun a ha => by cases ha) (by simp)
  refine ⟨T, ?_, hT, hG⟩
  unfold m_greatest_differences
  rw [reach_ok h, Option.bind_some, e]
  rfl
end K10
namespace K10
open PySem L2 Pw
abbrev Ent := Int × Int × Int × Int × Int
theorem lex_asym : ∀ a b : List Int, lexI a b = true → lexI b a = true → False
  | [], [], h, _ => by cases h
  | [], _ :: _, _, h => by cases h
  | _ :: _, [], h, _ => by cases h
  | x :: xs, y :: ys, h, g => by
    unfold lexI at h g
    by_cases e : x = y
    · rw [if_pos e] at h
      rw [if_pos e.symm] at g
      exact lex_asym xs ys h g
    · rw [if_neg e] at h
      rw [if_neg (Ne.symm e)] at g
      have := of_decide_eq_true h
      have := of_decide_eq_true g
      omega
theorem lex_neg : ∀ c b a : List Int, lexI c a = true → lexI c b = true ∨ lexI b a = true
  | [], [], _, h => .inr h
  | [], _ :: _, _, _ => .inl rfl
  | _ :: _, _, [], h => by cases h
  | _ :: _, [], _ :: _, _ => .inr rfl
  | x :: xs, z :: zs, y :: ys, h => by
    unfold lexI at h ⊢
    by_cases e1 : x = z
    · by_cases e2 : z = y
      · rw [if_pos (e1.trans e2)] at h
        rw [if_pos e1, if_pos e2]
        exact lex_neg xs zs ys h
      · rw [if_neg (by omega)] at h
        rw [if_neg e2]
        have := of_decide_eq_true h
        exact .inr (decide_eq_true (by omega))
    · rw [if_neg e1]
      by_cases c : x < z
      · exact .inl (decide_eq_true c)
      · have hxy : x ≤ y := by
          by_cases e2 : x = y
          · omega
          · rw [if_neg e2] at h; have := of_decide_eq_true h; omega
        rw [if_neg (by omega)]
        exact .inr (decide_eq_true (by omega))
theorem le_trans' (a b c : List Int) (h1 : leI a b = true) (h2 : leI b c = true) : leI a c = true := by
  unfold leI at *
  cases h : lexI c a with
  | false => rfl
  | true =>
    rcases lex_neg c b a h with z | z
    · rw [z] at h2; cases h2
    · rw [z] at h1; cases h1
theorem le_total' (a b : List Int) : (leI a b || leI b a) = true := by
  unfold leI
  cases h : lexI b a with
  | false => rfl
  | true =>
    cases g : lexI a b with
    | false => rfl
    | true => exact (lex_asym a b g h).elim
inductive At (cs : List Call) (L : List Ent) : Int → Int → Prop
  | root : At cs L 0 0
  | step {t : Int} {j : Nat} {c : Call} {q dl o : Int} : At cs L t c.1 → ((0, 0, (j : Int), q, dl) : Ent) ∈ L → cs[j]? = some c → atI c.2.2.1 q = some o → At cs L (t + o + dl) c.2.1
structure EntOk (cs : List Call) (e : Ent) : Prop where
  ex : ∃ (j : Nat) (c : Call) (q dl o : Int), e = (0, 0, (j : Int), q, dl) ∧ cs[j]? = some c ∧ atI c.2.2.1 q = some o ∧ 0 ≤ q ∧ q < (c.2.2.1.length : Int) ∧ c.2.2.2.1 ≤ dl ∧ dl ≤ c.2.2.2.2 ∧ 0 ≤ o ∧ o ≤ 99 ∧ 0 ≤ dl
def tgt (cs : List Call) (e : Ent) : Int := ((atI cs e.2.2.1).map (·.2.1)).getD 0
theorem tgt_of {cs : List Call} {j : Nat} {c : Call} {q dl : Int} (h : cs[j]? = some c) : tgt cs (0, 0, (j : Int), q, dl) = c.2.1 := by
  unfold tgt
  rw [show atI cs ((0, 0, (j : Int), q, dl) : Ent).2.2.1 = some c from atI_nat h]
  rfl
structure Sep (cs : List Call) (rs : List Int) (T : Tab) (a b : Int) (E : List Ent) (m : Int) : Prop where
  mi : m ∈ rs
  ma : m ≤ a
  mb : m ≤ b
  ok : ∀ e ∈ E, EntOk cs e ∧ m < tgt cs e ∧ tgt cs e ≤ max a b
  up : E.Pairwise fun e e' => tgt cs e' < tgt cs e
  len : (E.length : Int) ≤ a + b - 2 * m
  path : ∀ L : List Ent, (∀ e ∈ E, e ∈ L) → ∀ t, At cs L t m → ∃ ta tb v k, At cs L ta a ∧ At cs L tb b ∧ getA T [a, b] = some (v, k) ∧ ta - tb = v
theorem sep_loop {n : Int} {cs : List Call} {rs : List Int} {T : Tab} (hv : ∀ c ∈ cs, VC n c) (hr : ∀ x ∈ rs, 0 ≤ x) (hG : ∀ a ∈ rs, ∀ b ∈ rs, Best cs rs (fun x => x ∈ rs) T a b) :
    ∀ (f : Nat) (a b : Int) (E0 : List Ent), a ∈ rs → b ∈ rs → a + b < (f : Int) → (E0.length : Int) + a + b < 1000 → ∃ E m, Sep cs rs T a b E m ∧ whileC (fun (s1 : ((List (Int × Int × Int × Int × Int)) × Int × Int)) => some (!decide (s1.2.1 = s1.2.2))) (fun (s1 : ((List (Int × Int × Int × Int × Int)) × Int × Int)) => (getA T [s1.2.1, s1.2.2]).bind fun x3 => (x3.2).bind fun x4 => (atI cs x4).bind fun x5 => if (decide (x5.2.1 = s1.2.1)) = true then ((okL (List.length s1.1)).bind fun x6 => some ((s1.1 ++ [((0 : Int), (0 : Int), x4, ((List.length x5.2.2.1 : Int) - (1 : Int)), x5.2.2.2.2)]), x5.1, s1.2.2)) else ((okL (List.length s1.1)).bind fun x7 => some ((s1.1 ++ [((0 : Int), (0 : Int), x4, (0 : Int), x5.2.2.2.1)]), s1.2.1, x5.1))) f (E0, a, b) = some (E0 ++ E, m, m)
  | 0, a, b, E0, ha, hb, hf, _ => by
    have := hr a ha
    have := hr b hb
    omega
  | f + 1, a, b, E0, ha, hb, hf, hl => by
    have a0 := hr a ha
    have b0 := hr b hb
    unfold whileC
    rw [Option.bind_some]
    by_cases e : a = b
    · subst e
      refine ⟨[], a, ⟨ha, Int.le_refl _, Int.le_refl _, (fun e he => by cases he), List.Pairwise.nil, by simp; omega, fun L _ t h => ⟨t, t, 0, none, h, h, (hG a ha a ha).eq rfl, by omega⟩⟩, ?_⟩
      rw [if_neg (by simp)]
      simp
    · rw [if_pos (by simpa using e)]
      obtain ⟨v, j, c, g1, g2, g3, g4, g5, g6, _⟩ := (hG a ha b hb).ne e
      have vc := hv c (List.mem_of_getElem? g2)
      have hlt := vc.lt
      rw [show getA T [(E0, a, b).2.1, (E0, a, b).2.2] = some (v, some (j : Int)) from g1, Option.bind_some]
      rw [show (v, some (j : Int)).2 = some (j : Int) from rfl, Option.bind_some, atI_nat g2, Option.bind_some, okL_small (by show E0.length < 100000; omega)]
      by_cases hab : b < a
      · have ht : c.2.1 = a := by clear g5 g6; omega
        rw [if_pos (decide_eq_true ht), Option.bind_some, Option.bind_some]
        obtain ⟨w, k, g7, g8⟩ := g5 hab
        clear g5 g6
        obtain ⟨o, o1, o2, o3, o4, _⟩ := late_ok vc
        obtain ⟨E, m, S, hw⟩ := sep_loop hv hr hG f c.1 b (E0 ++ [((0 : Int), (0 : Int), (j : Int), ((List.length c.2.2.1 : Int) - (1 : Int)), c.2.2.2.2)]) g3 hb (by omega) (by simp; omega)
        have hlen : 0 < c.2.2.1.length := List.length_pos_iff.mpr vc.os.1
        refine ⟨((0 : Int), (0 : Int), (j : Int), ((List.length c.2.2.1 : Int) - (1 : Int)), c.2.2.2.2) :: E, m, ⟨S.mi, by have := S.ma; omega, S.mb, fun e he => ?_, ?_, ?_, fun L hL t h => ?_⟩, ?_⟩
        · cases he with
          | head => exact ⟨⟨j, c, _, _, o, rfl, g2, o1, by omega, by omega, vc.lm, Int.le_refl _, o2, o3, by have := vc.le; have := vc.lm; omega⟩, by rw [tgt_of g2]; have := S.ma; omega, by rw [tgt_of g2]; omega⟩
          | tail _ z =>
            have := S.ok e z
            exact ⟨this.1, this.2.1, by have := this.2.2; omega⟩
        · rw [List.pairwise_cons]
          exact ⟨fun e he => by rw [tgt_of g2]; have := (S.ok e he).2.2; omega, S.up⟩
        · have := S.len
          simp
          omega
        · obtain ⟨ta, tb, v2, k2, h1, h2, h3, h4⟩ := S.path L (fun e he => hL e (List.mem_cons_of_mem _ he)) t h
          rw [g7] at h3
          cases h3
          refine ⟨ta + o + c.2.2.2.2, tb, v, _, ?_, h2, g1, by omega⟩
          rw [← ht]
          exact At.step h1 (hL _ (List.mem_cons_self ..)) g2 o1
        · rw [List.append_assoc] at hw
          exact hw
      · have hab2 : a < b := by clear g5 g6; omega
        have ht : ¬ c.2.1 = a := by clear g5 g6; omega
        have ht2 : c.2.1 = b := by clear g5 g6; omega
        rw [if_neg (by simpa using ht), Option.bind_some, Option.bind_some]
        obtain ⟨w, k, g7, g8⟩ := g6 hab2
        clear g5 g6
        obtain ⟨o, o1, o2, o3, o4, _⟩ := early_ok vc
        obtain ⟨E, m, S, hw⟩ := sep_loop hv hr hG f a c.1 (E0 ++ [((0 : Int), (0 : Int), (j : Int), (0 : Int), c.2.2.2.1)]) ha g3 (by omega) (by simp; omega)
        have hlen : 0 < c.2.2.1.length := List.length_pos_iff.mpr vc.os.1
        refine ⟨((0 : Int), (0 : Int), (j : Int), (0 : Int), c.2.2.2.1) :: E, m, ⟨S.mi, S.ma, by have := S.mb; omega, fun e he => ?_, ?_, ?_, fun L hL t h => ?_⟩, ?_⟩
        · cases he with
          | head => exact ⟨⟨j, c, _, _, o, rfl, g2, o1, by omega, by omega, Int.le_refl _, vc.lm, o2, o3, vc.le⟩, by rw [tgt_of g2]; have := S.mb; omega, by rw [tgt_of g2]; omega⟩
          | tail _ z =>
            have := S.ok e z
            exact ⟨this.1, this.2.1, by have := this.2.2; omega⟩
        · rw [List.pairwise_cons]
          exact ⟨fun e he => by rw [tgt_of g2]; have := (S.ok e he).2.2; omega, S.up⟩
        · have := S.len
          simp
          omega
        · obtain ⟨ta, tb, v2, k2, h1, h2, h3, h4⟩ := S.path L (fun e he => hL e (List.mem_cons_of_mem _ he)) t h
          rw [g7] at h3
          cases h3
          refine ⟨ta, tb + o + c.2.2.2.1, v, _, h1, ?_, g1, by omega⟩
          rw [← ht2]
          exact At.step h2 (hL _ (List.mem_cons_self ..)) g2 o1
        · rw [List.append_assoc] at hw
          exact hw
theorem sep_ok {n : Int} {cs : List Call} {rs : List Int} {T : Tab} (hv : ∀ c ∈ cs, VC n c) (hr : ∀ x ∈ rs, 0 ≤ x ∧ x < 8) (hG : ∀ a ∈ rs, ∀ b ∈ rs, Best cs rs (fun x => x ∈ rs) T a b) {a b : Int} (ha : a ∈ rs) (hb : b ∈ rs) :
    ∃ E m, Sep cs rs T a b E m ∧ m_separate_entries cs T a b = some (E, m) := by
  have := hr a ha
  have := hr b hb
  obtain ⟨E, m, S, hw⟩ := sep_loop hv (fun x hx => (hr x hx).1) hG 1000 a b [] ha hb (by omega) (by simp; omega)
  refine ⟨E, m, S, ?_⟩
  unfold m_separate_entries
  rw [hw]
  rfl
/-- what the whole schedule is like -/
structure Sch (cs : List Call) (L : List Ent) (a b v : Int) : Prop where
  ok : ∀ e ∈ L, EntOk cs e
  inj : ∀ e ∈ L, ∀ e' ∈ L, tgt cs e = tgt cs e' → e = e'
  pos : ∀ e ∈ L, 0 < tgt cs e
  up : L.Pairwise fun e e' => e.2.2.1 < e'.2.2.1
  len : L.length ≤ 40
  path : ∃ ta tb, At cs L ta a ∧ At cs L tb b ∧ ta - tb = v
  top : ∀ e ∈ L, tgt cs e ≤ max a b
theorem tgt_inj {cs : List Call} : ∀ {L : List Ent}, L.Pairwise (fun e e' => tgt cs e' < tgt cs e) → ∀ e ∈ L, ∀ e' ∈ L, tgt cs e = tgt cs e' → e = e'
  | [], _, e, he, _, _, _ => by cases he
  | x :: xs, h, e, he, e', he', q => by
    have h' := List.pairwise_cons.mp h
    cases he with
    | head =>
      cases he' with
      | head => rfl
      | tail _ z => have := h'.1 _ z; omega
    | tail _ z =>
      cases he' with
      | head => have := h'.1 _ z; omega
      | tail _ z' => exact tgt_inj h'.2 e z e' z' q
theorem schedule_ok {s : Int × List Call} (h : VS s) {a b : Int} (ha : a ∈ RS s) (hb : b ∈ RS s) : ∃ L v, m_difference_schedule s a b = some L ∧ (∃ T k, m_greatest_differences s = some T ∧ getA T [a, b] = some (v, k)) ∧ Sch s.2 L a b v := by
  have R := RS_ok h
  have hn := h.n8
  obtain ⟨T, eT, _, hG⟩ := table_ok h
  have hr : ∀ x ∈ RS s, 0 ≤ x ∧ x < 8 := fun x hx => by have := R.bd x hx; omega
  have cs : ∀ x ∈ RS s, m_check_service s x = some () := fun x hx => by
    unfold m_check_service m_is_number
    rw [reach_ok h, Option.bind_some, Option.bind_some, decide_eq_true hx]
    rfl
  obtain ⟨E1, m1, S1, e1⟩ := sep_ok h.cs hr hG ha hb
  obtain ⟨E2, m2, S2, e2⟩ := sep_ok h.cs hr hG S1.mi R.z
  have m0 : m2 = 0 := by have := S2.mb; have := (hr m2 S2.mi).1; omega
  have a8 := hr a ha
  have b8 := hr b hb
  have m8 := hr m1 S1.mi
  have l1 := S1.len
  have l2 := S2.len
  have up : (E1 ++ E2).Pairwise (fun e e' => tgt s.2 e' < tgt s.2 e) := by
    rw [List.pairwise_append]
    exact ⟨S1.up, S2.up, fun e he e' he' => by have := (S1.ok e he).2.1; have := (S2.ok e' he').2.2; omega⟩
  obtain ⟨v, k, gv⟩ : ∃ v k, getA T [a, b] = some (v, k) := by
    obtain ⟨x, hx⟩ := (hG a ha b hb).some
    exact ⟨x.1, x.2, hx⟩
  have key : ∀ e : Ent, (fun (k7 : Ent) => [k7.1, k7.2.1, k7.2.2.1, k7.2.2.2.1, k7.2.2.2.2]) e = [e.1, e.2.1, e.2.2.1, e.2.2.2.1, e.2.2.2.2] := fun _ => rfl
  have mem : ∀ e, e ∈ sortT (fun (k7 : Ent) => [k7.1, k7.2.1, k7.2.2.1, k7.2.2.2.1, k7.2.2.2.2]) (E1 ++ E2) ↔ e ∈ E1 ++ E2 := fun e => by unfold sortT; exact List.mem_mergeSort
  have ok : ∀ e ∈ E1 ++ E2, EntOk s.2 e ∧ 0 < tgt s.2 e := fun e he => by
    rcases List.mem_append.mp he with z | z
    · have := S1.ok e z; exact ⟨this.1, by omega⟩
    · have := S2.ok e z; exact ⟨this.1, by omega⟩
  refine ⟨sortT (fun (k7 : Ent) => [k7.1, k7.2.1, k7.2.2.1, k7.2.2.2.1, k7.2.2.2.2]) (E1 ++ E2), v, ?_, ?_, ⟨fun e he => (ok e ((mem e).mp he)).1, fun e he e' he' q => tgt_inj up e ((mem e).mp he) e' ((mem e').mp he') q, fun e he => (ok e ((mem e).mp he)).2, ?_, ?_, ?_, fun e he => ?_⟩⟩
  · unfold m_difference_schedule
    rw [cs a ha, Option.bind_some, cs b hb, Option.bind_some, eT, Option.bind_some, e1, Option.bind_some, e2, Option.bind_some]
    rw [show catO (E1, m1).1 (E2, m2).1 = some (E1 ++ E2) by unfold catO; rw [if_pos (show E1.length + E2.length ≤ 100000 by omega)], Option.bind_some]
    unfold sortO
    rw [if_pos (by rw [List.length_append]; omega)]
    rfl
  · exact ⟨T, k, eT, gv⟩
  · have p1 : (sortT (fun (k7 : Ent) => [k7.1, k7.2.1, k7.2.2.1, k7.2.2.2.1, k7.2.2.2.2]) (E1 ++ E2)).Pairwise (fun e e' => leI [e.1, e.2.1, e.2.2.1, e.2.2.2.1, e.2.2.2.2] [e'.1, e'.2.1, e'.2.2.1, e'.2.2.2.1, e'.2.2.2.2] = true) :=
      List.pairwise_mergeSort (le := fun (x y : Ent) => leI [x.1, x.2.1, x.2.2.1, x.2.2.2.1, x.2.2.2.2] [y.1, y.2.1, y.2.2.1, y.2.2.2.1, y.2.2.2.2]) (fun _ _ _ => le_trans' _ _ _) (fun _ _ => le_total' _ _) _
    have nd : (sortT (fun (k7 : Ent) => [k7.1, k7.2.1, k7.2.2.1, k7.2.2.2.1, k7.2.2.2.2]) (E1 ++ E2)).Nodup := by
      have h1 : (E1 ++ E2).Nodup := up.imp fun {x y} q z => by rw [z] at q; omega
      exact (List.mergeSort_perm (E1 ++ E2) _).nodup_iff.mpr h1
    refine List.Pairwise.imp_of_mem (R := fun e e' => leI [e.1, e.2.1, e.2.2.1, e.2.2.2.1, e.2.2.2.2] [e'.1, e'.2.1, e'.2.2.1, e'.2.2.2.1, e'.2.2.2.2] = true ∧ e ≠ e') (fun {e e'} he he' q => ?_) (p1.and nd)
    obtain ⟨j, c, q1, dl, o, rfl, g2, _⟩ := (ok e ((mem e).mp he)).1.ex
    obtain ⟨j', c', q1', dl', o', rfl, g2', _⟩ := (ok e' ((mem e').mp he')).1.ex
    obtain ⟨q2, q3⟩ := q
    have hj : (j : Int) ≠ (j' : Int) := fun z => by
      have z' : j = j' := by omega
      subst z'
      rw [g2] at g2'
      cases g2'
      exact q3 (tgt_inj up _ ((mem _).mp he) _ ((mem _).mp he') (by rw [tgt_of g2, tgt_of g2]))
    show (j : Int) < (j' : Int)
    unfold leI lexI at q2
    rw [if_pos rfl] at q2
    unfold lexI at q2
    rw [if_pos rfl] at q2
    unfold lexI at q2
    rw [if_neg (by show ¬ (j' : Int) = (j : Int); omega)] at q2
    have := of_decide_eq_false (by simpa using q2 : decide ((j' : Int) < (j : Int)) = false)
    omega
  · rw [show (sortT (fun (k7 : Ent) => [k7.1, k7.2.1, k7.2.2.1, k7.2.2.2.1, k7.2.2.2.2]) (E1 ++ E2)).length = (E1 ++ E2).length by unfold sortT; rw [List.length_mergeSort], List.length_append]
    omega
  · subst m0
    obtain ⟨tm, _, _, _, hm, _⟩ := S2.path (sortT (fun (k7 : Ent) => [k7.1, k7.2.1, k7.2.2.1, k7.2.2.2.1, k7.2.2.2.2]) (E1 ++ E2)) (fun e he => (mem e).mpr (List.mem_append_right _ he)) 0 At.root
    obtain ⟨ta, tb, v2, k2, h1, h2, h3, h4⟩ := S1.path (sortT (fun (k7 : Ent) => [k7.1, k7.2.1, k7.2.2.1, k7.2.2.2.1, k7.2.2.2.2]) (E1 ++ E2)) (fun e he => (mem e).mpr (List.mem_append_left _ he)) tm hm
    rw [gv] at h3
    cases h3
    exact ⟨ta, tb, h1, h2, h4⟩
  · rcases List.mem_append.mp ((mem e).mp he) with z | z
    · exact (S1.ok e z).2.2
    · have := (S2.ok e z).2.2
      have := S1.ma
      have := S1.mb
      omega
end K10
namespace K10
open PySem L2 Pw
/-! ### who is reached: closed under calls -/
theorem F_mem {cs : List Call} {rs : List Int} {t x : Int} : x ∈ F cs rs t ↔ x ∈ rs ∨ (x = t ∧ ∃ i, i ∈ idx cs rs t) := by
  unfold F
  by_cases c : (!List.isEmpty (idx cs rs t)) = true
  · rw [if_pos c, List.mem_append, List.mem_singleton]
    have := isE.mp c
    exact ⟨fun h => h.imp id fun h => ⟨h, this⟩, fun h => h.imp id fun h => h.1⟩
  · rw [if_neg c]
    exact ⟨.inl, fun h => h.elim id fun h => absurd (isE.mpr h.2) c⟩
def Cl (cs : List Call) (t : Int) (rs : List Int) : Prop := (∀ x ∈ rs, x < t) ∧ ∀ c ∈ cs, 0 ≤ c.1 → c.1 < c.2.1 → c.2.1 < t → c.1 ∈ rs → c.2.1 ∈ rs
theorem Cl.step {cs : List Call} {t : Int} {rs : List Int} (h : Cl cs t rs) : Cl cs (t + 1) (F cs rs t) := by
  refine ⟨fun x hx => ?_, fun c hc h0 h1 h2 h3 => ?_⟩
  · rcases F_mem.mp hx with z | z
    · have := h.1 x z; omega
    · omega
  · have h3' : c.1 ∈ rs := by
      rcases F_mem.mp h3 with z | z
      · exact z
      · omega
    by_cases e : c.2.1 = t
    · obtain ⟨j, hj⟩ := List.getElem?_of_mem hc
      exact F_mem.mpr (.inr ⟨e, _, mem_idx.mpr ⟨j, c, rfl, hj, h3', e⟩⟩)
    · exact F_mem.mpr (.inl (h.2 c hc h0 h1 (by omega) h3'))
theorem Cl.fold {cs : List Call} : ∀ (n : Nat) (t : Int) (rs : List Int), Cl cs t rs → Cl cs (t + n) ((rng t n).foldl (F cs) rs)
  | 0, t, rs, h => by
    have : rng t 0 = [] := rfl
    rw [this]
    simpa using h
  | n + 1, t, rs, h => by
    rw [rng_succ, List.foldl_cons]
    have := Cl.fold n (t + 1) (F cs rs t) h.step
    rw [show t + ((n + 1 : Nat) : Int) = t + 1 + (n : Int) by omega]
    exact this
theorem RS_cl {s : Int × List Call} (h : VS s) {c : Call} (hc : c ∈ s.2) (h1 : c.1 ∈ RS s) : c.2.1 ∈ RS s := by
  have := h.n1
  have v := h.cs c hc
  have := Cl.fold (cs := s.2) (s.1 - 1).toNat 1 [0] ⟨fun x hx => by rw [List.mem_singleton.mp hx]; omega, fun c' hc' h0 h1 h2 h3 => by omega⟩
  rw [show (1 : Int) + ((s.1 - 1).toNat : Int) = s.1 by omega] at this
  exact this.2 c hc v.lo v.lt v.hi h1
theorem RS_z {s : Int × List Call} (h : VS s) : (0 : Int) ∈ RS s := (RS_ok h).z
theorem RS_bd {s : Int × List Call} (h : VS s) {x : Int} (hx : x ∈ RS s) : 0 ≤ x ∧ x < s.1 ∧ x < 8 := by
  have := (RS_ok h).bd x hx
  have := h.n8
  omega
/-! ### the differences -/
def dv (T : Tab) (a b : Int) : Int := ((getA T [a, b]).map (·.1)).getD 0
structure Opt (s : Int × List Call) (d : Int → Int → Int) : Prop where
  z : ∀ a ∈ RS s, d a a = 0
  lx : ∀ a ∈ RS s, ∀ b ∈ RS s, b < a → ∃ c ∈ s.2, c.1 ∈ RS s ∧ c.2.1 = a ∧ d a b = d c.1 b + late c
  lb : ∀ a ∈ RS s, ∀ b ∈ RS s, b < a → ∀ c ∈ s.2, c.1 ∈ RS s → c.2.1 = a → d c.1 b + late c ≤ d a b
  ex : ∀ a ∈ RS s, ∀ b ∈ RS s, a < b → ∃ c ∈ s.2, c.1 ∈ RS s ∧ c.2.1 = b ∧ d a b = d a c.1 - early c
  eb : ∀ a ∈ RS s, ∀ b ∈ RS s, a < b → ∀ c ∈ s.2, c.1 ∈ RS s → c.2.1 = b → d a c.1 - early c ≤ d a b
structure TabOk (s : Int × List Call) (T : Tab) (d : Int → Int → Int) : Prop where
  run : m_greatest_differences s = some T
  few : T.length ≤ 200
  get : ∀ a ∈ RS s, ∀ b ∈ RS s, ∃ k, getA T [a, b] = some (d a b, k)
  opt : Opt s d
  best : ∀ a ∈ RS s, ∀ b ∈ RS s, Best s.2 (RS s) (fun x => x ∈ RS s) T a b
theorem table_opt {s : Int × List Call} (h : VS s) : ∃ T d, TabOk s T d := by
  obtain ⟨T, e, few, hB⟩ := table_ok h
  have get : ∀ a ∈ RS s, ∀ b ∈ RS s, ∃ k, getA T [a, b] = some (dv T a b, k) := fun a ha b hb => by
    obtain ⟨x, hx⟩ := (hB a ha b hb).some
    exact ⟨x.2, by unfold dv; rw [hx]; rfl⟩
  have val : ∀ {a b w : Int} {k : Option Int}, getA T [a, b] = some (w, k) → dv T a b = w := fun {a b w k} hx => by unfold dv; rw [hx]; rfl
  refine ⟨T, dv T, e, few, get, ⟨fun a ha => val ((hB a ha a ha).eq rfl), fun a ha b hb hlt => ?_, fun a ha b hb hlt c hc h1 h2 => ?_, fun a ha b hb hlt => ?_, fun a ha b hb hlt c hc h1 h2 => ?_⟩, hB⟩
  · obtain ⟨v, j, c, g1, g2, g3, g4, g5, g6, g7⟩ := (hB a ha b hb).ne (by omega)
    obtain ⟨w, k, q1, q2⟩ := g5 hlt
    exact ⟨c, List.mem_of_getElem? g2, g3, by clear g5 g6 g7; omega, by rw [val g1, val q1]; exact q2⟩
  · obtain ⟨v, j, c', g1, g2, g3, g4, g5, g6, g7⟩ := (hB a ha b hb).ne (by omega)
    obtain ⟨w, k, q1, q2⟩ := (g7 c hc h1 (by clear g5 g6 g7; omega)).1 hlt
    rw [val g1, val q1]; exact q2
  · obtain ⟨v, j, c, g1, g2, g3, g4, g5, g6, g7⟩ := (hB a ha b hb).ne (by omega)
    obtain ⟨w, k, q1, q2⟩ := g6 hlt
    exact ⟨c, List.mem_of_getElem? g2, g3, by clear g5 g6 g7; omega, by rw [val g1, val q1]; exact q2⟩
  · obtain ⟨v, j, c', g1, g2, g3, g4, g5, g6, g7⟩ := (hB a ha b hb).ne (by omega)
    obtain ⟨w, k, q1, q2⟩ := (g7 c hc h1 (by clear g5 g6 g7; omega)).2 hlt
    rw [val g1, val q1]; exact q2
theorem service_ok {s : Int × List Call} (h : VS s) {x : Int} (hx : x ∈ RS s) : m_check_service s x = some () := by
  unfold m_check_service m_is_number
  rw [reach_ok h, Option.bind_some, Option.bind_some, decide_eq_true hx]
  rfl
/-! ### dicts laid pair by pair -/
theorem compL_map {α β : Type} {f : α → Option (Option β)} {g : α → β} : ∀ xs : List α, (∀ x ∈ xs, f x = some (some (g x))) → compL f xs = some (xs.map g)
  | [], _ => rfl
  | x :: xs, h => by
    unfold compL
    rw [h x (List.mem_cons_self ..), Option.bind_some, compL_map xs fun y hy => h y (List.mem_cons_of_mem _ hy)]
    rfl
theorem compO_map {α β : Type} {f : α → Option (Option β)} {g : α → β} {xs : List α} (hl : xs.length ≤ 100000) (h : ∀ x ∈ xs, f x = some (some (g x))) : compO f xs = some (xs.map g) := by
  unfold compO
  rw [if_pos hl]
  exact compL_map xs h
theorem dictO_map {α κ β : Type} [DecidableEq κ] {f : α → Option (κ × β)} {g : α → κ × β} {xs : List α} (hl : xs.length < 100000) (h : ∀ x ∈ xs, f x = some (g x)) : dictO f xs = some (putAll [] (xs.map g)) := by
  unfold dictO
  rw [compO_map (g := g) (by omega) fun x hx => by rw [h x hx]; rfl, Option.bind_some, okL_small hl]
  rfl
theorem putAll_new {κ β : Type} [DecidableEq κ] : ∀ (ps acc : List (κ × β)), ((acc ++ ps).map (·.1)).Nodup → putAll acc ps = acc ++ ps
  | [], acc, _ => by simp [putAll]
  | p :: ps, acc, h => by
    have e : putA acc p.1 p.2 = acc ++ [p] := by
      unfold putA
      rw [if_neg]
      intro z
      obtain ⟨q, hq, e⟩ := List.any_eq_true.mp z
      have e : q.1 = p.1 := of_decide_eq_true e
      rw [List.map_append, List.nodup_append] at h
      exact h.2.2 q.1 (List.mem_map_of_mem hq) p.1 (by simp) e
    show putAll (putA acc p.1 p.2) ps = _
    rw [e, putAll_new ps (acc ++ [p]) (by simpa using h)]
    simp
theorem putAll_get {κ β : Type} [DecidableEq κ] (v : κ → β) : ∀ (ks : List κ) (acc : List (κ × β)) (k : κ), (k ∈ ks ∨ getA acc k = some (v k)) → getA (putAll acc (ks.map fun k => (k, v k))) k = some (v k)
  | [], acc, k, h => h.resolve_left (by simp)
  | x :: ks, acc, k, h => by
    show getA (putAll (putA acc x (v x)) (ks.map fun k => (k, v k))) k = _
    refine putAll_get v ks _ k ?_
    by_cases e : k = x
    · subst e; exact .inr get_put
    · rcases h with h | h
      · exact .inl ((List.mem_cons.mp h).resolve_left e)
      · exact .inr (by rw [get_put_ne e]; exact h)
theorem up_nodup {xs : List Int} (h : xs.Pairwise (· < ·)) : xs.Nodup := h.imp fun {a b} q z => by omega
theorem getA_map1 {β : Type} {g : Int → β} : ∀ (xs : List Int) (x : Int), x ∈ xs → getA (xs.map fun x => (x, g x)) x = some (g x)
  | y :: xs, x, h => by
    unfold getA
    rw [List.map_cons, List.find?_cons]
    by_cases e : y = x
    · subst e; simp
    · rw [decide_eq_false e]
      exact getA_map1 xs x ((List.mem_cons.mp h).resolve_left (Ne.symm e))
def times (s : Int × List Call) (d : Int → Int → Int) : List (Int × (Int × Int)) := (RS s).map fun x => (x, (-(d 0 x), d x 0))
theorem times_ok {s : Int × List Call} (h : VS s) {T : Tab} {d : Int → Int → Int} (t : TabOk s T d) : m_act_times s = some (times s d) := by
  have l8 := RS_len h
  unfold m_act_times
  rw [t.run, Option.bind_some, reach_ok h, Option.bind_some]
  rw [dictO_map (g := fun x => (x, (-(d 0 x), d x 0))) (by omega) fun x hx => by
    obtain ⟨k, hk⟩ := t.get 0 (RS_z h) x hx
    obtain ⟨k', hk'⟩ := t.get x hx 0 (RS_z h)
    rw [hk, Option.bind_some, hk', Option.bind_some], Option.bind_some]
  rw [putAll_new _ [] (by simpa [List.map_map, Function.comp_def] using up_nodup (RS_ok h).up)]
  rfl
theorem times_get {s : Int × List Call} {d : Int → Int → Int} {x : Int} (hx : x ∈ RS s) : getA (times s d) x = some (-(d 0 x), d x 0) := getA_map1 (g := fun x => (-(d 0 x), d x 0)) (RS s) x hx
/-! ### windows -/
structure VW (s : Int × List Call) (W : List Int) : Prop where
  len : (W.length : Int) = s.1
  bd : ∀ w ∈ W, 0 ≤ w ∧ w ≤ 9999
theorem cw_ok {s : Int × List Call} (h : VS s) {W : List Int} (hW : VW s W) : m_check_windows s W = some () := by
  have := h.n8
  have := hW.len
  unfold m_check_windows
  rw [check_ok h, Option.bind_some, if_neg (by decide)]
  rw [fold_unit (enumT W) (fun p hp => by
    obtain ⟨j, h1, h2⟩ := mem_enum.mp hp
    obtain ⟨hj, _⟩ := List.getElem?_eq_some_iff.mp h1
    have hc : ¬ s.1 ≤ p.1 := by omega
    have b := hW.bd _ (List.mem_of_getElem? h1)
    rw [decide_eq_false hc, if_neg (by decide), within_yes b.1 b.2]
    rfl), Option.bind_some, if_neg (by simp; omega)]
theorem win_at {s : Int × List Call} (h : VS s) {W : List Int} (hW : VW s W) {x : Int} (h0 : 0 ≤ x) (h1 : x < s.1) : ∃ j : Nat, x = (j : Int) ∧ ∃ w, W[j]? = some w ∧ atI W x = some w ∧ 0 ≤ w ∧ w ≤ 9999 := by
  obtain ⟨j, hj⟩ := Int.eq_ofNat_of_zero_le h0
  have := hW.len
  have hl : j < W.length := by omega
  have e : W[j]? = some W[j] := List.getElem?_eq_getElem hl
  have b := hW.bd _ (List.getElem_mem hl)
  exact ⟨j, hj, W[j], e, by rw [hj]; exact atI_nat e, b.1, b.2⟩
def wat (W : List Int) (x : Int) : Int := (atI W x).getD 0
theorem wat_ok {s : Int × List Call} (h : VS s) {W : List Int} (hW : VW s W) {x : Int} (h0 : 0 ≤ x) (h1 : x < s.1) : atI W x = some (wat W x) ∧ 0 ≤ wat W x ∧ wat W x ≤ 9999 := by
  obtain ⟨j, _, w, _, e, b1, b2⟩ := win_at h hW h0 h1
  unfold wat
  rw [e]
  exact ⟨rfl, b1, b2⟩
def spans (s : Int × List Call) (d : Int → Int → Int) (W : List Int) : List (Int × Int) := (RS s).map fun x => (x, wat W x + d x 0 - -(d 0 x))
theorem spans_ok {s : Int × List Call} (h : VS s) {T : Tab} {d : Int → Int → Int} (t : TabOk s T d) {W : List Int} (hW : VW s W) : m_memory_spans s W = some (spans s d W) := by
  have l8 := RS_len h
  unfold m_memory_spans
  rw [times_ok h t, Option.bind_some]
  have e : List.map (fun (z : Int × (Int × Int)) => z.1) (times s d) = RS s := by unfold times; rw [List.map_map]; exact List.map_id'' (fun _ => rfl) _
  rw [e, dictO_map (g := fun x => (x, wat W x + d x 0 - -(d 0 x))) (by omega) fun x hx => by
    have b := RS_bd h hx
    rw [(wat_ok h hW b.1 b.2.1).1, Option.bind_some, times_get hx, Option.bind_some, Option.bind_some], Option.bind_some]
  rw [putAll_new _ [] (by simpa [List.map_map, Function.comp_def] using up_nodup (RS_ok h).up)]
  rfl
theorem maxI_of {xs : List Int} {m : Int} (h1 : m ∈ xs) (h2 : ∀ y ∈ xs, y ≤ m) : maxI xs = some m := by
  cases xs with
  | nil => cases h1
  | cons x r =>
    have := foldmax r x
    show some _ = some m
    congr 1
    exact Int.le_antisymm (h2 _ this.1) (this.2 _ h1)
/-! ### the pair of messages that decides -/
def gap (d : Int → Int → Int) (a b : Call) : Int := d a.1 b.1 + late a - early b
/-- the calls with these indexes -/
def At2 (cs : List Call) (ids : List Int) (i : Int) (c : Call) : Prop := i ∈ ids ∧ ∃ j : Nat, i = (j : Int) ∧ cs[j]? = some c
def Pr (i j : Int) (a : Call) : Prop := ¬ (i = j ∧ (a.2.2.1.length : Int) - 1 = 0)
structure DP (d : Int → Int → Int) (cs : List Call) (ids : List Int) (Dn : Int → Int → Prop) (r : Int × Option ((Int × Int) × (Int × Int))) : Prop where
  nn : 0 ≤ r.1
  no : r.2 = none → r.1 = 0
  ye : ∀ p, r.2 = some p → 0 < r.1 ∧ ∃ i j a b, At2 cs ids i a ∧ At2 cs ids j b ∧ Pr i j a ∧ p = ((i, (a.2.2.1.length : Int) - 1), (j, 0)) ∧ r.1 = gap d a b
  up : ∀ i j a b, Dn i j → At2 cs ids i a → At2 cs ids j b → Pr i j a → gap d a b ≤ r.1
section
variable {n : Int} {cs : List Call} {ids : List Int} {d : Int → Int → Int} {A : List (List Int × Int)}
theorem at2_inj {i : Int} {a b : Call} (h : At2 cs ids i a) (h' : At2 cs ids i b) : a = b := by
  obtain ⟨_, j, e, h1⟩ := h
  obtain ⟨_, j', e', h2⟩ := h'
  have : j = j' := by omega
  subst this
  rw [h1] at h2
  exact Option.some.inj h2
theorem dp_one (hv : ∀ c ∈ cs, VC n c) {i j : Int} {a b : Call} (hi : At2 cs ids i a) (hj : At2 cs ids j b) (hA : getA A [a.1, b.1] = some (d a.1 b.1)) {Dn : Int → Int → Prop} {r : Int × Option ((Int × Int) × (Int × Int))} (h : DP d cs ids Dn r) :
    ∃ r', ((atI cs i).bind fun x7 => (atI cs i).bind fun x8 => (atI cs j).bind fun x9 => (getA A [x8.1, x9.1]).bind fun x10 => (atI cs i).bind fun x11 => (m_longest_way x11).bind fun r12 => (atI cs j).bind fun x13 => (m_shortest_way x13).bind fun r14 => if ((decide (r.1 < ((x10 + r12) - r14))) && (!decide ([i, ((List.length x7.2.2.1 : Int) - (1 : Int))] = [j, (0 : Int)]))) = true then (some (((x10 + r12) - r14), (some ((i, ((List.length x7.2.2.1 : Int) - (1 : Int))), (j, (0 : Int)))))) else (some r)) = some r' ∧ DP d cs ids (fun x y => (x = i ∧ y = j) ∨ Dn x y) r' := by
  obtain ⟨_, ja, ea, ga⟩ := id hi
  obtain ⟨_, jb, eb, gb⟩ := id hj
  obtain ⟨_, _, _, _, _, lw⟩ := late_ok (hv a (List.mem_of_getElem? ga))
  obtain ⟨_, _, _, _, _, ew⟩ := early_ok (hv b (List.mem_of_getElem? gb))
  rw [ea, eb]
  simp only [atI_nat ga, atI_nat gb, Option.bind_some, hA, lw, ew]
  rw [← ea, ← eb]
  have hpr : (!decide ([i, (a.2.2.1.length : Int) - 1] = [j, (0 : Int)])) = true ↔ Pr i j a := by
    unfold Pr
    simp
    exact ⟨fun h e => h.elim (fun z => absurd e z) id, fun h => (Classical.em (i = j)).elim (fun e => .inr (h e)) .inl⟩
  by_cases c : ((decide (r.1 < d a.1 b.1 + late a - early b)) && (!decide ([i, ((List.length a.2.2.1 : Int) - (1 : Int))] = [j, (0 : Int)]))) = true
  · rw [if_pos c]
    have c' := Bool.and_eq_true_iff.mp c
    have c1 := of_decide_eq_true c'.1
    have nn := h.nn
    refine ⟨_, rfl, by show 0 ≤ d a.1 b.1 + late a - early b; omega, (fun z => by cases z), fun p hp => ?_, fun x y a' b' hxy hx hy hp => ?_⟩
    · cases hp
      exact ⟨by show 0 < d a.1 b.1 + late a - early b; omega, i, j, a, b, hi, hj, hpr.mp c'.2, rfl, rfl⟩
    · show gap d a' b' ≤ d a.1 b.1 + late a - early b
      rcases hxy with ⟨rfl, rfl⟩ | hxy
      · rw [at2_inj hx hi, at2_inj hy hj]; exact Int.le_refl _
      · have := h.up x y a' b' hxy hx hy hp; omega
  · rw [if_neg c]
    refine ⟨_, rfl, h.nn, h.no, h.ye, fun x y a' b' hxy hx hy hp => ?_⟩
    rcases hxy with ⟨rfl, rfl⟩ | hxy
    · have e1 := at2_inj hx hi
      have e2 := at2_inj hy hj
      subst e1 e2
      have q := hpr.mpr hp
      rw [q, Bool.and_true] at c
      have : ¬ (r.1 < d a'.1 b'.1 + late a' - early b') := fun z => c (decide_eq_true z)
      show d a'.1 b'.1 + late a' - early b' ≤ r.1
      omega
    · exact h.up x y a' b' hxy hx hy hp
theorem dp_in (hv : ∀ c ∈ cs, VC n c) (hA : ∀ i j a b, At2 cs ids i a → At2 cs ids j b → getA A [a.1, b.1] = some (d a.1 b.1)) {i : Int} {a : Call} (hi : At2 cs ids i a) :
    ∀ (xs : List Int) (Dn : Int → Int → Prop) (r : Int × Option ((Int × Int) × (Int × Int))), (∀ x ∈ xs, ∃ b, At2 cs ids x b) → DP d cs ids Dn r →
    ∃ r', List.foldlM (fun (s5 : ((Int × (Option ((Int × Int) × (Int × Int)))))) (x4 : Int) => (atI cs i).bind fun x7 => (atI cs i).bind fun x8 => (atI cs x4).bind fun x9 => (getA A [x8.1, x9.1]).bind fun x10 => (atI cs i).bind fun x11 => (m_longest_way x11).bind fun r12 => (atI cs x4).bind fun x13 => (m_shortest_way x13).bind fun r14 => if ((decide (s5.1 < ((x10 + r12) - r14))) && (!decide ([i, ((List.length x7.2.2.1 : Int) - (1 : Int))] = [x4, (0 : Int)]))) = true then (some (((x10 + r12) - r14), (some ((i, ((List.length x7.2.2.1 : Int) - (1 : Int))), (x4, (0 : Int)))))) else (some s5)) r xs = some r' ∧ DP d cs ids (fun x y => (x = i ∧ y ∈ xs) ∨ Dn x y) r'
  | [], Dn, r, _, h => ⟨r, rfl, h.nn, h.no, h.ye, fun x y a' b' hxy hx hy hp => h.up x y a' b' (hxy.resolve_left fun z => by cases z.2) hx hy hp⟩
  | x :: xs, Dn, r, hx, h => by
    obtain ⟨b, hb⟩ := hx x (List.mem_cons_self ..)
    obtain ⟨r1, e1, h1⟩ := dp_one hv hi hb (hA i x a b hi hb) h
    rw [List.foldlM_cons, e1]
    obtain ⟨r2, e2, h2⟩ := dp_in hv hA hi xs _ r1 (fun y hy => hx y (List.mem_cons_of_mem _ hy)) h1
    refine ⟨r2, e2, h2.nn, h2.no, h2.ye, fun x' y' a' b' hxy hx hy hp => h2.up x' y' a' b' ?_ hx hy hp⟩
    rcases hxy with ⟨z1, z2⟩ | z
    · rcases List.mem_cons.mp z2 with z2 | z2
      · exact .inr (.inl ⟨z1, z2⟩)
      · exact .inl ⟨z1, z2⟩
    · exact .inr (.inr z)
theorem dp_out (hv : ∀ c ∈ cs, VC n c) (hA : ∀ i j a b, At2 cs ids i a → At2 cs ids j b → getA A [a.1, b.1] = some (d a.1 b.1)) (hids : ∀ x ∈ ids, ∃ b, At2 cs ids x b) :
    ∀ (xs : List Int) (Dn : Int → Int → Prop) (r : Int × Option ((Int × Int) × (Int × Int))), (∀ x ∈ xs, x ∈ ids) → DP d cs ids Dn r →
    ∃ r', List.foldlM (fun (s2 : ((Int × (Option ((Int × Int) × (Int × Int)))))) (x1 : Int) => (List.foldlM (fun (s5 : ((Int × (Option ((Int × Int) × (Int × Int)))))) (x4 : Int) => (atI cs x1).bind fun x7 => (atI cs x1).bind fun x8 => (atI cs x4).bind fun x9 => (getA A [x8.1, x9.1]).bind fun x10 => (atI cs x1).bind fun x11 => (m_longest_way x11).bind fun r12 => (atI cs x4).bind fun x13 => (m_shortest_way x13).bind fun r14 => if ((decide (s5.1 < ((x10 + r12) - r14))) && (!decide ([x1, ((List.length x7.2.2.1 : Int) - (1 : Int))] = [x4, (0 : Int)]))) = true then (some (((x10 + r12) - r14), (some ((x1, ((List.length x7.2.2.1 : Int) - (1 : Int))), (x4, (0 : Int)))))) else (some s5)) s2 ids).bind fun y15 => some y15) r xs = some r' ∧ DP d cs ids (fun x y => (x ∈ xs ∧ y ∈ ids) ∨ Dn x y) r'
  | [], Dn, r, _, h => ⟨r, rfl, h.nn, h.no, h.ye, fun x y a' b' hxy hx hy hp => h.up x y a' b' (hxy.resolve_left fun z => by cases z.1) hx hy hp⟩
  | x :: xs, Dn, r, hx, h => by
    obtain ⟨a, ha⟩ := hids x (hx x (List.mem_cons_self ..))
    obtain ⟨r1, e1, h1⟩ := dp_in hv hA ha ids Dn r hids h
    rw [List.foldlM_cons, e1]
    obtain ⟨r2, e2, h2⟩ := dp_out hv hA hids xs _ r1 (fun y hy => hx y (List.mem_cons_of_mem _ hy)) h1
    refine ⟨r2, e2, h2.nn, h2.no, h2.ye, fun x' y' a' b' hxy hx hy hp => h2.up x' y' a' b' ?_ hx hy hp⟩
    rcases hxy with ⟨z1, z2⟩ | z
    · rcases List.mem_cons.mp z1 with z1 | z1
      · exact .inr (.inl ⟨z1, z2⟩)
      · exact .inl ⟨z1, z2⟩
    · exact .inr (.inr z)
theorem pair_ok (hv : ∀ c ∈ cs, VC n c) (hA : ∀ i j a b, At2 cs ids i a → At2 cs ids j b → getA A [a.1, b.1] = some (d a.1 b.1)) (hids : ∀ x ∈ ids, ∃ b, At2 cs ids x b) : ∃ r, m_deciding_pair cs A ids = some r ∧ DP d cs ids (fun _ _ => True) r := by
  obtain ⟨r, e, h⟩ := dp_out hv hA hids ids (fun _ _ => False) (0, none) (fun _ h => h) ⟨Int.le_refl _, fun _ => rfl, (fun p hp => by cases hp), fun _ _ _ _ z => z.elim⟩
  refine ⟨r, ?_, h.nn, h.no, h.ye, fun x y a b _ hx hy hp => h.up x y a b (.inl ⟨hx.1, hy.1⟩) hx hy hp⟩
  unfold m_deciding_pair
  rw [e]
  rfl
end
theorem apart_ok {s : Int × List Call} (h : VS s) {T : Tab} {d : Int → Int → Int} (t : TabOk s T d) : ∃ A, dictO (fun (x3 : (List Int)) => (getA T x3).bind fun x4 => some (x3, x4.1)) (List.map (fun z => z.1) T) = some A ∧ ∀ a ∈ RS s, ∀ b ∈ RS s, getA A [a, b] = some (d a b) := by
  have few := t.few
  have there : ∀ x ∈ List.map (fun (z : List Int × (Int × Option Int)) => z.1) T, ∃ v, getA T x = some v := fun x hx => by
    obtain ⟨z, hz, rfl⟩ := List.mem_map.mp hx
    unfold getA
    cases q : T.find? (fun kv => decide (kv.1 = z.1)) with
    | some v => exact ⟨v.2, rfl⟩
    | none => exact absurd (decide_eq_true rfl) (List.find?_eq_none.mp q z hz)
  refine ⟨_, dictO_map (g := fun x => (x, ((getA T x).map (·.1)).getD 0)) (by rw [List.length_map]; omega) (fun x hx => by
    obtain ⟨v, hv⟩ := there x hx
    rw [hv]; rfl), fun a ha b hb => ?_⟩
  obtain ⟨k, hk⟩ := t.get a ha b hb
  have := putAll_get (fun x : List Int => ((getA T x).map (·.1)).getD 0) (List.map (fun (z : List Int × (Int × Option Int)) => z.1) T) [] [a, b] (.inl ?_)
  · rw [hk] at this
    exact this
  · unfold getA at hk
    obtain ⟨z, hz, _⟩ := Option.map_eq_some_iff.mp hk
    have e := List.find?_some hz
    rw [← of_decide_eq_true e]
    exact List.mem_map_of_mem (List.mem_of_find?_eq_some hz)
/-- the deciding pair of one service -/
def DPS (s : Int × List Call) (d : Int → Int → Int) (x : Int) (r : Int × Option ((Int × Int) × (Int × Int))) : Prop := DP d s.2 (idx s.2 (RS s) x) (fun _ _ => True) r
theorem idx_at {s : Int × List Call} {x i : Int} (hi : i ∈ idx s.2 (RS s) x) : ∃ b, At2 s.2 (idx s.2 (RS s) x) i b ∧ b ∈ s.2 ∧ b.1 ∈ RS s ∧ b.2.1 = x := by
  obtain ⟨j, c, h1, h2, h3, h4⟩ := mem_idx.mp hi
  exact ⟨c, ⟨hi, j, h1, h2⟩, List.mem_of_getElem? h2, h3, h4⟩
theorem at_idx {s : Int × List Call} {x i : Int} {b : Call} (h : At2 s.2 (idx s.2 (RS s) x) i b) : b ∈ s.2 ∧ b.1 ∈ RS s ∧ b.2.1 = x := by
  obtain ⟨b', h', h1, h2, h3⟩ := idx_at h.1
  rw [at2_inj h h']
  exact ⟨h1, h2, h3⟩
theorem pairs_ok {s : Int × List Call} (h : VS s) {T : Tab} {d : Int → Int → Int} (t : TabOk s T d) : ∃ ps, m_deciding_pairs s = some ps ∧ (ps.length : Int) = s.1 ∧ ∀ (j : Nat) r, ps[j]? = some r → DPS s d (j : Int) r := by
  have := h.n1
  have := h.n8
  obtain ⟨A, eA, hA⟩ := apart_ok h t
  have each : ∀ x : Int, ∃ r, m_deciding_pair s.2 A (idx s.2 (RS s) x) = some r ∧ DPS s d x r := fun x =>
    pair_ok (n := s.1) h.cs (fun i j a b ha hb => hA _ (at_idx ha).2.1 _ (at_idx hb).2.1) fun i hi => by
      obtain ⟨b, hb, _⟩ := idx_at hi
      exact ⟨b, hb⟩
  obtain ⟨f, hf⟩ : ∃ f : Int → Int × Option ((Int × Int) × (Int × Int)), ∀ x, m_deciding_pair s.2 A (idx s.2 (RS s) x) = some (f x) ∧ DPS s d x (f x) := ⟨fun x => Classical.choose (each x), fun x => Classical.choose_spec (each x)⟩
  refine ⟨(rng 0 (s.1 - 0).toNat).map f, ?_, by rw [List.length_map, rng_len]; omega, fun j r hj => ?_⟩
  · unfold m_deciding_pairs
    rw [reach_ok h, Option.bind_some, t.run, Option.bind_some, eA, Option.bind_some, rngO_small (by decide) (by decide) (by omega) (by omega), Option.bind_some]
    rw [compO_map (g := f) (by rw [rng_len]; omega) fun x _ => by rw [calls_ok h.few, Option.bind_some, (hf x).1, Option.bind_some]]
    rfl
  · rw [List.getElem?_map] at hj
    obtain ⟨x, hx, rfl⟩ := Option.map_eq_some_iff.mp hj
    have : x = (j : Int) := by
      unfold rng at hx
      rw [List.getElem?_map] at hx
      obtain ⟨y, hy, rfl⟩ := Option.map_eq_some_iff.mp hx
      have := List.getElem?_eq_some_iff.mp hy
      obtain ⟨q1, q2⟩ := this
      rw [List.getElem_range] at q2
      omega
    subst this
    exact (hf _).2
theorem least_ok {s : Int × List Call} (h : VS s) {T : Tab} {d : Int → Int → Int} (t : TabOk s T d) : ∃ ps, m_deciding_pairs s = some ps ∧ m_least_windows s = some (ps.map (·.1)) ∧ (ps.length : Int) = s.1 ∧ ∀ (j : Nat) r, ps[j]? = some r → DPS s d (j : Int) r := by
  obtain ⟨ps, e, l, hp⟩ := pairs_ok h t
  have := h.n8
  refine ⟨ps, e, ?_, l, hp⟩
  unfold m_least_windows
  rw [e, Option.bind_some, compO_map (f := fun (x2 : (Int × (Option ((Int × Int) × (Int × Int))))) => some (some x2.1)) (g := fun r => r.1) (by omega) fun x _ => rfl]
  rfl
end K10
namespace K10
open PySem L2 Pw
theorem reuse_ok {s : Int × List Call} (h : VS s) {T : Tab} {d : Int → Int → Int} (t : TabOk s T d) {W : List Int} (hW : VW s W) {m : Int} (h1 : ∃ x ∈ RS s, m = wat W x + d x 0 + d 0 x) (h2 : ∀ x ∈ RS s, wat W x + d x 0 + d 0 x ≤ m) : m_least_reuse_time s W = some (m + 1) := by
  unfold m_least_reuse_time
  rw [cw_ok h hW, Option.bind_some, spans_ok h t hW, Option.bind_some]
  have e : List.map (fun (z : Int × Int) => z.2) (spans s d W) = (RS s).map fun x => wat W x + d x 0 - -(d 0 x) := by unfold spans; rw [List.map_map]; rfl
  rw [e, maxI_of (m := m)]
  · rfl
  · obtain ⟨x, hx, q⟩ := h1
    exact List.mem_map.mpr ⟨x, hx, by omega⟩
  · intro y hy
    obtain ⟨x, hx, rfl⟩ := List.mem_map.mp hy
    have := h2 x hx
    omega
end K10
namespace K10
open PySem L2 Pw
theorem call_ok {d : Dice} {n m : Int} (hd : DI d) (h1 : 2 ≤ n) (h2 : n ≤ 8) (h3 : 0 ≤ m) (h4 : m ≤ 99) : ∃ c d', m__law_call d n m = some (c, d') ∧ VC n c ∧ DI d' := by
  unfold m__law_call
  obtain ⟨r1, d1, e1, a1, b1, hd1⟩ := next_ok (n := n - 1) hd (by omega) (by omega)
  rw [e1]
  rw [Option.bind_some]
  obtain ⟨r2, d2, e2, a2, b2, hd2⟩ := next_ok (n := n - 1 - r1) hd1 (by omega) (by omega)
  rw [show m__law_next (r1, d1).2 (n - 1 - (r1, d1).1) = some (r2, d2) from e2]
  rw [Option.bind_some]
  obtain ⟨r3, d3, e3, a3, b3, hd3⟩ := next_ok (n := 4) hd2 (by omega) (by omega)
  rw [show m__law_next (r2, d2).2 4 = some (r3, d3) from e3]
  rw [Option.bind_some]
  rw [rngO_small (by decide) (by decide) (by show -1000 ≤ 1 + r3; omega) (by show 1 + r3 ≤ 1000; omega)]
  rw [Option.bind_some]
  obtain ⟨ys, d4, e4, hd4, l4, b4⟩ := compSL_ok (α := Int) DI (fun y : Int => 0 ≤ y ∧ y ≤ 99) (f := fun (s6 : Dice) (x5 : Int) => (m__law_next s6 (m + (1 : Int))).bind fun r7 => some (some r7.1, r7.2)) (fun s x hs => by
    obtain ⟨r, d', e, a, b, hd'⟩ := next_ok (n := m + 1) hs (by omega) (by omega)
    exact ⟨r, d', by show (m__law_next s (m + 1)).bind _ = _; rw [e]; rfl, hd', by omega, by omega⟩) (rng 0 (1 + r3 - 0).toNat) d3 hd3
  rw [rng_len] at l4
  rw [show compS (fun (s6 : Dice) (x5 : Int) => (m__law_next s6 (m + (1 : Int))).bind fun r7 => some (some r7.1, r7.2)) (rng 0 (1 + (r3, d3).1 - 0).toNat) (r3, d3).2 = some (ys, d4) by
    unfold compS
    rw [if_pos (by rw [rng_len]; show (1 + r3 - 0).toNat ≤ _; omega)]
    exact e4]
  rw [Option.bind_some]
  rw [show ssetO (ys, d4).1 = some (ssetI ys) by unfold ssetO; rw [if_pos (show ys.length ≤ 60 by omega)]]
  rw [Option.bind_some]
  obtain ⟨r5, d5, e5, a5, b5, hd5⟩ := next_ok (n := m + 1) hd4 (by omega) (by omega)
  rw [show m__law_next (ys, d4).2 (m + 1) = some (r5, d5) from e5]
  rw [Option.bind_some]
  obtain ⟨r6, d6, e6, a6, b6, hd6⟩ := next_ok (n := m + 1 - r5) hd5 (by omega) (by omega)
  rw [show m__law_next (r5, d5).2 (m + 1 - (r5, d5).1) = some (r6, d6) from e6]
  have hne : ys ≠ [] := fun z => by rw [z] at l4; simp at l4; omega
  refine ⟨_, _, rfl, ⟨a1, by show r1 < r1 + 1 + r2; omega, by show r1 + 1 + r2 < n; omega, ⟨(sset_len ys).2 hne, ?_, up_sset ys, fun x hx => b4 x ((mem_sset x ys).mp hx)⟩, a5, by show r5 ≤ r5 + r6; omega, by show r5 + r6 ≤ 99; omega⟩, hd6⟩
  have := (sset_len ys).1
  show (ssetI ys).length ≤ 4
  omega
theorem system_ok {d : Dice} {a q m : Int} (hd : DI d) (ha : 1 ≤ a) (ha8 : a ≤ 8) (hq : 0 ≤ q) (hq2 : q ≤ 20) (h3 : 0 ≤ m) (h4 : m ≤ 99) : ∃ s d', m__law_system d a q m = some (s, d') ∧ VS s ∧ s.1 ≤ a ∧ (s.2.length : Int) ≤ q ∧ DI d' := by
  unfold m__law_system
  obtain ⟨r1, d1, e1, a1, b1, hd1⟩ := next_ok (n := a) hd (by omega) (by omega)
  rw [e1]
  rw [Option.bind_some]
  have hy : ∃ k d2, (if (decide ((1 : Int) < ((1 : Int) + r1))) = true then (m__law_next d1 (q + (1 : Int))).bind fun r2 => some (r2.1, r2.2) else some ((0 : Int), d1)) = some (k, d2) ∧ DI d2 ∧ 0 ≤ k ∧ k ≤ q ∧ (r1 = 0 → k = 0) := by
    by_cases c : (1 : Int) < 1 + r1
    · rw [if_pos (decide_eq_true c)]
      obtain ⟨k, d2, e2, a2, b2, hd2⟩ := next_ok (n := q + 1) hd1 (by omega) (by omega)
      rw [e2]
      exact ⟨k, d2, rfl, hd2, a2, by omega, by omega⟩
    · rw [if_neg (by simpa using c)]
      exact ⟨0, d1, rfl, hd1, by omega, by omega, fun _ => rfl⟩
  obtain ⟨k, d2, e2, hd2, a2, b2, c2⟩ := hy
  rw [show (if (decide ((1 : Int) < ((1 : Int) + (r1, d1).1))) = true then (m__law_next (r1, d1).2 (q + (1 : Int))).bind fun r2 => some (r2.1, r2.2) else some ((0 : Int), (r1, d1).2)) = some (k, d2) from e2]
  rw [Option.bind_some]
  rw [rngO_small (by decide) (by decide) (by show -1000 ≤ k; omega) (by show k ≤ 1000; omega)]
  rw [Option.bind_some]
  have fold : ∀ (xs : List Int) (cs : List Call) (d : Dice), (xs ≠ [] → r1 ≠ 0) → DI d → (cs.length : Int) + xs.length ≤ q → (∀ c ∈ cs, VC (1 + r1) c) → ∃ cs' d', xs.foldlM (fun (s6 : ((List (Int × Int × (List Int) × Int × Int)) × ((List Int) × Int × Int × Int))) (x5 : Int) => (m__law_call s6.2 ((1 : Int) + r1) m).bind fun r8 => (okL (List.length s6.1)).bind fun x9 => some ((s6.1 ++ [r8.1]), r8.2)) (cs, d) = some (cs', d') ∧ DI d' ∧ (cs'.length : Int) ≤ q ∧ ∀ c ∈ cs', VC (1 + r1) c := by
    intro xs
    induction xs with
    | nil => exact fun cs d _ h1 h2 h3 => ⟨cs, d, rfl, h1, by simpa using h2, h3⟩
    | cons x xs ih =>
      intro cs d h0 h1 h2 h3
      have := h0 (by simp)
      obtain ⟨c, d', e, vc, hd'⟩ := call_ok (n := 1 + r1) (m := m) h1 (by omega) (by omega) (by omega) h4
      rw [List.foldlM_cons]
      rw [show ((m__law_call (cs, d).2 ((1 : Int) + r1) m).bind fun r8 => (okL (List.length (cs, d).1)).bind fun x9 => some (((cs, d).1 ++ [r8.1]), r8.2)) = some (cs ++ [c], d') by
        show (m__law_call d ((1 : Int) + r1) m).bind _ = _
        rw [e]
        show (okL cs.length).bind _ = _
        rw [okL_small (by simp at h2; omega)]
        rfl]
      refine ih (cs ++ [c]) d' (fun _ => this) hd' (by simp at h2 ⊢; omega) fun c' hc' => ?_
      rcases List.mem_append.mp hc' with z | z
      · exact h3 c' z
      · rw [List.mem_singleton.mp z]; exact vc
  obtain ⟨cs, d3, e3, hd3, l3, v3⟩ := fold (rng 0 (k - 0).toNat) [] d2 (fun z y => z (List.eq_nil_of_length_eq_zero (by rw [rng_len, c2 y]; rfl))) hd2 (by rw [rng_len]; simp; omega) (fun c hc => by cases hc)
  rw [show (rng 0 ((k, d2).1 - 0).toNat).foldlM (fun (s6 : ((List (Int × Int × (List Int) × Int × Int)) × ((List Int) × Int × Int × Int))) (x5 : Int) => (m__law_call s6.2 ((1 : Int) + (r1, d1).1) m).bind fun r8 => (okL (List.length s6.1)).bind fun x9 => some ((s6.1 ++ [r8.1]), r8.2)) (([] : List (Int × Int × (List Int) × Int × Int)), (k, d2).2) = some (cs, d3) from e3]
  exact ⟨_, _, rfl, ⟨by show 1 ≤ 1 + r1; omega, by show 1 + r1 ≤ 8; omega, v3, by show cs.length ≤ 20; omega⟩, by show 1 + r1 ≤ a; omega, l3, hd3⟩
end K10
namespace K10
open PySem L2 Pw
abbrev Arv := Int × Int × Int × Int × Int × Int
abbrev Evt := Int × Int × Int × Bool
abbrev Cnt := List (List Int × Int)
abbrev QS := List Arv × List Evt × List (Int × Int) × Cnt
def more : QS → Option Bool := (fun (s5 : ((List (Int × Int × Int × Int × Int × Int)) × (List (Int × Int × Int × Bool)) × (List (Int × Int)) × (List (List Int × Int)))) => some (!List.isEmpty s5.1))
def turn (a0 : Int × List Call) (a1 : List Int) (a3 : List Ent) : QS → Option QS := (fun (s5 : ((List (Int × Int × Int × Int × Int × Int)) × (List (Int × Int × Int × Bool)) × (List (Int × Int)) × (List (List Int × Int)))) => (minO (fun (k7 : (Int × Int × Int × Int × Int × Int)) => [k7.1, k7.2.1, k7.2.2.1, k7.2.2.2.1, k7.2.2.2.2.1, k7.2.2.2.2.2]) s5.1).bind fun x8 => (compO (fun (x9 : (Int × Int × Int × Int × Int × Int)) => if (!decide ([x9.1, x9.2.1, x9.2.2.1, x9.2.2.2.1, x9.2.2.2.2.1, x9.2.2.2.2.2] = [x8.1, x8.2.1, x8.2.2.1, x8.2.2.2.1, x8.2.2.2.2.1, x8.2.2.2.2.2])) = true then some (some x9) else some none) s5.1).bind fun ys10 => (okL (List.length s5.2.1)).bind fun x11 => if (decide (((getA s5.2.2.1 x8.2.1).getD (-(1 : Int))) < x8.1)) = true then ((atI a1 x8.2.1).bind fun x12 => (okL (List.length s5.2.2.1)).bind fun x13 => (okL (List.length s5.2.2.2)).bind fun x14 => (List.foldlM (fun (s16 : ((List (Int × Int × Int × Int × Int × Int)))) (x15 : (Int × Int × Int × Int × Int)) => (if (decide (x15.1 = x8.2.2.1)) = true then (if (decide (x15.2.1 = ((getA s5.2.2.2 [x8.2.1, x8.2.2.1]).getD (0 : Int)))) = true then (atI a0.2 x15.2.2.1).bind fun x18 => some (decide (x18.1 = x8.2.1)) else some false).bind fun c19 => some c19 else some false).bind fun c20 => if c20 = true then ((atI a0.2 x15.2.2.1).bind fun x21 => (atI x21.2.2.1 x15.2.2.2.1).bind fun x22 => (atI a0.2 x15.2.2.1).bind fun x23 => (okL (List.length s16)).bind fun x24 => some (s16 ++ [(((x8.1 + x22) + x15.2.2.2.2), x23.2.1, x8.2.2.1, ((getA s5.2.2.2 [x8.2.1, x8.2.2.1]).getD (0 : Int)), x15.2.2.1, x15.2.2.2.1)])) else (some s16)) ys10 a3).bind fun y25 => some (y25, (s5.2.1 ++ [(x8.1, x8.2.1, x8.2.2.1, (decide (((getA s5.2.2.1 x8.2.1).getD (-(1 : Int))) < x8.1)))]), (putA s5.2.2.1 x8.2.1 (x8.1 + x12)), (putA s5.2.2.2 [x8.2.1, x8.2.2.1] (((getA s5.2.2.2 [x8.2.1, x8.2.2.1]).getD (0 : Int)) + (1 : Int))))) else (some (ys10, (s5.2.1 ++ [(x8.1, x8.2.1, x8.2.2.1, (decide (((getA s5.2.2.1 x8.2.1).getD (-(1 : Int))) < x8.1)))]), s5.2.2.1, s5.2.2.2)))
end K10
namespace K10
open PySem L2 Pw
/-! ### the player tick by tick: any windows, two requests, schedules of first acts -/
theorem mem_rng0 {n : Nat} {x : Int} : x ∈ rng 0 n ↔ ∃ j : Nat, j < n ∧ x = (j : Int) := by
  unfold rng
  constructor
  · intro h
    obtain ⟨j, hj, e⟩ := List.mem_map.mp h
    exact ⟨j, List.mem_range.mp hj, by rw [← e]; omega⟩
  · rintro ⟨j, hj, rfl⟩
    exact List.mem_map.mpr ⟨j, List.mem_range.mpr hj, by omega⟩
theorem fold_app {α β : Type} {f : List β → α → Option (List β)} {g : α → List β} {c M : Nat} : ∀ (xs : List α) (s : List β), (∀ x ∈ xs, (g x).length ≤ c) → (∀ x ∈ xs, ∀ s : List β, s.length ≤ M → f s x = some (s ++ g x)) → s.length + c * xs.length ≤ M → xs.foldlM f s = some (s ++ xs.flatMap g)
  | [], s, _, _, _ => by simp
  | x :: xs, s, h1, h2, h3 => by
    rw [List.length_cons, Nat.mul_succ] at h3
    have hx := h1 x (by simp)
    rw [List.foldlM_cons, h2 x (by simp) s (by omega)]
    show xs.foldlM f (s ++ g x) = _
    rw [fold_app xs (s ++ g x) (fun y hy => h1 y (by simp [hy])) (fun y hy => h2 y (by simp [hy])) (by rw [List.length_append]; omega), List.flatMap_cons, List.append_assoc]
theorem flat_len {α β : Type} {g : α → List β} {c : Nat} : ∀ xs : List α, (∀ x ∈ xs, (g x).length ≤ c) → (xs.flatMap g).length ≤ c * xs.length
  | [], _ => by simp
  | x :: xs, h => by
    have := flat_len xs (fun y hy => h y (by simp [hy]))
    have := h x (by simp)
    rw [List.flatMap_cons, List.length_append, List.length_cons, Nat.mul_succ]
    omega
theorem ixN_nat' {n j : Nat} (hj : j < n) : ixN n (j : Int) = some j := by
  unfold ixN
  rw [if_pos (by omega), if_pos (by omega)]
  rfl
def wt (W : List Int) (x : Int) : Int := (atI W x).getD 0
def Tr (R r : Int) : Int := if r = 1 then R else 0
def al (E : List Evt) (x : Int) : List (Int × Int) := E.filterMap fun e => if ((decide (e.2.1 = x)) && e.2.2.2) = true then some (e.1, e.2.2.1) else none
def ar (r : Int) (E : List Evt) (x : Int) : List Int := ((al E x).filter fun z => decide (z.2 = r)).map (·.1)
def Ev1 (E : List Evt) (t x r : Int) : Prop := ∃ e ∈ E, e.1 = t ∧ e.2.1 = x ∧ e.2.2.1 = r
structure EntR (cs : List Call) (e : Ent) : Prop where
  ex : ∃ (r : Int) (j : Nat) (c : Call) (q dl o : Int), (r = 0 ∨ r = 1) ∧ e = (r, 0, (j : Int), q, dl) ∧ cs[j]? = some c ∧ atI c.2.2.1 q = some o ∧ 0 ≤ q ∧ q < (c.2.2.1.length : Int) ∧ c.2.2.2.1 ≤ dl ∧ dl ≤ c.2.2.2.2 ∧ 0 ≤ o ∧ o ≤ 99 ∧ 0 ≤ dl
def Mr (s : Int × List Call) (L : List Ent) (r : Int) (c : Call) (w : Int) : Prop := ∃ (j : Nat) (q o d : Int), s.2[j]? = some c ∧ atI c.2.2.1 q = some o ∧ ((r, 0, (j : Int), q, d) : Ent) ∈ L ∧ w = o + d
structure Arr3 (s : Int × List Call) (L : List Ent) (R : Int) (E : List Evt) (t x r : Int) : Prop where
  x0 : 0 ≤ x
  x1 : x < s.1
  t0 : 0 ≤ t
  r2 : r = 0 ∨ r = 1
  src : (x = 0 ∧ t = Tr R r) ∨ ∃ c w tc, Mr s L r c w ∧ (ar r E c.1).head? = some tc ∧ c.2.1 = x ∧ t = tc + w
def keys12 : List (List Int) := (rng 0 6).flatMap fun x => [[x, 0], [x, 1]]
def cq (A : Cnt) : Nat := keys12.countP fun k => (getA A k).isSome
structure Inv3 (s : Int × List Call) (L : List Ent) (W : List Int) (R : Int) (σ : QS) : Prop where
  ms : σ.2.1.length + (81 * (12 - cq σ.2.2.2) + σ.1.length) ≤ 974
  lm : σ.2.2.1.length ≤ σ.2.1.length
  ln : σ.2.2.2.length ≤ σ.2.1.length
  kk : ∀ x, 0 ≤ x → x < s.1 → getA σ.2.2.1 x = (al σ.2.1 x).getLast?.map fun z => z.1 + wt W x
  an : ∀ x r, 0 ≤ x → x < s.1 → (ar r σ.2.1 x = [] → getA σ.2.2.2 [x, r] = none) ∧ (ar r σ.2.1 x ≠ [] → ∃ m, getA σ.2.2.2 [x, r] = some m ∧ 1 ≤ m)
  pd : ∀ p ∈ σ.1, Arr3 s L R σ.2.1 p.1 p.2.1 p.2.2.1
  es : ∀ e ∈ σ.2.1, Arr3 s L R σ.2.1 e.1 e.2.1 e.2.2.1
  cl : ∀ r c w tc, Mr s L r c w → (ar r σ.2.1 c.1).head? = some tc → Ev1 σ.2.1 (tc + w) c.2.1 r ∨ ∃ p ∈ σ.1, p.1 = tc + w ∧ p.2.1 = c.2.1 ∧ p.2.2.1 = r
  rt : ∀ r, r = 0 ∨ r = 1 → Ev1 σ.2.1 (Tr R r) 0 r ∨ ∃ p ∈ σ.1, p.1 = Tr R r ∧ p.2.1 = 0 ∧ p.2.2.1 = r
  ig : ∀ E1 e E2, σ.2.1 = E1 ++ e :: E2 → e.2.2.2 = false → ∃ z ∈ al E1 e.2.1, z.1 ≤ e.1 ∧ e.1 ≤ z.1 + wt W e.2.1 ∧ (z.1 = e.1 → z.2 ≤ e.2.2.1)
  pw : ∀ x, 0 ≤ x → x < s.1 → (al σ.2.1 x).Pairwise fun a b => a.1 + wt W x < b.1
  od : ∀ p ∈ σ.1, ∀ x, ∀ z ∈ al σ.2.1 x, z.1 < p.1 ∨ (z.1 = p.1 ∧ (x < p.2.1 ∨ (x = p.2.1 ∧ z.2 ≤ p.2.2.1)))
/-! the least of the arrivals -/
def k6 (k7 : Arv) : List Int := [k7.1, k7.2.1, k7.2.2.1, k7.2.2.2.1, k7.2.2.2.2.1, k7.2.2.2.2.2]
def le3 (a b : Arv) : Prop := a.1 < b.1 ∨ (a.1 = b.1 ∧ (a.2.1 < b.2.1 ∨ (a.2.1 = b.2.1 ∧ a.2.2.1 ≤ b.2.2.1)))
theorem le3_refl (a : Arv) : le3 a a := by unfold le3; omega
theorem le3_trans {a b c : Arv} (h : le3 a b) (h2 : le3 b c) : le3 a c := by unfold le3 at *; omega
theorem lexI_step {a b : Int} {xs ys : List Int} : lexI (a :: xs) (b :: ys) = if a = b then lexI xs ys else decide (a < b) := by
  rw [lexI]
theorem k6_lt (a b : Arv) : (lexI (k6 a) (k6 b) = true → le3 a b) ∧ (¬ lexI (k6 a) (k6 b) = true → le3 b a) := by
  unfold k6 le3
  rw [lexI_step]
  by_cases e1 : a.1 = b.1
  · rw [if_pos e1, lexI_step]
    by_cases e2 : a.2.1 = b.2.1
    · rw [if_pos e2, lexI_step]
      by_cases e3 : a.2.2.1 = b.2.2.1
      · exact ⟨fun _ => by omega, fun _ => by omega⟩
      · rw [if_neg e3, decide_eq_true_eq]
        exact ⟨fun h => by omega, fun h => by omega⟩
    · rw [if_neg e2, decide_eq_true_eq]
      exact ⟨fun h => by omega, fun h => by omega⟩
  · rw [if_neg e1, decide_eq_true_eq]
    exact ⟨fun h => by omega, fun h => by omega⟩
theorem minT_le3 : ∀ (r : List Arv) (x : Arv), minT k6 x r ∈ x :: r ∧ le3 (minT k6 x r) x ∧ ∀ y ∈ r, le3 (minT k6 x r) y := by
  intro r
  induction r with
  | nil => exact fun x => ⟨by unfold minT; simp, le3_refl _, fun y hy => by cases hy⟩
  | cons a r ih =>
    intro x
    unfold minT at ih ⊢
    rw [List.foldl_cons]
    by_cases c : lexI (k6 a) (k6 x) = true
    · rw [if_pos c]
      obtain ⟨i0, i1, i2⟩ := ih a
      have q := (k6_lt a x).1 c
      refine ⟨List.mem_cons_of_mem _ i0, le3_trans i1 q, fun y hy => ?_⟩
      rcases List.mem_cons.mp hy with z | z
      · rw [z]; exact i1
      · exact i2 y z
    · rw [if_neg c]
      obtain ⟨i0, i1, i2⟩ := ih x
      have q := (k6_lt a x).2 c
      refine ⟨?_, i1, fun y hy => ?_⟩
      · rcases List.mem_cons.mp i0 with z | z
        · rw [z]; exact List.mem_cons_self ..
        · exact List.mem_cons_of_mem _ (List.mem_cons_of_mem _ z)
      · rcases List.mem_cons.mp hy with z | z
        · rw [z]; exact le3_trans i1 q
        · exact i2 y z
theorem min_ok {P : List Arv} (h : P ≠ []) : ∃ p ∈ P, minO k6 P = some p ∧ ∀ y ∈ P, le3 p y := by
  cases P with
  | nil => exact absurd rfl h
  | cons x r =>
    obtain ⟨i0, i1, i2⟩ := minT_le3 r x
    refine ⟨_, i0, rfl, fun y hy => ?_⟩
    rcases List.mem_cons.mp hy with z | z
    · rw [z]; exact i1
    · exact i2 y z
/-! what is sent -/
def gS (s : Int × List Call) (x r n t : Int) (e : Ent) : List Arv := match atI s.2 e.2.2.1 with
  | some c => if e.1 = r ∧ e.2.1 = n ∧ c.1 = x then (match atI c.2.2.1 e.2.2.2.1 with
    | some o => [(t + o + e.2.2.2.2, c.2.1, r, n, e.2.2.1, e.2.2.2.1)]
    | none => []) else []
  | none => []
theorem gS_len {s : Int × List Call} {x r n t : Int} {e : Ent} : (gS s x r n t e).length ≤ 1 := by
  unfold gS
  split
  · split
    · split <;> simp
    · simp
  · simp
theorem of_gS {s : Int × List Call} {L : List Ent} (hL : ∀ e ∈ L, EntR s.2 e) {x r n t : Int} {y : Arv} (h : y ∈ L.flatMap (gS s x r n t)) : n = 0 ∧ ∃ c w, Mr s L r c w ∧ c.1 = x ∧ y.1 = t + w ∧ y.2.1 = c.2.1 ∧ y.2.2.1 = r := by
  obtain ⟨e, he, h⟩ := List.mem_flatMap.mp h
  obtain ⟨r', j, c, q, dl, o, _, rfl, ec, eo, _⟩ := (hL e he).ex
  unfold gS at h
  rw [show atI s.2 ((r', 0, (j : Int), q, dl) : Ent).2.2.1 = some c from atI_nat ec] at h
  dsimp only at h
  by_cases g : r' = r ∧ (0 : Int) = n ∧ c.1 = x
  · rw [if_pos g, eo] at h
    obtain ⟨g1, g2, g3⟩ := g
    subst g1 g2
    have h := List.mem_singleton.mp h
    subst h
    exact ⟨rfl, c, o + dl, ⟨j, q, o, dl, ec, eo, he, rfl⟩, g3, by show t + o + dl = t + (o + dl); omega, rfl, rfl⟩
  · rw [if_neg g] at h
    cases h
theorem in_gS {s : Int × List Call} {L : List Ent} {x r t w : Int} {c : Call} (h : Mr s L r c w) (hc : c.1 = x) : ∃ y ∈ L.flatMap (gS s x r 0 t), y.1 = t + w ∧ y.2.1 = c.2.1 ∧ y.2.2.1 = r := by
  obtain ⟨j, q, o, d, ec, eo, he, ew⟩ := h
  refine ⟨(t + o + d, c.2.1, r, 0, (j : Int), q), List.mem_flatMap.mpr ⟨_, he, ?_⟩, by show t + o + d = t + w; omega, rfl, rfl⟩
  unfold gS
  rw [show atI s.2 ((r, 0, (j : Int), q, d) : Ent).2.2.1 = some c from atI_nat ec]
  dsimp only
  rw [if_pos ⟨rfl, rfl, hc⟩, eo]
  exact List.mem_singleton.mpr rfl
theorem sendL_ok {s : Int × List Call} {L : List Ent} (hL : ∀ e ∈ L, EntR s.2 e) (hl : L.length ≤ 80) {x r n t : Int} {P : List Arv} (hP : P.length ≤ 1000) : L.foldlM (fun (s16 : List Arv) (x15 : Ent) => (if (decide (x15.1 = r)) = true then (if (decide (x15.2.1 = n)) = true then (atI s.2 x15.2.2.1).bind fun x18 => some (decide (x18.1 = x)) else some false).bind fun c19 => some c19 else some false).bind fun c20 => if c20 = true then ((atI s.2 x15.2.2.1).bind fun x21 => (atI x21.2.2.1 x15.2.2.2.1).bind fun x22 => (atI s.2 x15.2.2.1).bind fun x23 => (okL (List.length s16)).bind fun x24 => some (s16 ++ [(((t + x22) + x15.2.2.2.2), x23.2.1, r, n, x15.2.2.1, x15.2.2.2.1)])) else (some s16)) P = some (P ++ L.flatMap (gS s x r n t)) := by
  refine fold_app (g := gS s x r n t) (c := 1) (M := 2000) L P (fun _ _ => gS_len) (fun e he b hb => ?_) (by omega)
  obtain ⟨r', j, c, q, dl, o, _, rfl, ec, eo, _⟩ := (hL e he).ex
  have a1 : atI s.2 (j : Int) = some c := atI_nat ec
  unfold gS
  dsimp only
  rw [a1]
  dsimp only
  by_cases g1 : r' = r
  · rw [if_pos (decide_eq_true g1)]
    by_cases g2 : (0 : Int) = n
    · rw [if_pos (decide_eq_true g2), Option.bind_some, Option.bind_some, Option.bind_some]
      by_cases g3 : c.1 = x
      · rw [if_pos (decide_eq_true g3), Option.bind_some, eo, Option.bind_some, Option.bind_some, okL_small (by omega), Option.bind_some, if_pos ⟨g1, g2, g3⟩]
      · rw [if_neg (by simpa using g3), if_neg (fun z => g3 z.2.2), List.append_nil]
    · rw [if_neg (by simpa using g2), Option.bind_some, Option.bind_some, if_neg (by decide), if_neg (fun z => g2 z.2.1), List.append_nil]
  · rw [if_neg (by simpa using g1), Option.bind_some, if_neg (by decide), if_neg (fun z => g1 z.1), List.append_nil]
end K10
namespace K10
open PySem L2 Pw
theorem Arr3.mono {s : Int × List Call} {L : List Ent} {R : Int} {E E' : List Evt} {t x r : Int} (h : Arr3 s L R E t x r) (hE : ∀ r y tc, (ar r E y).head? = some tc → (ar r E' y).head? = some tc) : Arr3 s L R E' t x r :=
  ⟨h.x0, h.x1, h.t0, h.r2, h.src.imp id fun ⟨c, w, tc, h1, h2, h3, h4⟩ => ⟨c, w, tc, h1, hE _ _ _ h2, h3, h4⟩⟩
theorem al_app {E : List Evt} {e : Evt} {x : Int} : al (E ++ [e]) x = al E x ++ (if ((decide (e.2.1 = x)) && e.2.2.2) = true then [(e.1, e.2.2.1)] else []) := by
  unfold al
  rw [List.filterMap_append]
  congr 1
  rw [List.filterMap_cons]
  split <;> rename_i g <;> split at g <;> simp_all
theorem al_no {E : List Evt} {t x r : Int} (y : Int) : al (E ++ [(t, x, r, false)]) y = al E y := by
  rw [al_app, if_neg (by simp), List.append_nil]
theorem ar_no {E : List Evt} {t x r : Int} (r' y : Int) : ar r' (E ++ [(t, x, r, false)]) y = ar r' E y := by
  unfold ar; rw [al_no]
theorem al_yes {E : List Evt} {t x r : Int} (y : Int) : al (E ++ [(t, x, r, true)]) y = al E y ++ if y = x then [(t, r)] else [] := by
  rw [al_app]
  by_cases e : y = x
  · rw [if_pos (by simp [e]), if_pos e]
  · rw [if_neg (by simp; exact fun z => e z.symm), if_neg e]
theorem ar_yes {E : List Evt} {t x r : Int} (r' y : Int) : ar r' (E ++ [(t, x, r, true)]) y = ar r' E y ++ if y = x ∧ r = r' then [t] else [] := by
  unfold ar
  rw [al_yes, List.filter_append, List.map_append]
  congr 1
  by_cases e : y = x
  · by_cases e2 : r = r'
    · rw [if_pos e, if_pos ⟨e, e2⟩, List.filter_cons, if_pos (by simp [e2])]; rfl
    · rw [if_pos e, if_neg (fun z => e2 z.2), List.filter_cons, if_neg (by simp [e2])]; rfl
  · rw [if_neg e, if_neg (fun z => e z.1)]; rfl
theorem split_last {E E1 E2 : List Evt} {e e' : Evt} (h : E ++ [e'] = E1 ++ e :: E2) : (E2 = [] ∧ E1 = E ∧ e = e') ∨ ∃ E3, E2 = E3 ++ [e'] ∧ E = E1 ++ e :: E3 := by
  cases g : E2.reverse with
  | nil =>
    have g : E2 = [] := by simpa using g
    subst g
    obtain ⟨h1, h2⟩ := List.append_inj' h rfl
    exact .inl ⟨rfl, h1.symm, (List.cons.inj h2).1.symm⟩
  | cons a r =>
    have g : E2 = r.reverse ++ [a] := by
      have := congrArg List.reverse g
      simpa using this
    subst g
    rw [show E1 ++ e :: (r.reverse ++ [a]) = (E1 ++ e :: r.reverse) ++ [a] by simp] at h
    obtain ⟨h1, h2⟩ := List.append_inj' h rfl
    exact .inr ⟨r.reverse, by rw [(List.cons.inj h2).1], h1⟩
theorem cq_le (A : Cnt) : cq A ≤ 12 := by
  have := List.countP_le_length (p := fun k => (getA A k).isSome) (l := keys12)
  have : keys12.length = 12 := by decide
  unfold cq
  omega
theorem countP_put {κ α : Type} [DecidableEq κ] {A : List (κ × α)} {k : κ} {v : α} : ∀ ks : List κ, ks.Nodup → k ∈ ks → getA A k = none → (ks.countP fun x => (getA (putA A k v) x).isSome) = (ks.countP fun x => (getA A x).isSome) + 1
  | [], _, h, _ => by cases h
  | x :: xs, nd, h, g => by
    have nd' := List.nodup_cons.mp nd
    rw [List.countP_cons, List.countP_cons]
    by_cases e : x = k
    · subst e
      have same : ∀ l : List κ, x ∉ l → (l.countP fun y => (getA (putA A x v) y).isSome) = (l.countP fun y => (getA A y).isSome) := fun l hl => List.countP_congr fun y hy => by
        have hne : y ≠ x := fun z => hl (by rw [← z]; exact hy)
        rw [get_put_ne hne]
      rw [same xs nd'.1, get_put, g]
      simp
    · have i := countP_put xs nd'.2 (by cases h with | head => exact absurd rfl e | tail _ z => exact z) g (v := v)
      rw [i, get_put_ne e]
      omega
theorem cq_new {A : Cnt} {x r m : Int} (x0 : 0 ≤ x) (x1 : x < 6) (hr : r = 0 ∨ r = 1) (g : getA A [x, r] = none) : cq (putA A [x, r] m) = cq A + 1 := by
  refine countP_put keys12 (by decide) ?_ g
  unfold keys12
  refine List.mem_flatMap.mpr ⟨x, mem_rng0.mpr ⟨x.toNat, by omega, by omega⟩, ?_⟩
  rcases hr with q | q <;> subst q <;> simp
theorem cq_old {A : Cnt} {k : List Int} {m v : Int} (g : getA A k = some v) : cq (putA A k m) = cq A := by
  unfold cq
  refine List.countP_congr fun y _ => ?_
  by_cases e : y = k
  · rw [e, get_put, g]; simp
  · rw [get_put_ne e]
theorem act_inv3 {s : Int × List Call} (h : VS s) {L : List Ent} {W : List Int} {R : Int} (hw0 : ∀ x, 0 ≤ x → x < s.1 → 0 ≤ wt W x) (hd : ∀ r c w, Mr s L r c w → 0 ≤ w) {P Q S : List Arv} {E : List Evt} {M : List (Int × Int)} {A : Cnt} (I : Inv3 s L W R (P, E, M, A)) {t k rq m2 m3 m4 m' : Int}
    (hp : (t, k, rq, m2, m3, m4) ∈ P) (pl : Q.length + 1 ≤ P.length) (qm : ∀ y ∈ Q, y ∈ P) (qk : ∀ y ∈ P, y ≠ (t, k, rq, m2, m3, m4) → y ∈ Q) (mn : ∀ y ∈ P, le3 (t, k, rq, m2, m3, m4) y)
    (hS : ∀ y ∈ S, ar rq E k = [] ∧ ∃ c w, Mr s L rq c w ∧ c.1 = k ∧ y.1 = t + w ∧ y.2.1 = c.2.1 ∧ y.2.2.1 = rq) (hS2 : ar rq E k = [] → ∀ c w, Mr s L rq c w → c.1 = k → ∃ y ∈ S, y.1 = t + w ∧ y.2.1 = c.2.1 ∧ y.2.2.1 = rq)
    (hm : 1 ≤ m') (hwin : ∀ z, (al E k).getLast? = some z → z.1 + wt W k < t) (hc : 81 * (12 - cq (putA A [k, rq] m')) + S.length ≤ 81 * (12 - cq A)) :
    Inv3 s L W R (Q ++ S, E ++ [(t, k, rq, true)], putA M k (t + wt W k), putA A [k, rq] m') := by
  obtain ⟨ms, lm, ln, kk, an, pd, es, cl, rt, ig, pw, od⟩ := I
  dsimp only at ms lm ln kk an pd es cl rt ig pw od
  have vcs : ∀ r c w, Mr s L r c w → VC s.1 c := fun r c w ⟨j, q, o, d, e, _⟩ => h.cs c (List.mem_of_getElem? e)
  have pa := pd _ hp
  have x0 : 0 ≤ k := pa.x0
  have x1 : k < s.1 := pa.x1
  have t0 : 0 ≤ t := pa.t0
  have r2 : rq = 0 ∨ rq = 1 := pa.r2
  have keep : ∀ u y r, (∃ p ∈ P, p.1 = u ∧ p.2.1 = y ∧ p.2.2.1 = r) → (u = t ∧ y = k ∧ r = rq) ∨ ∃ p ∈ Q, p.1 = u ∧ p.2.1 = y ∧ p.2.2.1 = r := fun u y r ⟨p, g1, g2, g3, g4⟩ => by
    by_cases e : p = (t, k, rq, m2, m3, m4)
    · rw [e] at g2 g3 g4
      exact .inl ⟨g2.symm, g3.symm, g4.symm⟩
    · exact .inr ⟨p, qk p g1 e, g2, g3, g4⟩
  have evn : ∀ u y r, u = t → y = k → r = rq → Ev1 (E ++ [((t, k, rq, true) : Evt)]) u y r := fun u y r h1 h2 h3 => ⟨_, List.mem_append_right _ (List.mem_singleton.mpr rfl), h1.symm, h2.symm, h3.symm⟩
  have evo : ∀ u y r, Ev1 E u y r → Ev1 (E ++ [((t, k, rq, true) : Evt)]) u y r := fun u y r ⟨e, g1, g2⟩ => ⟨e, List.mem_append_left _ g1, g2⟩
  have up : ∀ r y tc, (ar r E y).head? = some tc → (ar r (E ++ [((t, k, rq, true) : Evt)]) y).head? = some tc := fun r y tc g => by
    rw [ar_yes, List.head?_append, g]
    rfl
  refine ⟨?_, ?_, ?_, fun x y0 y1 => ?_, fun x r y0 y1 => ?_, fun p hp' => ?_, fun e he => ?_, fun r c w tc g1 g2 => ?_, fun r hr => ?_, fun E1 e E2 he hf => ?_, fun x y0 y1 => ?_, fun p hp' x z hz => ?_⟩
  · dsimp only
    rw [List.length_append, List.length_append, List.length_singleton]
    omega
  · dsimp only
    have := putA_len (l := M) (k := k) (v := t + wt W k)
    rw [List.length_append, List.length_singleton]
    omega
  · dsimp only
    have := putA_len (l := A) (k := [k, rq]) (v := m')
    rw [List.length_append, List.length_singleton]
    omega
  · dsimp only
    rw [al_yes]
    by_cases e : x = k
    · subst e
      rw [if_pos rfl, List.getLast?_append, get_put]
      rfl
    · rw [if_neg e, List.append_nil, get_put_ne e]
      exact kk x y0 y1
  · dsimp only
    rw [ar_yes]
    by_cases e : x = k ∧ rq = r
    · obtain ⟨e1, e2⟩ := e
      subst e1 e2
      rw [if_pos ⟨rfl, rfl⟩]
      exact ⟨fun z => by simp at z, fun _ => ⟨m', get_put, hm⟩⟩
    · rw [if_neg e, List.append_nil, get_put_ne (fun z => e ⟨(List.cons.inj z).1, ((List.cons.inj (List.cons.inj z).2).1).symm⟩)]
      exact an x r y0 y1
  · dsimp only at hp' ⊢
    rcases List.mem_append.mp hp' with q | q
    · exact (pd p (qm p q)).mono up
    · obtain ⟨g0, c, w, g1, g2, g3, g4, g5⟩ := hS p q
      have v := vcs rq c w g1
      have w0 := hd rq c w g1
      have := v.lt
      have := v.hi
      rw [g3, g4, g5]
      exact ⟨by omega, by omega, by omega, r2, .inr ⟨c, w, t, g1, by rw [g2, ar_yes, g0, if_pos ⟨rfl, rfl⟩]; rfl, rfl, rfl⟩⟩
  · dsimp only at he ⊢
    rcases List.mem_append.mp he with q | q
    · exact (es e q).mono up
    · rw [List.mem_singleton.mp q]
      exact pa.mono up
  · dsimp only at g2 ⊢
    by_cases e : (c.1 = k ∧ rq = r) ∧ ar r E c.1 = []
    · obtain ⟨⟨e1, e0⟩, e2⟩ := e
      subst e0
      rw [ar_yes, e2, if_pos ⟨e1, rfl⟩] at g2
      cases g2
      rw [e1] at e2
      obtain ⟨y, hy, e3, e4, e5⟩ := hS2 e2 c w g1 e1
      exact .inr ⟨y, List.mem_append_right _ hy, e3, e4, e5⟩
    · have g3 : (ar r E c.1).head? = some tc := by
        rw [ar_yes] at g2
        cases ea : ar r E c.1 with
        | nil =>
          rw [ea, if_neg (fun z => e ⟨z, ea⟩)] at g2
          cases g2
        | cons a b =>
          rw [ea] at g2
          exact g2
      rcases cl r c w tc g1 g3 with q | q
      · exact .inl (evo _ _ _ q)
      · rcases keep _ _ _ q with ⟨q1, q2, q3⟩ | ⟨p, q1, q2⟩
        · exact .inl (evn _ _ _ q1 q2 q3)
        · exact .inr ⟨p, List.mem_append_left _ q1, q2⟩
  · dsimp only
    rcases rt r hr with q | q
    · exact .inl (evo _ _ _ q)
    · rcases keep _ _ _ q with ⟨q1, q2, q3⟩ | ⟨p, q1, q2⟩
      · exact .inl (evn _ _ _ q1 q2 q3)
      · exact .inr ⟨p, List.mem_append_left _ q1, q2⟩
  · dsimp only at he
    rcases split_last he with ⟨_, _, q⟩ | ⟨E3, _, q⟩
    · rw [q] at hf
      cases hf
    · exact ig E1 e E3 q hf
  · dsimp only
    rw [al_yes]
    by_cases e : x = k
    · subst e
      rw [if_pos rfl, List.pairwise_append]
      refine ⟨pw _ y0 y1, List.pairwise_singleton _ _, fun a ha b hb => ?_⟩
      rw [List.mem_singleton.mp hb]
      have w0 := hw0 _ y0 y1
      cases gl : (al E x).getLast? with
      | none => rw [List.getLast?_eq_none_iff.mp gl] at ha; cases ha
      | some l =>
        have hl := hwin l gl
        obtain ⟨ys, ey⟩ := List.getLast?_eq_some_iff.mp gl
        have pp := pw _ y0 y1
        rw [ey] at ha pp
        rcases List.mem_append.mp ha with q | q
        · have := (List.pairwise_append.mp pp).2.2 a q l (List.mem_singleton.mpr rfl)
          show a.1 + wt W x < t
          omega
        · rw [List.mem_singleton.mp q]; exact hl
    · rw [if_neg e, List.append_nil]
      exact pw x y0 y1
  · dsimp only at hp' hz ⊢
    have odp : z ∈ al E x → z.1 < t ∨ (z.1 = t ∧ (x < k ∨ (x = k ∧ z.2 ≤ rq))) := fun q => od _ hp x z q
    rcases List.mem_append.mp hp' with q | q
    · rw [al_yes] at hz
      rcases List.mem_append.mp hz with q' | q'
      · exact od p (qm p q) x z q'
      · by_cases e : x = k
        · rw [if_pos e] at q'
          rw [List.mem_singleton.mp q', e]
          have l4 := mn p (qm p q)
          unfold le3 at l4
          exact l4
        · rw [if_neg e] at q'; cases q'
    · obtain ⟨_, c, w, g1, g2, g3, g4, _⟩ := hS p q
      have w0 := hd rq c w g1
      have v := (vcs rq c w g1).lt
      rw [g3, g4]
      rw [al_yes] at hz
      rcases List.mem_append.mp hz with q' | q'
      · have := odp q'
        omega
      · by_cases e : x = k
        · rw [if_pos e] at q'
          rw [List.mem_singleton.mp q']
          dsimp only
          omega
        · rw [if_neg e] at q'; cases q'
theorem turn3_ok {s : Int × List Call} (h : VS s) (h6 : s.1 ≤ 6) {L : List Ent} {W : List Int} {R : Int} (hW : ∀ k : Nat, (k : Int) < s.1 → ∃ w, W[k]? = some w ∧ 0 ≤ w) (hL : ∀ e ∈ L, EntR s.2 e) (hl : L.length ≤ 80) (hd : ∀ r c w, Mr s L r c w → 0 ≤ w) {σ : QS} (I : Inv3 s L W R σ) (hne : σ.1 ≠ []) :
    ∃ σ', turn s W L σ = some σ' ∧ Inv3 s L W R σ' ∧ 81 * (12 - cq σ'.2.2.2) + σ'.1.length + 1 ≤ 81 * (12 - cq σ.2.2.2) + σ.1.length := by
  obtain ⟨P, E, M, A⟩ := σ
  have I0 := I
  obtain ⟨ms, lm, ln, kk, an, pd, es, cl, rt, ig, pw, od⟩ := I
  dsimp only at ms lm ln kk an pd es cl rt ig pw od hne ⊢
  have wts : ∀ x : Int, 0 ≤ x → x < s.1 → atI W x = some (wt W x) ∧ 0 ≤ wt W x := fun x x0 x1 => by
    obtain ⟨k, rfl⟩ : ∃ k : Nat, x = (k : Int) := ⟨x.toNat, by omega⟩
    obtain ⟨w, e, w0⟩ := hW k x1
    have q : wt W (k : Int) = w := by unfold wt; rw [atI_nat e]; rfl
    rw [q]
    exact ⟨atI_nat e, w0⟩
  obtain ⟨p, hp, hm, mn⟩ := min_ok hne
  obtain ⟨t, k, rq, m2, m3, m4⟩ := p
  have pa := pd _ hp
  have x0 : 0 ≤ k := pa.x0
  have x1 : k < s.1 := pa.x1
  have t0 : 0 ≤ t := pa.t0
  have r2 : rq = 0 ∨ rq = 1 := pa.r2
  have kkk := kk k x0 x1
  obtain ⟨an1, an2⟩ := an k rq x0 x1
  have okE : okL E.length = some () := okL_small (by omega)
  have c0 := cq_le A
  obtain ⟨w1, w0⟩ := wts k x0 x1
  obtain ⟨Q, hQ, pl, qm, qk⟩ : ∃ Q, compO (fun (x9 : (Int × Int × Int × Int × Int × Int)) => if (!decide ([x9.1, x9.2.1, x9.2.2.1, x9.2.2.2.1, x9.2.2.2.2.1, x9.2.2.2.2.2] = [t, k, rq, m2, m3, m4])) = true then some (some x9) else some none) P = some Q ∧ Q.length + 1 ≤ P.length ∧ (∀ y ∈ Q, y ∈ P) ∧ ∀ y ∈ P, y ≠ (t, k, rq, m2, m3, m4) → y ∈ Q := by
    have c := compO_if (fun x9 : Arv => !decide ([x9.1, x9.2.1, x9.2.2.1, x9.2.2.2.1, x9.2.2.2.2.1, x9.2.2.2.2.2] = [t, k, rq, m2, m3, m4])) (fun x9 : Arv => x9) P (by omega)
    refine ⟨_, c, ?_, fun y hy => ?_, fun y hy ne => ?_⟩
    · have fl : ∀ xs : List Arv, (t, k, rq, m2, m3, m4) ∈ xs → (xs.filterMap fun x9 : Arv => if (!decide ([x9.1, x9.2.1, x9.2.2.1, x9.2.2.2.1, x9.2.2.2.2.1, x9.2.2.2.2.2] = [t, k, rq, m2, m3, m4])) = true then some x9 else none).length + 1 ≤ xs.length := by
        intro xs
        induction xs with
        | nil => intro h; cases h
        | cons a r ih =>
          intro h
          rw [List.filterMap_cons, List.length_cons]
          have le := List.length_filterMap_le (fun x9 : Arv => if (!decide ([x9.1, x9.2.1, x9.2.2.1, x9.2.2.2.1, x9.2.2.2.2.1, x9.2.2.2.2.2] = [t, k, rq, m2, m3, m4])) = true then some x9 else none) r
          cases h with
          | head =>
            rw [if_neg (by simp)]
            dsimp only
            omega
          | tail _ z =>
            have i := ih z
            by_cases g : (!decide ([a.1, a.2.1, a.2.2.1, a.2.2.2.1, a.2.2.2.2.1, a.2.2.2.2.2] = [t, k, rq, m2, m3, m4])) = true
            · rw [if_pos g]
              dsimp only
              rw [List.length_cons]
              omega
            · rw [if_neg g]
              dsimp only
              omega
      exact fl P hp
    · obtain ⟨a, ha, q⟩ := List.mem_filterMap.mp hy
      split at q
      · cases q; exact ha
      · cases q
    · refine List.mem_filterMap.mpr ⟨y, hy, ?_⟩
      rw [if_pos]
      simp only [Bool.not_eq_true', decide_eq_false_iff_not]
      intro z
      obtain ⟨y1, y2, y3, y4, y5, y6⟩ := y
      simp only [List.cons.injEq, and_true] at z
      obtain ⟨z1, z2, z3, z4, z5, z6⟩ := z
      exact ne (by rw [z1, z2, z3, z4, z5, z6])
  unfold turn
  dsimp only
  change ∃ σ', ((minO k6 P).bind _ = some σ' ∧ _)
  rw [hm, Option.bind_some]
  dsimp only
  rw [hQ, Option.bind_some, okE, Option.bind_some]
  by_cases win : (getA M k).getD (-(1 : Int)) < t
  · rw [decide_eq_true win, if_pos rfl, w1, Option.bind_some, okL_small (by omega), Option.bind_some, okL_small (by omega), Option.bind_some]
    have hwin : ∀ z, (al E k).getLast? = some z → z.1 + wt W k < t := fun z hz => by
      rw [kkk, hz] at win
      exact win
    have sd := fun n => sendL_ok hL hl (x := k) (r := rq) (n := n) (t := t) (P := Q) (by omega)
    by_cases emp : ar rq E k = []
    · have ga := an1 emp
      have cs := cq_new (m := 1) x0 (by omega) r2 ga
      have c1 := cq_le (putA A [k, rq] 1)
      have l1 := flat_len (g := gS s k rq 0 t) (c := 1) L (fun _ _ => gS_len)
      rw [ga]
      refine ⟨_, (congrArg (fun o => Option.bind o _) (sd 0)).trans rfl, act_inv3 h (fun x a b => (wts x a b).2) hd I0 hp pl qm qk mn (fun y hy => ⟨emp, (of_gS hL hy).2⟩) (fun _ c w g1 g2 => in_gS g1 g2) (by decide) hwin (by show 81 * (12 - cq (putA A [k, rq] 1)) + _ ≤ _; rw [cs]; rw [cs] at c1; omega), ?_⟩
      show 81 * (12 - cq (putA A [k, rq] 1)) + (Q ++ L.flatMap (gS s k rq 0 t)).length + 1 ≤ _
      rw [cs, List.length_append]
      rw [cs] at c1
      omega
    · obtain ⟨m, gm, m1⟩ := an2 emp
      have cs := cq_old (m := m + 1) gm
      have nil : L.flatMap (gS s k rq m t) = [] := by
        cases e : L.flatMap (gS s k rq m t) with
        | nil => rfl
        | cons a b =>
          have := (of_gS hL (y := a) (x := k) (r := rq) (n := m) (t := t) (by rw [e]; simp)).1
          omega
      have sm := sd m
      rw [nil] at sm
      rw [gm]
      refine ⟨_, (congrArg (fun o => Option.bind o _) sm).trans rfl, act_inv3 h (fun x a b => (wts x a b).2) hd I0 hp pl qm qk mn (fun y hy => by cases hy) (fun e => absurd e emp) (by show 1 ≤ m + 1; omega) hwin (by show 81 * (12 - cq (putA A [k, rq] (m + 1))) + _ ≤ _; rw [cs]; simp), ?_⟩
      show 81 * (12 - cq (putA A [k, rq] (m + 1))) + (Q ++ ([] : List Arv)).length + 1 ≤ _
      rw [cs, List.append_nil]
      omega
  · rw [decide_eq_false win, if_neg (by decide)]
    obtain ⟨z, hz⟩ : ∃ z, (al E k).getLast? = some z := by
      cases g : (al E k).getLast? with
      | some z => exact ⟨z, rfl⟩
      | none =>
        rw [kkk, g] at win
        exact absurd (show (-(1 : Int)) < t by omega) win
    have mem : z ∈ al E k := by
      obtain ⟨ys, ey⟩ := List.getLast?_eq_some_iff.mp hz
      rw [ey]; simp
    have win2 : t ≤ z.1 + wt W k := by
      rw [kkk, hz] at win
      have win : ¬ z.1 + wt W k < t := win
      omega
    have keep : ∀ u y r, (∃ p ∈ P, p.1 = u ∧ p.2.1 = y ∧ p.2.2.1 = r) → (u = t ∧ y = k ∧ r = rq) ∨ ∃ p ∈ Q, p.1 = u ∧ p.2.1 = y ∧ p.2.2.1 = r := fun u y r ⟨p, g1, g2, g3, g4⟩ => by
      by_cases e : p = (t, k, rq, m2, m3, m4)
      · rw [e] at g2 g3 g4
        exact .inl ⟨g2.symm, g3.symm, g4.symm⟩
      · exact .inr ⟨p, qk p g1 e, g2, g3, g4⟩
    have evn : ∀ u y r, u = t → y = k → r = rq → Ev1 (E ++ [((t, k, rq, false) : Evt)]) u y r := fun u y r h1 h2 h3 => ⟨_, List.mem_append_right _ (List.mem_singleton.mpr rfl), h1.symm, h2.symm, h3.symm⟩
    have evo : ∀ u y r, Ev1 E u y r → Ev1 (E ++ [((t, k, rq, false) : Evt)]) u y r := fun u y r ⟨e, g1, g2⟩ => ⟨e, List.mem_append_left _ g1, g2⟩
    have up : ∀ r y tc, (ar r E y).head? = some tc → (ar r (E ++ [((t, k, rq, false) : Evt)]) y).head? = some tc := fun r y tc g => by rw [ar_no]; exact g
    refine ⟨_, rfl, ⟨?_, ?_, ?_, fun y y0 y1 => ?_, fun y r y0 y1 => ?_, fun p hp' => ?_, fun e he => ?_, fun r c w tc g1 g2 => ?_, fun r hr => ?_, fun E1 e E2 he hf => ?_, fun y y0 y1 => ?_, fun p hp' y u hu => ?_⟩, ?_⟩
    · dsimp only
      rw [List.length_append, List.length_singleton]
      omega
    · dsimp only
      rw [List.length_append]
      omega
    · dsimp only
      rw [List.length_append]
      omega
    · dsimp only
      rw [al_no]
      exact kk y y0 y1
    · dsimp only
      rw [ar_no]
      exact an y r y0 y1
    · exact (pd p (qm p hp')).mono up
    · dsimp only at he ⊢
      rcases List.mem_append.mp he with q | q
      · exact (es e q).mono up
      · rw [List.mem_singleton.mp q]
        exact pa.mono up
    · dsimp only at g2 ⊢
      rw [ar_no] at g2
      rcases cl r c w tc g1 g2 with q | q
      · exact .inl (evo _ _ _ q)
      · rcases keep _ _ _ q with ⟨q1, q2, q3⟩ | q
        · exact .inl (evn _ _ _ q1 q2 q3)
        · exact .inr q
    · dsimp only
      rcases rt r hr with q | q
      · exact .inl (evo _ _ _ q)
      · rcases keep _ _ _ q with ⟨q1, q2, q3⟩ | q
        · exact .inl (evn _ _ _ q1 q2 q3)
        · exact .inr q
    · dsimp only at he
      rcases split_last he with ⟨_, q1, q2⟩ | ⟨E3, _, q⟩
      · subst q1 q2
        have o := od _ hp _ _ mem
        dsimp only at o ⊢
        exact ⟨z, mem, by omega, win2, fun e => by omega⟩
      · exact ig E1 e E3 q hf
    · dsimp only
      rw [al_no]
      exact pw y y0 y1
    · dsimp only at hp' hu ⊢
      rw [al_no] at hu
      exact od p (qm p hp') y u hu
    · dsimp only
      omega
end K10
namespace K10
open PySem L2 Pw
theorem off_bd {n : Int} {c : Call} (v : VC n c) {q : Nat} {o : Int} (h : c.2.2.1[q]? = some o) : ∃ f l, atI c.2.2.1 0 = some f ∧ atI c.2.2.1 ((c.2.2.1.length : Int) - 1) = some l ∧ f ≤ o ∧ o ≤ l := by
  obtain ⟨hq, rfl⟩ := List.getElem?_eq_some_iff.mp h
  have pw := List.pairwise_iff_getElem.mp v.os.2.2.1
  refine ⟨c.2.2.1[0]'(by omega), c.2.2.1[c.2.2.1.length - 1]'(by omega), (atI_nat (j := 0) (List.getElem?_eq_getElem (by omega))), ?_, ?_, ?_⟩
  · rw [show (c.2.2.1.length : Int) - 1 = ((c.2.2.1.length - 1 : Nat) : Int) by omega]
    exact atI_nat (List.getElem?_eq_getElem (by omega))
  · by_cases z : q = 0
    · subst z; exact Int.le_refl _
    · exact Int.le_of_lt (pw 0 q (by omega) hq (by omega))
  · by_cases z : q = c.2.2.1.length - 1
    · subst z; exact Int.le_refl _
    · exact Int.le_of_lt (pw q (c.2.2.1.length - 1) hq (by omega) (by omega))
theorem run_ok {s : Int × List Call} (h : VS s) (h6 : s.1 ≤ 6) {L : List Ent} {W : List Int} {R : Int} (hW : ∀ k : Nat, (k : Int) < s.1 → ∃ w, W[k]? = some w ∧ 0 ≤ w) (hL : ∀ e ∈ L, EntR s.2 e) (hl : L.length ≤ 80) (hd : ∀ r c w, Mr s L r c w → 0 ≤ w) : ∀ (n : Nat) (σ : QS), Inv3 s L W R σ → 81 * (12 - cq σ.2.2.2) + σ.1.length + 1 ≤ n → ∃ σ', whileC more (turn s W L) n σ = some σ' ∧ Inv3 s L W R σ' ∧ σ'.1 = []
  | 0, σ, I, q => by omega
  | n + 1, σ, I, q => by
    unfold whileC
    by_cases g : σ.1 = []
    · refine ⟨σ, ?_, I, g⟩
      unfold more
      rw [g, Option.bind_some, if_neg (by simp)]
    · obtain ⟨σ1, e1, I1, q1⟩ := turn3_ok h h6 hW hL hl hd I g
      obtain ⟨σ', e', I', g'⟩ := run_ok h h6 hW hL hl hd n σ1 I1 (by omega)
      refine ⟨σ', ?_, I', g'⟩
      unfold more
      rw [Option.bind_some, if_pos (by cases e : σ.1 with | nil => exact absurd e g | cons a b => rfl), e1, Option.bind_some]
      exact e'
structure Fin3 (s : Int × List Call) (L : List Ent) (W : List Int) (R : Int) (E : List Evt) : Prop where
  len : E.length ≤ 2000
  es : ∀ e ∈ E, Arr3 s L R E e.1 e.2.1 e.2.2.1
  cl : ∀ r c w tc, Mr s L r c w → (ar r E c.1).head? = some tc → Ev1 E (tc + w) c.2.1 r
  rt : ∀ r, r = 0 ∨ r = 1 → Ev1 E (Tr R r) 0 r
  ig : ∀ E1 e E2, E = E1 ++ e :: E2 → e.2.2.2 = false → ∃ z ∈ al E1 e.2.1, z.1 ≤ e.1 ∧ e.1 ≤ z.1 + wt W e.2.1 ∧ (z.1 = e.1 → z.2 ≤ e.2.2.1)
  pw : ∀ x, 0 ≤ x → x < s.1 → (al E x).Pairwise fun a b => a.1 + wt W x < b.1
theorem msgR_bd {s : Int × List Call} (h : VS s) {L : List Ent} (hL : ∀ e ∈ L, EntR s.2 e) {r : Int} {c : Call} {w : Int} (hm : Mr s L r c w) : c ∈ s.2 ∧ VC s.1 c ∧ early c ≤ w ∧ w ≤ late c ∧ 0 ≤ w := by
  obtain ⟨j, q, o, d, e, eo, he, ew⟩ := hm
  have m := List.mem_of_getElem? e
  have v := h.cs c m
  obtain ⟨r', j', c', q', d', o', _, h0, b1, b2, b3, b4, b5, b6, b7, b8, b9⟩ := (hL _ he).ex
  have a1 : (j : Int) = j' := congrArg (fun z : Ent => z.2.2.1) h0
  have a2 : q = q' := congrArg (fun z : Ent => z.2.2.2.1) h0
  have a3 : d = d' := congrArg (fun z : Ent => z.2.2.2.2) h0
  have a1 : j = j' := by omega
  subst a1 a2 a3
  rw [e] at b1
  cases b1
  rw [eo] at b2
  cases b2
  obtain ⟨k, rfl⟩ : ∃ k : Nat, q = (k : Int) := ⟨q.toNat, by omega⟩
  have hk : k < c.2.2.1.length := by omega
  have ek := List.getElem?_eq_getElem hk
  rw [atI_nat ek] at eo
  cases eo
  obtain ⟨f, l, h1, h2, h3, h4⟩ := off_bd v ek
  obtain ⟨o1, g1, _, _, g2, _⟩ := late_ok v
  obtain ⟨o2, g3, _, _, g4, _⟩ := early_ok v
  rw [h2] at g1
  rw [h1] at g3
  cases g1
  cases g3
  exact ⟨m, v, by omega, by omega, by omega⟩
theorem played3_ok {s : Int × List Call} (h : VS s) (h6 : s.1 ≤ 6) {L : List Ent} (hL : ∀ e ∈ L, EntR s.2 e) (hl : L.length ≤ 80) {W : List Int} {R : Int} (hR : 0 ≤ R) (hW : ∀ k : Nat, (k : Int) < s.1 → ∃ w, W[k]? = some w ∧ 0 ≤ w) : ∃ E, m__law_played s W ([(0 : Int), R] : List Int) L = some E ∧ Fin3 s L W R E := by
  have n1 := h.n1
  have hd : ∀ r c w, Mr s L r c w → 0 ≤ w := fun r c w hm => (msgR_bd h hL hm).2.2.2.2
  have I0 : Inv3 s L W R ([((0 : Int), (0 : Int), (0 : Int), (0 : Int), (-(1 : Int)), (0 : Int)), (R, (0 : Int), (1 : Int), (0 : Int), (-(1 : Int)), (0 : Int))], ([] : List Evt), ([] : List (Int × Int)), ([] : Cnt)) := by
    refine ⟨?_, Nat.le_refl _, Nat.le_refl _, fun x _ _ => rfl, fun x r _ _ => ⟨fun _ => rfl, fun e => absurd rfl e⟩, fun p hp => ?_, fun e he => (by cases he), fun r c w tc _ hx => (by cases hx), fun r hr => .inr ?_, fun E1 e E2 he => (by simp at he), fun _ _ _ => List.Pairwise.nil, fun p _ x t ht => (by cases ht)⟩
    · dsimp only
      simp only [List.length_nil, List.length_cons]
      omega
    · dsimp only at hp ⊢
      rcases List.mem_cons.mp hp with q | q
      · rw [q]
        exact ⟨Int.le_refl _, by show (0 : Int) < s.1; omega, Int.le_refl _, .inl rfl, .inl ⟨rfl, rfl⟩⟩
      · rw [List.mem_singleton.mp q]
        exact ⟨Int.le_refl _, by show (0 : Int) < s.1; omega, hR, .inr rfl, .inl ⟨rfl, rfl⟩⟩
    · rcases hr with q | q
      · subst q
        exact ⟨_, List.mem_cons_self .., rfl, rfl, rfl⟩
      · subst q
        exact ⟨_, List.mem_cons_of_mem _ (List.mem_singleton.mpr rfl), rfl, rfl, rfl⟩
  obtain ⟨σ, e2, I, nil⟩ := run_ok h h6 hW hL hl hd 1000 _ I0 (by have := cq_le ([] : Cnt); simp only [List.length_nil, List.length_cons]; omega)
  have a0 : atI ([(0 : Int), R] : List Int) 0 = some 0 := atI_nat (j := 0) rfl
  have a1 : atI ([(0 : Int), R] : List Int) 1 = some R := atI_nat (j := 1) rfl
  refine ⟨σ.2.1, ?_, ⟨by have := I.ms; omega, I.es, fun r c w tc hm hc => ?_, fun r hr => ?_, I.ig, I.pw⟩⟩
  · unfold m__law_played
    rw [show rngO 0 (([(0 : Int), R] : List Int).length : Int) = some [0, 1] from (rngO_small (lo := 0) (hi := 2) (by decide) (by decide) (by decide) (by decide)).trans (by decide), Option.bind_some]
    rw [show compO (fun (x2 : Int) => (atI ([(0 : Int), R] : List Int) x2).bind fun x3 => some (some (x3, (0 : Int), x2, (0 : Int), (-(1 : Int)), (0 : Int)))) [0, 1] = some [((0 : Int), (0 : Int), (0 : Int), (0 : Int), (-(1 : Int)), (0 : Int)), (R, (0 : Int), (1 : Int), (0 : Int), (-(1 : Int)), (0 : Int))] by
      unfold compO
      rw [if_pos (by decide)]
      unfold compL
      rw [a0, Option.bind_some, Option.bind_some]
      unfold compL
      rw [a1, Option.bind_some, Option.bind_some]
      rfl, Option.bind_some]
    refine (congrArg (fun o => Option.bind o _) e2).trans rfl
  · rcases I.cl r c w tc hm hc with q | ⟨p, hp, _⟩
    · exact q
    · rw [nil] at hp; cases hp
  · rcases I.rt r hr with q | ⟨p, hp, _⟩
    · exact q
    · rw [nil] at hp; cases hp
theorem mem_ar {r t : Int} {E : List Evt} {x : Int} : t ∈ ar r E x ↔ (t, r) ∈ al E x := by
  unfold ar
  rw [List.mem_map]
  constructor
  · rintro ⟨z, hz, rfl⟩
    obtain ⟨h1, h2⟩ := List.mem_filter.mp hz
    have h2 := of_decide_eq_true h2
    rw [← h2]
    exact h1
  · intro h
    exact ⟨(t, r), List.mem_filter.mpr ⟨h, by simp⟩, rfl⟩
theorem mem_al {E : List Evt} {x : Int} {z : Int × Int} : z ∈ al E x ↔ ((z.1, x, z.2, true) : Evt) ∈ E := by
  unfold al
  rw [List.mem_filterMap]
  constructor
  · rintro ⟨e, he, q⟩
    obtain ⟨t, y, r, f⟩ := e
    by_cases g : ((decide (y = x)) && f) = true
    · rw [if_pos g] at q
      cases q
      simp at g
      rw [← g.1, ← g.2]
      exact he
    · rw [if_neg g] at q
      cases q
  · intro he
    exact ⟨_, he, by rw [if_pos (by simp)]⟩
theorem s3_bd {s : Int × List Call} (h : VS s) {d : Int → Int → Int} (o : Opt s d) {L : List Ent} {W : List Int} {R : Int} {E : List Evt} (hL : ∀ e ∈ L, EntR s.2 e) (F : Fin3 s L W R E) : ∀ (n : Nat) (x t r : Int), x.toNat ≤ n → Arr3 s L R E t x r → x ∈ RS s ∧ Tr R r - d 0 x ≤ t ∧ t ≤ Tr R r + d x 0 := by
  intro n
  induction n with
  | zero =>
    intro x t r hx S
    have x0 := S.x0
    have : x = 0 := by omega
    subst this
    have z := RS_z h
    have dz := o.z 0 z
    rcases S.src with ⟨_, e⟩ | ⟨c, w, tc, hm, _, hx2, _⟩
    · exact ⟨z, by omega, by omega⟩
    · have v := (msgR_bd h hL hm).2.1
      have := v.lt
      have := v.lo
      omega
  | succ n ih =>
    intro x t r hx S
    have x0 := S.x0
    have z := RS_z h
    rcases S.src with ⟨ex, e⟩ | ⟨c, w, tc, hm, hc, hx2, ht⟩
    · subst ex
      have dz := o.z 0 z
      exact ⟨z, by omega, by omega⟩
    · obtain ⟨mc, v, m1, m2, _⟩ := msgR_bd h hL hm
      have := v.lt
      have := v.lo
      obtain ⟨i1, i2, i3⟩ := ih c.1 tc r (by omega) (F.es _ (mem_al.mp (mem_ar.mp (List.mem_of_mem_head? hc))))
      have rx : x ∈ RS s := by rw [← hx2]; exact RS_cl h mc i1
      have l1 := o.lb x rx 0 z (by omega) c mc i1 hx2
      have l2 := o.eb 0 z x rx (by omega) c mc i1 hx2
      exact ⟨rx, by omega, by omega⟩
theorem tr0 {R : Int} : Tr R 0 = 0 := rfl
theorem tr1 {R : Int} : Tr R 1 = R := rfl
theorem ig' {s : Int × List Call} {L : List Ent} {W : List Int} {R : Int} {E : List Evt} (F : Fin3 s L W R E) {e : Evt} (he : e ∈ E) (hf : e.2.2.2 = false) : ∃ E1 E2 z, E = E1 ++ e :: E2 ∧ z ∈ al E1 e.2.1 ∧ z ∈ al E e.2.1 ∧ z.1 ≤ e.1 ∧ e.1 ≤ z.1 + wt W e.2.1 ∧ (z.1 = e.1 → z.2 ≤ e.2.2.1) := by
  obtain ⟨E1, E2, q⟩ := List.append_of_mem he
  obtain ⟨z, hz, rest⟩ := F.ig E1 e E2 q hf
  exact ⟨E1, E2, z, q, hz, by rw [mem_al] at hz ⊢; rw [q]; exact List.mem_append_left _ hz, rest⟩
theorem f3_at {s : Int × List Call} (h : VS s) {L Lr : List Ent} {W : List Int} {R r X : Int} {E : List Evt} (hr : r = 0 ∨ r = 1) (hL : ∀ e ∈ L, EntR s.2 e) (sub : ∀ e ∈ Lr, (r, e.2) ∈ L) (top : ∀ e ∈ Lr, tgt s.2 e ≤ X) (inj : ∀ e ∈ Lr, ∀ e' ∈ L, e'.1 = r → tgt s.2 e' = tgt s.2 e → e'.2 = e.2) (F : Fin3 s L W R E)
    (pass : ∀ e ∈ E, ∀ z ∈ al E e.2.1, e.2.2.1 = r → e.2.1 < X → z.1 ≤ e.1 → e.1 ≤ z.1 + wt W e.2.1 → z.2 ≠ r → False) {t x : Int} (hA : At s.2 Lr t x) : Ev1 E (Tr R r + t) x r ∧ ∀ e ∈ E, e.2.1 = x → e.2.2.1 = r → e.1 = Tr R r + t := by
  induction hA with
  | root =>
    refine ⟨by rw [Int.add_zero]; exact F.rt r hr, fun e he h1 h2 => ?_⟩
    have a := F.es e he
    rcases a.src with ⟨_, z⟩ | ⟨c, w, tc, hm, _, hx, _⟩
    · rw [h2] at z
      omega
    · have v := (msgR_bd h hL hm).2.1
      have := v.lo
      have := v.lt
      omega
  | @step t j c q dl' o hA he e ea ih =>
    have v := h.cs c (List.mem_of_getElem? e)
    have v0 := v.lo
    have v1 := v.lt
    have heL : ((r, 0, (j : Int), q, dl') : Ent) ∈ L := sub _ he
    have tp : c.2.1 ≤ X := by have := top _ he; rw [tgt_of e] at this; exact this
    obtain ⟨ev, un⟩ := ih
    have hd : (ar r E c.1).head? = some (Tr R r + t) := by
      have ne : ∃ u, u ∈ ar r E c.1 := by
        obtain ⟨e', he', w1, w2, w3⟩ := ev
        cases g : e'.2.2.2 with
        | true =>
          refine ⟨e'.1, mem_ar.mpr (mem_al.mpr ?_)⟩
          rw [show ((e'.1, c.1, r, true) : Evt) = e' by rw [← w2, ← w3, ← g]]
          exact he'
        | false =>
          obtain ⟨E1, E2, z, _, _, hz, z1, z2, _⟩ := ig' F he' g
          by_cases gr : z.2 = r
          · rw [w2] at hz
            exact ⟨z.1, mem_ar.mpr (by rw [← gr]; exact hz)⟩
          · exact (pass e' he' z hz w3 (by omega) z1 z2 gr).elim
      cases ea : ar r E c.1 with
      | nil => obtain ⟨u, hu⟩ := ne; rw [ea] at hu; cases hu
      | cons a b =>
        have := un _ (mem_al.mp (mem_ar.mp (show a ∈ ar r E c.1 by rw [ea]; simp))) rfl rfl
        have : a = Tr R r + t := this
        rw [this]
        rfl
    have ev' := F.cl r c (o + dl') _ ⟨j, q, o, dl', e, ea, heL, rfl⟩ hd
    refine ⟨by rw [show Tr R r + (t + o + dl') = Tr R r + t + (o + dl') by omega]; exact ev', fun e2 he2 h1 h2 => ?_⟩
    have a := F.es e2 he2
    rcases a.src with ⟨z, _⟩ | ⟨c', w', tc', ⟨j', q', o', d', e', eo', he', ew'⟩, hc', hx', htt⟩
    · omega
    · rw [h2] at he' hc'
      have qq := inj _ he _ he' rfl (by
        have t1 : tgt s.2 ((r, 0, (j' : Int), q', d') : Ent) = c'.2.1 := by
          unfold tgt
          rw [show atI s.2 ((r, 0, (j' : Int), q', d') : Ent).2.2.1 = some c' from atI_nat e']
          rfl
        have t2 : tgt s.2 ((0, 0, (j : Int), q, dl') : Ent) = c.2.1 := tgt_of e
        rw [t1, t2, hx', h1])
      have a1 : (j' : Int) = j := congrArg (fun z : Int × Int × Int × Int => z.2.1) qq
      have a2 : q' = q := congrArg (fun z : Int × Int × Int × Int => z.2.2.1) qq
      have a3 : d' = dl' := congrArg (fun z : Int × Int × Int × Int => z.2.2.2) qq
      have a1 : j' = j := by omega
      subst a1 a2 a3
      rw [e] at e'
      cases e'
      rw [ea] at eo'
      cases eo'
      rw [hd] at hc'
      cases hc'
      omega
end K10
namespace K10
open PySem L2 Pw
/-! ### loops that go through -/
theorem fr_unit {α R : Type} {f : Unit → α → Option (Unit ⊕ R)} : ∀ xs : List α, (∀ x ∈ xs, f () x = some (.inl ())) → foldR f xs () = some (.inl ())
  | [], _ => rfl
  | x :: xs, h => by
    show (f () x).bind _ = _
    rw [h x (by simp)]
    exact fr_unit xs (fun y hy => h y (by simp [hy]))
theorem fr_inv {α S R : Type} {f : S → α → Option (S ⊕ R)} (I : S → Prop) : ∀ (xs : List α) (s : S), (∀ x ∈ xs, ∀ s, I s → ∃ s', f s x = some (.inl s') ∧ I s') → I s → ∃ s', foldR f xs s = some (.inl s') ∧ I s'
  | [], s, _, h => ⟨s, rfl, h⟩
  | x :: xs, s, st, h => by
    obtain ⟨s1, e1, i1⟩ := st x (by simp) s h
    obtain ⟨s2, e2, i2⟩ := fr_inv I xs s1 (fun y hy => st y (by simp [hy])) i1
    refine ⟨s2, ?_, i2⟩
    show (f s x).bind _ = _
    rw [e1]
    exact e2
theorem compL_none {α β : Type} {f : α → Option (Option β)} : ∀ xs : List α, (∀ x ∈ xs, f x = some none) → compL f xs = some []
  | [], _ => rfl
  | x :: xs, h => by
    show (f x).bind _ = _
    rw [h x (by simp)]
    show (compL f xs).bind _ = _
    rw [compL_none xs (fun y hy => h y (by simp [hy]))]
    rfl
theorem compO_none {α β : Type} {f : α → Option (Option β)} {xs : List α} (hl : xs.length ≤ 100000) (h : ∀ x ∈ xs, f x = some none) : compO f xs = some [] := by
  unfold compO
  rw [if_pos hl]
  exact compL_none xs h
theorem compSL_two {α β S : Type} (P : S → Prop) (B : α → β → Prop) {f : S → α → Option (Option β × S)} (h : ∀ s x, P s → ∃ b s', f s x = some (some b, s') ∧ P s' ∧ B x b) :
    ∀ (xs : List α) s, P s → ∃ ys s', compSL f xs s = some (ys, s') ∧ P s' ∧ ys.length = xs.length ∧ ∀ (k : Nat) x, xs[k]? = some x → ∃ y, ys[k]? = some y ∧ B x y
  | [], s, hs => ⟨[], s, rfl, hs, rfl, fun k x hx => by simp at hx⟩
  | x :: xs, s, hs => by
    obtain ⟨b, s1, e, h1, h2⟩ := h s x hs
    obtain ⟨ys, s2, e2, h3, h4, h5⟩ := compSL_two P B h xs s1 h1
    refine ⟨b :: ys, s2, ?_, h3, by simp [h4], fun k y hy => ?_⟩
    · show (f s x).bind _ = _
      rw [e]
      show (compSL f xs s1).bind _ = _
      rw [e2]
      rfl
    · cases k with
      | zero => simp at hy; subst hy; exact ⟨b, rfl, h2⟩
      | succ k => exact h5 k y (by simpa using hy)
theorem d_le {s : Int × List Call} (h : VS s) {d : Int → Int → Int} (o : Opt s d) : ∀ (n : Nat) (a b : Int), a ∈ RS s → b ∈ RS s → a.toNat + b.toNat ≤ n → d a b ≤ 198 * a := by
  intro n
  induction n with
  | zero =>
    intro a b ha hb hn
    have := RS_bd h ha
    have := RS_bd h hb
    have : a = b := by omega
    subst this
    rw [o.z a ha]
    omega
  | succ n ih =>
    intro a b ha hb hn
    have ba := RS_bd h ha
    have bb := RS_bd h hb
    by_cases ab : a = b
    · subst ab
      rw [o.z a ha]
      omega
    · by_cases lt : b < a
      · obtain ⟨c, hm, rc, hx, e⟩ := o.lx a ha b hb lt
        have v := h.cs c hm
        have := v.lt
        have := v.lo
        have := v.mo
        have i := ih c.1 b rc hb (by omega)
        obtain ⟨o1, _, p2, p3, p4, _⟩ := late_ok v
        omega
      · obtain ⟨c, hm, rc, hx, e⟩ := o.ex a ha b hb (by omega)
        have v := h.cs c hm
        have := v.lt
        have := v.lo
        have := v.le
        have i := ih a c.1 ha rc (by omega)
        obtain ⟨o1, _, p2, p3, p4, _⟩ := early_ok v
        omega
theorem dps_le {s : Int × List Call} (h : VS s) {d : Int → Int → Int} (o : Opt s d) {x : Int} {r : Int × Option ((Int × Int) × (Int × Int))} (hr : DPS s d x r) : 0 ≤ r.1 ∧ r.1 ≤ 9000 := by
  refine ⟨hr.nn, ?_⟩
  cases e : r.2 with
  | none => rw [hr.no e]; decide
  | some p =>
    obtain ⟨_, i, j, a, b, hi, hj, _, _, q⟩ := hr.ye p e
    obtain ⟨ma, ra, _⟩ := at_idx hi
    obtain ⟨mb, rb, _⟩ := at_idx hj
    have va := h.cs a ma
    have vb := h.cs b mb
    have := va.mo
    have := vb.le
    have ba := RS_bd h ra
    have i := d_le h o _ a.1 b.1 ra rb (Nat.le_refl _)
    obtain ⟨o1, _, p2, p3, p4, _⟩ := late_ok va
    obtain ⟨o2, _, p6, p7, p8, _⟩ := early_ok vb
    rw [q]
    unfold gap
    omega
/-! ### the greatest by two keys -/
def le2 (a b c d : Int) : Prop := a < c ∨ (a = c ∧ b ≤ d)
theorem lex2 {a b c d : Int} : (lexI [a, b] [c, d] = true → le2 a b c d) ∧ (¬ lexI [a, b] [c, d] = true → le2 c d a b) := by
  unfold lexI le2
  by_cases q : a = c
  · rw [if_pos q]
    unfold lexI
    by_cases q2 : b = d
    · rw [if_pos q2]
      exact ⟨fun _ => by omega, fun _ => by omega⟩
    · rw [if_neg q2, decide_eq_true_eq]
      exact ⟨fun _ => by omega, fun _ => by omega⟩
  · rw [if_neg q, decide_eq_true_eq]
    exact ⟨fun _ => by omega, fun _ => by omega⟩
theorem maxT_ge2 {α : Type} {f g : α → Int} : ∀ (r : List α) (x : α), ∀ y ∈ x :: r, le2 (f y) (g y) (f (maxT (fun k => [f k, g k]) x r)) (g (maxT (fun k => [f k, g k]) x r))
  | [], x, y, hy => by
    rw [List.mem_singleton.mp hy]; exact .inr ⟨rfl, Int.le_refl _⟩
  | z :: r, x, y, hy => by
    unfold maxT
    rw [List.foldl_cons]
    have ih := maxT_ge2 (f := f) (g := g) r (if lexI [f x, g x] [f z, g z] = true then z else x)
    unfold maxT at ih
    have h0 := ih _ (List.mem_cons_self ..)
    have tr : ∀ {a b c d e f' : Int}, le2 a b c d → le2 c d e f' → le2 a b e f' := fun h h2 => by unfold le2 at *; omega
    rcases List.mem_cons.mp hy with e | e
    · rw [e]
      refine tr ?_ h0
      split
      · rename_i q; exact lex2.1 q
      · exact .inr ⟨rfl, Int.le_refl _⟩
    · rcases List.mem_cons.mp e with e | e
      · rw [e]
        refine tr ?_ h0
        split
        · exact .inr ⟨rfl, Int.le_refl _⟩
        · rename_i q; exact lex2.2 q
      · exact ih y (List.mem_cons_of_mem _ e)
theorem maxO_two {α : Type} {f g : α → Int} {xs : List α} {m0 : α} (h0 : m0 ∈ xs) (h1 : ∀ y ∈ xs, le2 (f y) (g y) (f m0) (g m0)) : ∃ m, maxO (fun k => [f k, g k]) xs = some m ∧ f m = f m0 ∧ g m = g m0 := by
  cases xs with
  | nil => cases h0
  | cons x r =>
    refine ⟨_, rfl, ?_⟩
    have a := maxT_ge2 (f := f) (g := g) r x m0 h0
    have b := h1 _ (maxT_mem (fun k => [f k, g k]) r x)
    unfold le2 at a b
    omega
theorem exists_max {xs : List Int} (h : xs ≠ []) : ∃ m ∈ xs, ∀ y ∈ xs, y ≤ m := by
  cases xs with
  | nil => exact absurd rfl h
  | cons x r => exact ⟨_, foldmax r x⟩
theorem exists_min {xs : List Int} (h : xs ≠ []) : ∃ m ∈ xs, (∀ y ∈ xs, m ≤ y) ∧ minI xs = some m := by
  cases xs with
  | nil => exact absurd rfl h
  | cons x r => exact ⟨_, (foldmin r x).1, (foldmin r x).2, rfl⟩
theorem compL_congr {α β : Type} {f f' : α → Option (Option β)} : ∀ xs : List α, (∀ x ∈ xs, f x = f' x) → compL f xs = compL f' xs
  | [], _ => rfl
  | x :: xs, h => by
    show (f x).bind _ = (f' x).bind _
    rw [h x (by simp), compL_congr xs (fun y hy => h y (by simp [hy]))]
theorem compO_congr {α β : Type} {f f' : α → Option (Option β)} {xs : List α} (h : ∀ x ∈ xs, f x = f' x) : compO f xs = compO f' xs := by
  unfold compO; rw [compL_congr xs h]
theorem flat_one {α β : Type} {g : α → β} : ∀ xs : List α, xs.flatMap (fun x => [g x]) = xs.map g
  | [] => rfl
  | x :: xs => by rw [List.flatMap_cons, List.map_cons, flat_one xs]; rfl
/-! ### spans, the conflict, the needs -/
def sp (d : Int → Int → Int) (W : List Int) (x : Int) : Int := wat W x + d x 0 - -(d 0 x)
theorem spans_keys {s : Int × List Call} {d : Int → Int → Int} {W : List Int} : List.map (fun z => z.1) (spans s d W) = RS s := by
  unfold spans
  rw [List.map_map]
  exact List.map_id' _
theorem spans_vals {s : Int × List Call} {d : Int → Int → Int} {W : List Int} : List.map (fun z => z.2) (spans s d W) = (RS s).map (sp d W) := by
  unfold spans
  rw [List.map_map]
  rfl
theorem spans_get {s : Int × List Call} {d : Int → Int → Int} {W : List Int} {x : Int} (hx : x ∈ RS s) : getA (spans s d W) x = some (sp d W x) := getA_map1 (g := sp d W) (RS s) x hx
theorem conflict_ok {s : Int × List Call} (h : VS s) {T : Tab} {d : Int → Int → Int} (t : TabOk s T d) {W : List Int} (hW : VW s W) {m : Int} (h1 : ∃ x ∈ RS s, sp d W x = m) (h2 : ∀ x ∈ RS s, sp d W x ≤ m) :
    ∃ x L0 L1, m_reuse_conflict s W = some (x, L0 ++ L1.map fun e => ((1, e.2) : Ent)) ∧ x ∈ RS s ∧ sp d W x = m ∧ (∀ y ∈ RS s, y < x → sp d W y < m) ∧ Sch s.2 L0 x 0 (d x 0) ∧ Sch s.2 L1 0 x (d 0 x) := by
  have z := RS_z h
  have l8 := RS_len h
  obtain ⟨x1, hx1, e1⟩ := h1
  have mem : ∀ x, x ∈ ((RS s).filterMap fun x => if decide (sp d W x = m) = true then some x else none) ↔ x ∈ RS s ∧ sp d W x = m := fun x => by
    rw [List.mem_filterMap]
    constructor
    · rintro ⟨a, ha, q⟩
      by_cases c : sp d W a = m
      · rw [if_pos (decide_eq_true c)] at q
        cases q
        exact ⟨ha, c⟩
      · rw [if_neg (by simpa using c)] at q
        cases q
    · rintro ⟨ha, c⟩
      exact ⟨x, ha, by rw [if_pos (decide_eq_true c)]⟩
  obtain ⟨x, hx, mn, em⟩ := exists_min (xs := (RS s).filterMap fun x => if decide (sp d W x = m) = true then some x else none) (fun e => by
    have := (mem x1).mpr ⟨hx1, e1⟩
    rw [e] at this
    cases this)
  obtain ⟨rx, ex⟩ := (mem x).mp hx
  have sch : ∀ a ∈ RS s, ∀ b ∈ RS s, ∃ L, m_difference_schedule s a b = some L ∧ Sch s.2 L a b (d a b) := fun a ha b hb => by
    obtain ⟨L, v, q, ⟨T', k', q1, q2⟩, S⟩ := schedule_ok h ha hb
    rw [t.run] at q1
    cases q1
    obtain ⟨k2, hk⟩ := t.get _ ha _ hb
    rw [hk] at q2
    cases q2
    exact ⟨L, q, S⟩
  obtain ⟨L0, s0, S0⟩ := sch x rx 0 z
  obtain ⟨L1, s1, S1⟩ := sch 0 z x rx
  refine ⟨x, L0, L1, ?_, rx, ex, fun y hy lt => ?_, S0, S1⟩
  · unfold m_reuse_conflict
    rw [cw_ok h hW, Option.bind_some, spans_ok h t hW, Option.bind_some, spans_vals, spans_keys]
    rw [maxI_of (m := m) (List.mem_map.mpr ⟨x, rx, ex⟩) (fun y hy => by
      obtain ⟨a, ha, rfl⟩ := List.mem_map.mp hy
      exact h2 a ha), Option.bind_some]
    rw [compO_congr (f' := fun x4 : Int => if decide (sp d W x4 = m) = true then some (some x4) else some none) (fun a ha => by
      try dsimp only
      rw [spans_get ha, Option.bind_some]), compO_if (fun x4 : Int => decide (sp d W x4 = m)) (fun x : Int => x) (RS s) (by omega), Option.bind_some, em, Option.bind_some, s0, Option.bind_some, s1, Option.bind_some]
    have l0 := S0.len
    have l1 := S1.len
    rw [compO_map (g := fun e : Ent => ((1, e.2) : Ent)) (by omega) (fun a _ => rfl), Option.bind_some]
    unfold catO
    rw [if_pos (by rw [List.length_map]; omega)]
    rfl
  · have le := h2 y hy
    by_cases e : sp d W y = m
    · have := mn y ((mem y).mpr ⟨hy, e⟩)
      omega
    · omega

theorem like_ok {a : Int} : m__law_like a a = some true := by
  unfold m__law_like
  simp
theorem tgE {s : Int × List Call} (e : Ent) (r : Int) : tgt s.2 ((r, e.2) : Ent) = tgt s.2 e := rfl
theorem pw_two {α : Type} {P : α → α → Prop} : ∀ {l : List α} {a b : α}, l.Pairwise P → a ∈ l → b ∈ l → a ≠ b → P a b ∨ P b a
  | [], _, _, _, h, _, _ => by cases h
  | x :: xs, a, b, hp, ha, hb, ne => by
    obtain ⟨p1, p2⟩ := List.pairwise_cons.mp hp
    rcases List.mem_cons.mp ha with q | q <;> rcases List.mem_cons.mp hb with q' | q'
    · exact absurd (q.trans q'.symm) ne
    · rw [q]; exact .inl (p1 b q')
    · rw [q']; exact .inr (p1 a q)
    · exact pw_two p2 q q' ne
theorem at_zero {s : Int × List Call} (h : VS s) {L : List Ent} {t y : Int} (hA : At s.2 L t y) : y = 0 → t = 0 := by
  cases hA with
  | root => exact fun _ => rfl
  | @step t j c q dl o _ _ e _ =>
    intro z
    have v := h.cs c (List.mem_of_getElem? e)
    have := v.lo
    have := v.lt
    omega
/-- the two ways of a conflict, played -/
theorem ways_ok {s : Int × List Call} (h : VS s) (h6 : s.1 ≤ 6) {d : Int → Int → Int} (o : Opt s d) {x R : Int} (hx : x ∈ RS s) {L0 L1 : List Ent} (S0 : Sch s.2 L0 x 0 (d x 0)) (S1 : Sch s.2 L1 0 x (d 0 x)) {W : List Int} (hW : ∀ k : Nat, (k : Int) < s.1 → ∃ w, W[k]? = some w ∧ 0 ≤ w) (hR : 0 ≤ R)
    (lt : ∀ y ∈ RS s, y < x → wt W y + d y 0 + d 0 y < R) : ∃ E, m__law_played s W ([(0 : Int), R] : List Int) (L0 ++ L1.map fun e => ((1, e.2) : Ent)) = some E ∧ Fin3 s (L0 ++ L1.map fun e => ((1, e.2) : Ent)) W R E ∧ (Ev1 E (d x 0) x 0 ∧ ∀ e ∈ E, e.2.1 = x → e.2.2.1 = 0 → e.1 = d x 0) ∧ (Ev1 E (R - d 0 x) x 1 ∧ ∀ e ∈ E, e.2.1 = x → e.2.2.1 = 1 → e.1 = R - d 0 x) ∧ 0 ≤ wt W x := by
  have bx := RS_bd h hx
  have wpos : ∀ y ∈ RS s, 0 ≤ wt W y := fun y hy => by
    have := RS_bd h hy
    obtain ⟨k, rfl⟩ : ∃ k : Nat, y = (k : Int) := ⟨y.toNat, by omega⟩
    obtain ⟨w, e, w0⟩ := hW k this.2.1
    have : wt W (k : Int) = w := by unfold wt; rw [atI_nat e]; rfl
    omega
  have mem : ∀ e, e ∈ L0 ++ L1.map (fun e => ((1, e.2) : Ent)) ↔ e ∈ L0 ∨ ∃ e' ∈ L1, e = (1, e'.2) := fun e => by
    rw [List.mem_append, List.mem_map]
    constructor
    · rintro (q | ⟨a, q1, q2⟩)
      · exact .inl q
      · exact .inr ⟨a, q1, q2.symm⟩
    · rintro (q | ⟨a, q1, q2⟩)
      · exact .inl q
      · exact .inr ⟨a, q1, q2.symm⟩
  have z0 : ∀ e ∈ L0, e.1 = 0 := fun e he => by
    obtain ⟨j, c, q, dl, o, rfl, _⟩ := (S0.ok e he).ex
    rfl
  generalize hLL : L0 ++ L1.map (fun e => ((1, e.2) : Ent)) = L at mem ⊢
  have hl : L.length ≤ 80 := by
    rw [← hLL, List.length_append, List.length_map]
    have := S0.len
    have := S1.len
    omega
  have hL : ∀ e ∈ L, EntR s.2 e := fun e he => by
    rcases (mem e).mp he with w | ⟨e', w, rfl⟩
    · obtain ⟨j, c, q', dl, o', rfl, rest⟩ := (S0.ok e w).ex
      exact ⟨0, j, c, q', dl, o', .inl rfl, rfl, rest⟩
    · obtain ⟨j, c, q', dl, o', rfl, rest⟩ := (S1.ok e' w).ex
      exact ⟨1, j, c, q', dl, o', .inr rfl, rfl, rest⟩
  obtain ⟨E, e3, F⟩ := played3_ok h h6 hL hl hR hW
  have inj0 : ∀ e ∈ L0, ∀ e' ∈ L, e'.1 = 0 → tgt s.2 e' = tgt s.2 e → e'.2 = e.2 := fun e he e' he' r q => by
    rcases (mem e').mp he' with w | ⟨a, w, rfl⟩
    · rw [S0.inj e' w e he q]
    · cases r
  have inj1 : ∀ e ∈ L1, ∀ e' ∈ L, e'.1 = 1 → tgt s.2 e' = tgt s.2 e → e'.2 = e.2 := fun e he e' he' r q => by
    rcases (mem e').mp he' with w | ⟨a, w, rfl⟩
    · rw [z0 e' w] at r; cases r
    · show a.2 = e.2
      rw [S1.inj a w e he q]
  have bde : ∀ e ∈ E, e.2.1 ∈ RS s ∧ Tr R e.2.2.1 - d 0 e.2.1 ≤ e.1 ∧ e.1 ≤ Tr R e.2.2.1 + d e.2.1 0 := fun e he => s3_bd h o hL F _ _ _ _ (Nat.le_refl _) (F.es e he)
  have pass0 : ∀ e ∈ E, ∀ z ∈ al E e.2.1, e.2.2.1 = 0 → e.2.1 < x → z.1 ≤ e.1 → e.1 ≤ z.1 + wt W e.2.1 → z.2 ≠ 0 → False := fun e he z hz h1 h2 h3 h4 h5 => by
    obtain ⟨ry, _, b1⟩ := bde e he
    have hz' := mem_al.mp hz
    have r1 : z.2 = 1 := ((F.es _ hz').r2).resolve_left h5
    obtain ⟨_, b2, _⟩ := bde _ hz'
    have b2 : Tr R z.2 - d 0 e.2.1 ≤ z.1 := b2
    rw [r1, tr1] at b2
    rw [h1, tr0] at b1
    have := lt _ ry h2
    have := wpos _ ry
    omega
  have pass1 : ∀ e ∈ E, ∀ z ∈ al E e.2.1, e.2.2.1 = 1 → e.2.1 < x → z.1 ≤ e.1 → e.1 ≤ z.1 + wt W e.2.1 → z.2 ≠ 1 → False := fun e he z hz h1 h2 h3 h4 h5 => by
    obtain ⟨ry, b1, _⟩ := bde e he
    have hz' := mem_al.mp hz
    have r1 : z.2 = 0 := ((F.es _ hz').r2).resolve_right h5
    obtain ⟨_, _, b2⟩ := bde _ hz'
    have b2 : z.1 ≤ Tr R z.2 + d e.2.1 0 := b2
    rw [r1, tr0] at b2
    rw [h1, tr1] at b1
    have := lt _ ry h2
    omega
  obtain ⟨ta, tb, A0, B0, v0⟩ := S0.path
  obtain ⟨ta', tb', A1, B1, v1⟩ := S1.path
  have tb0 := at_zero h B0 rfl
  have ta0 := at_zero h A1 rfl
  have u0 := f3_at h (X := x) (.inl rfl) hL (fun e he => by
    rw [show ((0, e.2) : Ent) = e by rw [← z0 e he]]
    exact (mem e).mpr (.inl he)) (fun e he => by have := S0.top e he; omega) inj0 F pass0 A0
  have u1 := f3_at h (X := x) (.inr rfl) hL (fun e he => (mem _).mpr (.inr ⟨e, he, rfl⟩)) (fun e he => by have := S1.top e he; omega) inj1 F pass1 B1
  rw [tr0, show (0 : Int) + ta = d x 0 by omega] at u0
  rw [tr1, show R + tb' = R - d 0 x by omega] at u1
  exact ⟨E, e3, F, u0, u1, wpos x hx⟩
theorem first_of {α : Type} (c : α → Bool) : ∀ xs : List α, (∃ a ∈ xs, c a = true) → ∃ E1 e E2 r, xs = E1 ++ e :: E2 ∧ c e = true ∧ (∀ a ∈ E1, ¬ c a = true) ∧ xs.filterMap (fun x => if c x = true then some x else none) = e :: r
  | [], h => by obtain ⟨a, ha, _⟩ := h; cases ha
  | x :: xs, h => by
    by_cases g : c x = true
    · exact ⟨[], x, xs, _, rfl, g, fun a ha => (by cases ha), by rw [List.filterMap_cons, if_pos g]⟩
    · obtain ⟨E1, e, E2, r, q1, q2, q3, q4⟩ := first_of c xs (by
        obtain ⟨a, ha, hc⟩ := h
        rcases List.mem_cons.mp ha with z | z
        · rw [z] at hc; exact absurd hc g
        · exact ⟨a, z, hc⟩)
      refine ⟨x :: E1, e, E2, r, by rw [q1]; rfl, q2, fun a ha => ?_, by rw [List.filterMap_cons, if_neg g]; exact q4⟩
      rcases List.mem_cons.mp ha with z | z
      · rw [z]; exact g
      · exact q3 a z
theorem some_ok {E : List Evt} {x t : Int} (hl : E.length ≤ 2000) (h : Ev1 E t x 1) : ∃ E1 e E2 r, E = E1 ++ e :: E2 ∧ e.2.1 = x ∧ e.2.2.1 = 1 ∧ (∀ a ∈ E1, ¬ (a.2.1 = x ∧ a.2.2.1 = 1)) ∧ compO (fun (x28 : (Int × Int × Int × Bool)) => if ((decide (x28.2.1 = x)) && (decide (x28.2.2.1 = (1 : Int)))) = true then some (some x28) else some none) E = some (e :: r) := by
  obtain ⟨e0, he0, _, h2, h3⟩ := h
  obtain ⟨E1, e, E2, r, q1, q2, q3, q4⟩ := first_of (fun x28 : Evt => (decide (x28.2.1 = x)) && (decide (x28.2.2.1 = (1 : Int)))) E ⟨e0, he0, by simp [h2, h3]⟩
  simp only [Bool.and_eq_true, decide_eq_true_eq] at q2 q3
  refine ⟨E1, e, E2, r, q1, q2.1, q2.2, q3, ?_⟩
  rw [compO_if (fun x28 : Evt => (decide (x28.2.1 = x)) && (decide (x28.2.2.1 = (1 : Int)))) (fun x28 : Evt => x28) E (by omega), q4]
/-- schedules told are schedules -/
theorem sched_ok {s : Int × List Call} : ∀ (xs : List Ent) (last : List Int), (∀ e ∈ xs, EntR s.2 e) → xs.Pairwise (fun e e' => lexI [e.1, e.2.1, e.2.2.1, e.2.2.2.1] [e'.1, e'.2.1, e'.2.2.1, e'.2.2.2.1] = true) → (∀ e ∈ xs, lexI last [e.1, e.2.1, e.2.2.1, e.2.2.2.1] = true) → ∃ l, foldR ((fun (s2 : ((List Int))) (x1 : (Int × Int × Int × Int × Int)) => if ((!true) || ((!decide ((5 : Int) = (5 : Int))) || (!(lexI s2 [x1.1, x1.2.1, x1.2.2.1, x1.2.2.2.1])))) = true then (some (.inr false)) else ((if (!((decide ((0 : Int) ≤ x1.1)) && (decide (x1.1 < (2 : Int))))) = true then some true else (if (!((decide ((0 : Int) ≤ x1.2.2.1)) && (decide (x1.2.2.1 < (List.length s.2 : Int))))) = true then some true else (atI s.2 x1.2.2.1).bind fun x4 => some (!((decide ((0 : Int) ≤ x1.2.2.2.1)) && (decide (x1.2.2.2.1 < (List.length x4.2.2.1 : Int)))))).bind fun c5 => some c5).bind fun c6 => if c6 = true then (some (.inr false)) else ((atI s.2 x1.2.2.1).bind fun x7 => (atI s.2 x1.2.2.1).bind fun x8 => if (!((decide (x7.2.2.2.1 ≤ x1.2.2.2.2)) && (decide (x1.2.2.2.2 ≤ x8.2.2.2.2)))) = true then (some (.inr false)) else (some (.inl ([x1.1, x1.2.1, x1.2.2.1, x1.2.2.2.1] : List Int))))))) xs last = some (.inl l)
  | [], last, _, _, _ => ⟨last, rfl⟩
  | e :: xs, last, h1, h2, h3 => by
    obtain ⟨p1, p2⟩ := List.pairwise_cons.mp h2
    obtain ⟨l, ih⟩ := sched_ok (s := s) xs [e.1, e.2.1, e.2.2.1, e.2.2.2.1] (fun y hy => h1 y (by simp [hy])) p2 p1
    refine ⟨l, ?_⟩
    unfold foldR
    have st := h3 e (by simp)
    obtain ⟨r, j, c, q, dl, o, hr, rfl, ec, eo, b1, b2, b3, b4, b5, b6, b7⟩ := (h1 e (by simp)).ex
    have hj := (List.getElem?_eq_some_iff.mp ec).1
    dsimp only at st ih ⊢
    rw [if_neg (by rw [st]; decide), atI_nat ec, Option.bind_some]
    have d1 : decide ((0 : Int) ≤ r) = true := decide_eq_true (by omega)
    have d2 : decide (r < (2 : Int)) = true := decide_eq_true (by omega)
    have d3 : decide ((0 : Int) ≤ (j : Int)) = true := decide_eq_true (by omega)
    have d4 : decide ((j : Int) < (s.2.length : Int)) = true := decide_eq_true (by omega)
    have d5 : decide ((0 : Int) ≤ q) = true := decide_eq_true b1
    have d6 : decide (q < (c.2.2.1.length : Int)) = true := decide_eq_true b2
    have d7 : decide (c.2.2.2.1 ≤ dl) = true := decide_eq_true b3
    have d8 : decide (dl ≤ c.2.2.2.2) = true := decide_eq_true b4
    simp only [d1, d2, d3, d4, d5, d6, d7, d8, Bool.and_self, Bool.not_true, Bool.false_eq_true, if_false, Option.bind_some]
    exact ih
theorem is_sched {s : Int × List Call} {x : Int} {L0 L1 : List Ent} {v0 v1 : Int} (S0 : Sch s.2 L0 x 0 v0) (S1 : Sch s.2 L1 0 x v1) : m__law_is_schedule s 2 (L0 ++ L1.map fun e => ((1, e.2) : Ent)) = some true := by
  have f0 : ∀ e ∈ L0, e.1 = 0 ∧ e.2.1 = 0 := fun e he => by
    obtain ⟨j, c, q', dl, o', rfl, _⟩ := (S0.ok e he).ex
    exact ⟨rfl, rfl⟩
  have f1 : ∀ e ∈ L1, e.2.1 = 0 := fun e he => by
    obtain ⟨j, c, q', dl, o', rfl, _⟩ := (S1.ok e he).ex
    rfl
  have step : ∀ (r k k' q q' : Int), k < k' → lexI [r, 0, k, q] [r, 0, k', q'] = true := fun r k k' q q' hk => by
    rw [lexI_step, if_pos rfl, lexI_step, if_pos rfl, lexI_step, if_neg (by omega)]
    exact decide_eq_true hk
  obtain ⟨l, e⟩ := sched_ok (s := s) (L0 ++ L1.map fun e => ((1, e.2) : Ent)) [-1] (fun e he => by
    rcases List.mem_append.mp he with w | w
    · obtain ⟨j, c, q', dl, o', rfl, rest⟩ := (S0.ok e w).ex
      exact ⟨0, j, c, q', dl, o', .inl rfl, rfl, rest⟩
    · obtain ⟨e', w', rfl⟩ := List.mem_map.mp w
      obtain ⟨j, c, q', dl, o', rfl, rest⟩ := (S1.ok e' w').ex
      exact ⟨1, j, c, q', dl, o', .inr rfl, rfl, rest⟩) (by
    rw [List.pairwise_append]
    refine ⟨List.Pairwise.imp_of_mem (fun {a b} ha hb q => ?_) S0.up, ?_, fun a ha b hb => ?_⟩
    · rw [(f0 a ha).1, (f0 a ha).2, (f0 b hb).1, (f0 b hb).2]
      exact step _ _ _ _ _ q
    · rw [List.pairwise_map]
      refine List.Pairwise.imp_of_mem (fun {a b} ha hb q => ?_) S1.up
      dsimp only
      rw [f1 a ha, f1 b hb]
      exact step _ _ _ _ _ q
    · obtain ⟨b', hb', rfl⟩ := List.mem_map.mp hb
      rw [lexI_step, (f0 a ha).1, if_neg (by show ¬ (0 : Int) = 1; decide)]
      exact decide_eq_true (by show (0 : Int) < 1; decide)) (fun e he => by
    have : 0 ≤ e.1 := by
      rcases List.mem_append.mp he with w | w
      · rw [(f0 e w).1]; decide
      · obtain ⟨e', w', rfl⟩ := List.mem_map.mp w
        show (0 : Int) ≤ 1
        decide
    rw [lexI_step, if_neg (by omega)]
    exact decide_eq_true (by omega))
  unfold m__law_is_schedule
  refine (congrArg (fun o => Option.bind o _) e).trans rfl
theorem law_true (ns : List Int) : m_law ns = some true := by
  obtain ⟨D0, e0, hD0⟩ := dice_ok (ns := ns)
  unfold m_law
  rw [e0, Option.bind_some, show rngO 0 (4 : Int) = some (rng 0 4) from rfl, Option.bind_some]
  refine Exists.elim (fr_inv DI (R := Bool) (f := (fun (s4 : (((List Int) × Int × Int × Int))) (x3 : Int) => (m__law_next s4 (2 : Int)).bind fun r6 => (atI ([(3 : Int), (20 : Int)] : List Int) r6.1).bind fun x7 => (m__law_system r6.2 (6 : Int) (10 : Int) x7).bind fun r8 => (m_least_windows r8.1).bind fun r9 => (compS (fun (s11 : ((List Int) × Int × Int × Int)) (x10 : Int) => (m__law_next s11 (9 : Int)).bind fun r12 => some (some (x10 + r12.1), r12.2)) r9 r8.2).bind fun ys13 => (m_act_times r8.1).bind fun r14 => (compO (fun (x15 : Int) => (atI ys13.1 x15).bind fun x16 => (getA r14 x15).bind fun x17 => (getA r14 x15).bind fun x18 => some (some (((x16 + x17.2) - x18.1), ((0 : Int) - x15)))) (List.map (fun z => z.1) r14)).bind fun ys19 => (maxO (fun (k20 : (Int × Int)) => [k20.1, k20.2]) ys19).bind fun x21 => (m_least_reuse_time r8.1 ys13.1).bind fun r22 => (m__law_like r22 (x21.1 + (1 : Int))).bind fun r23 => if (!r23) = true then (some (.inr false)) else ((m_reuse_conflict r8.1 ys13.1).bind fun r24 => (if (!decide (r24.1 = ((0 : Int) - x21.2))) = true then some true else (m__law_is_schedule r8.1 (2 : Int) r24.2).bind fun r25 => some (!r25)).bind fun c26 => if c26 = true then (some (.inr false)) else (if (decide ((0 : Int) < x21.1)) = true then ((m__law_played r8.1 ys13.1 ([(0 : Int), x21.1] : List Int) r24.2).bind fun r27 => (compO (fun (x28 : (Int × Int × Int × Bool)) => if ((decide (x28.2.1 = r24.1)) && (decide (x28.2.2.1 = (1 : Int)))) = true then some (some x28) else some none) r27).bind fun ys29 => (if (List.isEmpty ys29) = true then some true else (atI ys29 (0 : Int)).bind fun x30 => some x30.2.2.2).bind fun c31 => if c31 = true then (some (.inr false)) else ((m__law_played r8.1 ys13.1 ([(0 : Int), (x21.1 + (1 : Int))] : List Int) r24.2).bind fun r32 => (compO (fun (x33 : (Int × Int × Int × Bool)) => if ((decide (x33.2.1 = r24.1)) && (decide (x33.2.2.1 = (1 : Int)))) = true then some (some x33) else some none) r32).bind fun ys34 => (if (List.isEmpty ys34) = true then some true else (atI ys34 (0 : Int)).bind fun x35 => some (!x35.2.2.2)).bind fun c36 => if c36 = true then (some (.inr false)) else (some (.inl ys13.2)))) else (some (.inl ys13.2)))))) (rng 0 4) D0 (fun x3 _ Da hDa => ?_) hD0) (fun D2 hh => ?_)
  rotate_left
  · obtain ⟨e2, _⟩ := hh
    refine (congrArg (fun o => Option.bind o _) e2).trans rfl
  obtain ⟨r6, Db, n1, n2, n3, hDb⟩ := next_ok (n := 2) hDa (by omega) (by omega)
  obtain ⟨x7, a7, b7, c7⟩ : ∃ x7, atI ([(3 : Int), (20 : Int)] : List Int) r6 = some x7 ∧ 0 ≤ x7 ∧ x7 ≤ 99 := by
    by_cases q : r6 = 0
    · subst q; exact ⟨3, atI_nat (j := 0) rfl, by decide, by decide⟩
    · have : r6 = 1 := by omega
      subst this
      exact ⟨20, atI_nat (j := 1) rfl, by decide, by decide⟩
  obtain ⟨s, Dc, e1, h, h6, _, hDc⟩ := system_ok (d := Db) (a := 6) (q := 10) (m := x7) hDb (by omega) (by omega) (by omega) (by omega) b7 c7
  obtain ⟨T, d, t⟩ := table_opt h
  have n1' := h.n1
  have n8 := h.n8
  have z := RS_z h
  have l8 := RS_len h
  obtain ⟨ps, q1, q2, ql, qd⟩ := least_ok h t
  obtain ⟨V, Dd, g2, hDd, yl, yb⟩ := compSL_two DI (fun (x y : Int) => x ≤ y ∧ y ≤ x + 8) (f := fun (s11 : ((List Int) × Int × Int × Int)) (x10 : Int) => (m__law_next s11 (9 : Int)).bind fun r12 => some (some (x10 + r12.1), r12.2)) (fun w x hw => by
      obtain ⟨r, d', e, a, b, hd'⟩ := next_ok (n := 9) hw (by omega) (by omega)
      exact ⟨x + r, d', by show (m__law_next w 9).bind _ = _; rw [e]; rfl, hd', by omega, by omega⟩) (ps.map (·.1)) Dc hDc
  have vl : (V.length : Int) = s.1 := by rw [yl, List.length_map]; exact ql
  have vb : ∀ k : Nat, (k : Int) < s.1 → ∃ w, V[k]? = some w ∧ 0 ≤ w ∧ w ≤ 9010 := fun k hk => by
    have hl : k < ps.length := by omega
    have e := List.getElem?_eq_getElem hl
    obtain ⟨y, y1, y2, y3⟩ := yb k _ (by rw [List.getElem?_map, e]; rfl)
    have dl9 := dps_le h t.opt (qd k _ e)
    dsimp only at y2 y3
    exact ⟨y, y1, by omega, by omega⟩
  have vw : VW s V := ⟨vl, fun w hw => by
    obtain ⟨k, hk, e⟩ := List.mem_iff_getElem.mp hw
    obtain ⟨w', e', b1, b2⟩ := vb k (by omega)
    rw [List.getElem?_eq_getElem hk, e] at e'
    cases e'
    omega⟩
  have hW : ∀ k : Nat, (k : Int) < s.1 → ∃ w, V[k]? = some w ∧ 0 ≤ w := fun k hk => by
    obtain ⟨w, e, b, _⟩ := vb k hk
    exact ⟨w, e, b⟩
  obtain ⟨m, hm, hmax⟩ := exists_max (xs := (RS s).map (sp d V)) (fun e => by
    have := List.map_eq_nil_iff.mp e
    rw [this] at z
    cases z)
  obtain ⟨xm, hxm, exm⟩ := List.mem_map.mp hm
  have up : ∀ x ∈ RS s, sp d V x ≤ m := fun x hx => hmax _ (List.mem_map.mpr ⟨x, hx, rfl⟩)
  have spw : ∀ x, sp d V x = wt V x + d x 0 + d 0 x := fun x => by
    have : wat V x = wt V x := rfl
    unfold sp
    omega
  have lr : m_least_reuse_time s V = some (m + 1) := reuse_ok h t vw ⟨xm, hxm, by rw [← exm, spw]; rfl⟩ (fun x hx => by have := up x hx; rw [spw] at this; exact this)
  obtain ⟨x, L0, L1, f1, rx, ex, lt, S0, S1⟩ := conflict_ok h t vw ⟨xm, hxm, exm⟩ up
  have ltw : ∀ y ∈ RS s, y < x → wt V y + d y 0 + d 0 y < m := fun y hy l => by have := lt y hy l; rw [spw] at this; exact this
  refine ⟨Dd, ?_, hDd⟩
  try dsimp only
  rw [n1, Option.bind_some]
  try dsimp only
  rw [a7, Option.bind_some, e1, Option.bind_some]
  try dsimp only
  rw [q2, Option.bind_some]
  rw [show compS (fun (s11 : ((List Int) × Int × Int × Int)) (x10 : Int) => (m__law_next s11 (9 : Int)).bind fun r12 => some (some (x10 + r12.1), r12.2)) (ps.map (·.1)) Dc = some (V, Dd) by
    unfold compS
    rw [if_pos (by rw [List.length_map]; omega)]
    exact g2, Option.bind_some]
  try dsimp only
  rw [times_ok h t, Option.bind_some]
  rw [show List.map (fun z => z.1) (times s d) = RS s by unfold times; rw [List.map_map]; exact List.map_id' _]
  rw [compO_map (g := fun y => (sp d V y, 0 - y)) (by omega) (fun y hy => by
    have by' := RS_bd h hy
    try dsimp only
    rw [(wat_ok h vw by'.1 by'.2.1).1, Option.bind_some, times_get hy, Option.bind_some, Option.bind_some]
    rfl), Option.bind_some]
  obtain ⟨w, gw, w1, w2⟩ := maxO_two (f := fun k : Int × Int => k.1) (g := fun k : Int × Int => k.2) (xs := (RS s).map fun y => (sp d V y, 0 - y)) (m0 := (sp d V x, 0 - x)) (List.mem_map.mpr ⟨x, rx, rfl⟩) (fun y hy => by
    obtain ⟨a, ha, rfl⟩ := List.mem_map.mp hy
    show le2 (sp d V a) (0 - a) (sp d V x) (0 - x)
    have := up a ha
    unfold le2
    by_cases c : a < x
    · have := lt a ha c
      omega
    · omega)
  rw [gw, Option.bind_some, lr, Option.bind_some]
  have w1 : w.1 = m := by rw [← ex]; exact w1
  have w2 : w.2 = 0 - x := w2
  rw [w1, like_ok, Option.bind_some, if_neg (by decide), f1, Option.bind_some]
  try dsimp only
  rw [w2, if_neg (by simp), is_sched S0 S1, Option.bind_some, Option.bind_some, if_neg (by decide)]
  by_cases c : (0 : Int) < m
  · rw [if_pos (decide_eq_true c)]
    obtain ⟨E, p1, F, ⟨v1, v2⟩, ⟨v3, v4⟩, wx⟩ := ways_ok h h6 t.opt rx S0 S1 hW (R := m) (by omega) ltw
    rw [p1, Option.bind_some]
    obtain ⟨E1, e, E2, r, k1, k2, k3, k4, k5⟩ := some_ok F.len v3
    rw [k5, Option.bind_some]
    have exw : wt V x + d x 0 + d 0 x = m := by rw [← spw]; exact ex
    have no : e.2.2.2 = false := by
      cases g : e.2.2.2 with
      | false => rfl
      | true =>
        exfalso
        have he : e ∈ E := by rw [k1]; simp
        have t1 := v4 e he k2 k3
        have a1 : (m - d 0 x, (1 : Int)) ∈ al E x := by
          rw [mem_al]
          rw [show ((m - d 0 x, x, 1, true) : Evt) = e by rw [← t1, ← k2, ← k3, ← g]]
          exact he
        have a0 : (d x 0, (0 : Int)) ∈ al E x := by
          obtain ⟨e', he', y1, y2, y3⟩ := v1
          cases g' : e'.2.2.2 with
          | true =>
            rw [mem_al]
            rw [show ((d x 0, x, 0, true) : Evt) = e' by rw [← y1, ← y2, ← y3, ← g']]
            exact he'
          | false =>
            obtain ⟨_, _, zz, _, _, hz, z1, z2, z3⟩ := ig' F he' g'
            rw [y2] at hz
            have hz' := mem_al.mp hz
            rcases (F.es _ hz').r2 with r0 | r0
            · have r0 : zz.2 = 0 := r0
              have : zz.1 = d x 0 := v2 _ hz' rfl r0
              rw [← this, ← r0]
              exact hz
            · have r0 : zz.2 = 1 := r0
              have : zz.1 = m - d 0 x := v4 _ hz' rfl r0
              have := z3 (by omega)
              omega
        rcases pw_two (F.pw x (RS_bd h rx).1 (RS_bd h rx).2.1) a0 a1 (fun z => by have := congrArg Prod.snd z; cases this) with u | u
        · have u : d x 0 + wt V x < m - d 0 x := u
          omega
        · have u : m - d 0 x + wt V x < d x 0 := u
          omega
    rw [if_neg (by simp), show atI (e :: r) (0 : Int) = some e from atI_nat (j := 0) rfl, Option.bind_some, no, Option.bind_some, if_neg (by decide)]
    obtain ⟨E', p1', F', ⟨v1', v2'⟩, ⟨v3', v4'⟩, _⟩ := ways_ok h h6 t.opt rx S0 S1 hW (R := m + 1) (by omega) (fun y hy l => by have := ltw y hy l; omega)
    rw [p1', Option.bind_some]
    obtain ⟨E1', e', E2', r', k1', k2', k3', k4', k5'⟩ := some_ok F'.len v3'
    rw [k5', Option.bind_some]
    have yes : e'.2.2.2 = true := by
      cases g : e'.2.2.2 with
      | true => rfl
      | false =>
        exfalso
        have he : e' ∈ E' := by rw [k1']; simp
        have t1 := v4' e' he k2' k3'
        obtain ⟨zz, hz, z1, z2, _⟩ := F'.ig E1' e' E2' k1' g
        rw [k2'] at hz z2
        have hz1 := mem_al.mp hz
        have hz' : ((zz.1, x, zz.2, true) : Evt) ∈ E' := by rw [k1']; exact List.mem_append_left _ hz1
        rcases (F'.es _ hz').r2 with r0 | r0
        · have r0 : zz.2 = 0 := r0
          have : zz.1 = d x 0 := v2' _ hz' rfl r0
          omega
        · exact k4' _ hz1 ⟨rfl, r0⟩
    rw [if_neg (by simp), show atI (e' :: r') (0 : Int) = some e' from atI_nat (j := 0) rfl, Option.bind_some, yes, Option.bind_some, if_neg (by decide)]
  · rw [if_neg (by simpa using c)]
end K10
namespace K10
open PySem PySem.W PySem.Calls PySem.Spec PyProof.Rows L2 Pw
def dd (x : Str) (i : Nat) : He.DefD := ⟨(x, none), x, x, defArgs (top i), defBody (top i), defScope (top i), [], []⟩
def fn : List He.DefD := [dd "is_number" 10, dd "is_number_within" 11, dd "are_offsets" 12, dd "is_call" 13, dd "check_system" 14, dd "calls_to" 15, dd "reachable_services" 16, dd "check_service" 17, dd "shortest_way" 19, dd "longest_way" 20, dd "late_choices" 21, dd "early_choices" 22, dd "greatest_differences" 23, dd "separate_entries" 24, dd "difference_schedule" 25, dd "act_times" 26, dd "check_windows" 29, dd "deciding_pair" 30, dd "deciding_pairs" 31, dd "least_windows" 32, dd "memory_spans" 33, dd "least_reuse_time" 35, dd "reuse_conflict" 36, dd "_law_dice" 38, dd "_law_next" 39, dd "_law_like" 40, dd "_law_call" 41, dd "_law_system" 42, dd "_law_played" 43, dd "_law_is_schedule" 44, dd "law" 45]
def fa : List He.Fa := [.glo "is_number", .glo "is_number_within", .glo "are_offsets", .glo "is_call", .glo "check_system", .glo "calls_to", .glo "reachable_services", .glo "check_service", .glo "shortest_way", .glo "longest_way", .glo "late_choices", .glo "early_choices", .glo "greatest_differences", .glo "separate_entries", .glo "difference_schedule", .glo "act_times", .glo "check_windows", .glo "deciding_pair", .glo "deciding_pairs", .glo "least_windows", .glo "memory_spans", .glo "least_reuse_time", .glo "reuse_conflict", .glo "_law_dice", .glo "_law_next", .glo "_law_like", .glo "_law_call", .glo "_law_system", .glo "_law_played", .glo "_law_is_schedule", .glo "law", .free "bool", .free "enumerate", .free "int", .free "isinstance", .free "len", .free "list", .free "max", .free "min", .free "range", .free "set", .free "sorted", .free "str", .free "tuple", .int "LAST_TICK" 99, .int "LONGEST_WINDOW" 9999, .int "MOST_CALLS" 20, .int "MOST_OFFSETS" 4, .int "MOST_SERVICES" 8]
abbrev R : PySem.W.OpenRow := PySem.W.OpenLaw.row RW
abbrev hk : PySem.W.Hook := He.hookD 4 fa fn
def ob (s : PySem.W.SharedT) : He.AlD := He.obsDG 4 fa fn (HandSHeadRun.getT s)
theorem ob_eq (s : PySem.W.SharedT) : ob s = hk.obs s.abs := He.obsDG_eq (HandSHeadRun.getT_eq s)
def names : List Str := (["OnceError", "InvalidSystem", "UnknownService", "InvalidWindows", "MOST_SERVICES", "MOST_CALLS", "MOST_OFFSETS", "LAST_TICK", "is_number", "is_number_within", "are_offsets", "is_call", "check_system", "calls_to", "reachable_services", "check_service", "shortest_way", "longest_way", "late_choices", "early_choices"] : List Str) ++ (["greatest_differences", "separate_entries", "difference_schedule", "act_times", "LONGEST_WINDOW", "check_windows", "deciding_pair", "deciding_pairs", "least_windows", "memory_spans", "least_reuse_time", "reuse_conflict", "_law_dice", "_law_next", "_law_like", "_law_call", "_law_system", "_law_played", "_law_is_schedule"] : List Str)
theorem run (w : World) : HandSHeadRun.RunEq R (PySem.W.view R.prog [45]) hk ob 3000 names w := by
  intro os
  kernel_rfl
theorem facts {K : PySem.W.Frag} {h : Heap} {mg : Str → Option Value} {f : Addr} (X : K.In h) (G : h.Ns mainGlobals mg) (hfa : mg ("law" : Str) = some (.ref f)) (c : He.SaysD fa fn K) :
    ∃ T : Tx K mg, T.a_law = f := by
  obtain ⟨d_is_number, F_is_number⟩ := c.def_ 0 (d := dd "is_number" 10) rfl
  obtain ⟨d_is_number_within, F_is_number_within⟩ := c.def_ 1 (d := dd "is_number_within" 11) rfl
  obtain ⟨d_are_offsets, F_are_offsets⟩ := c.def_ 2 (d := dd "are_offsets" 12) rfl
  obtain ⟨d_is_call, F_is_call⟩ := c.def_ 3 (d := dd "is_call" 13) rfl
  obtain ⟨d_check_system, F_check_system⟩ := c.def_ 4 (d := dd "check_system" 14) rfl
  obtain ⟨d_calls_to, F_calls_to⟩ := c.def_ 5 (d := dd "calls_to" 15) rfl
  obtain ⟨d_reachable_services, F_reachable_services⟩ := c.def_ 6 (d := dd "reachable_services" 16) rfl
  obtain ⟨d_check_service, F_check_service⟩ := c.def_ 7 (d := dd "check_service" 17) rfl
  obtain ⟨d_shortest_way, F_shortest_way⟩ := c.def_ 8 (d := dd "shortest_way" 19) rfl
  obtain ⟨d_longest_way, F_longest_way⟩ := c.def_ 9 (d := dd "longest_way" 20) rfl
  obtain ⟨d_late_choices, F_late_choices⟩ := c.def_ 10 (d := dd "late_choices" 21) rfl
  obtain ⟨d_early_choices, F_early_choices⟩ := c.def_ 11 (d := dd "early_choices" 22) rfl
  obtain ⟨d_greatest_differences, F_greatest_differences⟩ := c.def_ 12 (d := dd "greatest_differences" 23) rfl
  obtain ⟨d_separate_entries, F_separate_entries⟩ := c.def_ 13 (d := dd "separate_entries" 24) rfl
  obtain ⟨d_difference_schedule, F_difference_schedule⟩ := c.def_ 14 (d := dd "difference_schedule" 25) rfl
  obtain ⟨d_act_times, F_act_times⟩ := c.def_ 15 (d := dd "act_times" 26) rfl
  obtain ⟨d_check_windows, F_check_windows⟩ := c.def_ 16 (d := dd "check_windows" 29) rfl
  obtain ⟨d_deciding_pair, F_deciding_pair⟩ := c.def_ 17 (d := dd "deciding_pair" 30) rfl
  obtain ⟨d_deciding_pairs, F_deciding_pairs⟩ := c.def_ 18 (d := dd "deciding_pairs" 31) rfl
  obtain ⟨d_least_windows, F_least_windows⟩ := c.def_ 19 (d := dd "least_windows" 32) rfl
  obtain ⟨d_memory_spans, F_memory_spans⟩ := c.def_ 20 (d := dd "memory_spans" 33) rfl
  obtain ⟨d_least_reuse_time, F_least_reuse_time⟩ := c.def_ 21 (d := dd "least_reuse_time" 35) rfl
  obtain ⟨d_reuse_conflict, F_reuse_conflict⟩ := c.def_ 22 (d := dd "reuse_conflict" 36) rfl
  obtain ⟨d__law_dice, F__law_dice⟩ := c.def_ 23 (d := dd "_law_dice" 38) rfl
  obtain ⟨d__law_next, F__law_next⟩ := c.def_ 24 (d := dd "_law_next" 39) rfl
  obtain ⟨d__law_like, F__law_like⟩ := c.def_ 25 (d := dd "_law_like" 40) rfl
  obtain ⟨d__law_call, F__law_call⟩ := c.def_ 26 (d := dd "_law_call" 41) rfl
  obtain ⟨d__law_system, F__law_system⟩ := c.def_ 27 (d := dd "_law_system" 42) rfl
  obtain ⟨d__law_played, F__law_played⟩ := c.def_ 28 (d := dd "_law_played" 43) rfl
  obtain ⟨d__law_is_schedule, F__law_is_schedule⟩ := c.def_ 29 (d := dd "_law_is_schedule" 44) rfl
  obtain ⟨d_law, F_law⟩ := c.def_ 30 (d := dd "law" 45) rfl
  obtain ⟨t_LAST_TICK, c_LAST_TICK⟩ := He.int_ok X G (c.fact 44 (f := .int "LAST_TICK" 99) rfl)
  obtain ⟨t_LONGEST_WINDOW, c_LONGEST_WINDOW⟩ := He.int_ok X G (c.fact 45 (f := .int "LONGEST_WINDOW" 9999) rfl)
  obtain ⟨t_MOST_CALLS, c_MOST_CALLS⟩ := He.int_ok X G (c.fact 46 (f := .int "MOST_CALLS" 20) rfl)
  obtain ⟨t_MOST_OFFSETS, c_MOST_OFFSETS⟩ := He.int_ok X G (c.fact 47 (f := .int "MOST_OFFSETS" 4) rfl)
  obtain ⟨t_MOST_SERVICES, c_MOST_SERVICES⟩ := He.int_ok X G (c.fact 48 (f := .int "MOST_SERVICES" 8) rfl)
  refine ⟨{
    a_is_number := _, d_is_number := d_is_number, F_is_number := F_is_number, g_is_number := He.glo_ok X G (c.fact 0 (f := .glo "is_number") rfl),
    a_is_number_within := _, d_is_number_within := d_is_number_within, F_is_number_within := F_is_number_within, g_is_number_within := He.glo_ok X G (c.fact 1 (f := .glo "is_number_within") rfl),
    a_are_offsets := _, d_are_offsets := d_are_offsets, F_are_offsets := F_are_offsets, g_are_offsets := He.glo_ok X G (c.fact 2 (f := .glo "are_offsets") rfl),
    a_is_call := _, d_is_call := d_is_call, F_is_call := F_is_call, g_is_call := He.glo_ok X G (c.fact 3 (f := .glo "is_call") rfl),
    a_check_system := _, d_check_system := d_check_system, F_check_system := F_check_system, g_check_system := He.glo_ok X G (c.fact 4 (f := .glo "check_system") rfl),
    a_calls_to := _, d_calls_to := d_calls_to, F_calls_to := F_calls_to, g_calls_to := He.glo_ok X G (c.fact 5 (f := .glo "calls_to") rfl),
    a_reachable_services := _, d_reachable_services := d_reachable_services, F_reachable_services := F_reachable_services, g_reachable_services := He.glo_ok X G (c.fact 6 (f := .glo "reachable_services") rfl),
    a_check_service := _, d_check_service := d_check_service, F_check_service := F_check_service, g_check_service := He.glo_ok X G (c.fact 7 (f := .glo "check_service") rfl),
    a_shortest_way := _, d_shortest_way := d_shortest_way, F_shortest_way := F_shortest_way, g_shortest_way := He.glo_ok X G (c.fact 8 (f := .glo "shortest_way") rfl),
    a_longest_way := _, d_longest_way := d_longest_way, F_longest_way := F_longest_way, g_longest_way := He.glo_ok X G (c.fact 9 (f := .glo "longest_way") rfl),
    a_late_choices := _, d_late_choices := d_late_choices, F_late_choices := F_late_choices, g_late_choices := He.glo_ok X G (c.fact 10 (f := .glo "late_choices") rfl),
    a_early_choices := _, d_early_choices := d_early_choices, F_early_choices := F_early_choices, g_early_choices := He.glo_ok X G (c.fact 11 (f := .glo "early_choices") rfl),
    a_greatest_differences := _, d_greatest_differences := d_greatest_differences, F_greatest_differences := F_greatest_differences, g_greatest_differences := He.glo_ok X G (c.fact 12 (f := .glo "greatest_differences") rfl),
    a_separate_entries := _, d_separate_entries := d_separate_entries, F_separate_entries := F_separate_entries, g_separate_entries := He.glo_ok X G (c.fact 13 (f := .glo "separate_entries") rfl),
    a_difference_schedule := _, d_difference_schedule := d_difference_schedule, F_difference_schedule := F_difference_schedule, g_difference_schedule := He.glo_ok X G (c.fact 14 (f := .glo "difference_schedule") rfl),
    a_act_times := _, d_act_times := d_act_times, F_act_times := F_act_times, g_act_times := He.glo_ok X G (c.fact 15 (f := .glo "act_times") rfl),
    a_check_windows := _, d_check_windows := d_check_windows, F_check_windows := F_check_windows, g_check_windows := He.glo_ok X G (c.fact 16 (f := .glo "check_windows") rfl),
    a_deciding_pair := _, d_deciding_pair := d_deciding_pair, F_deciding_pair := F_deciding_pair, g_deciding_pair := He.glo_ok X G (c.fact 17 (f := .glo "deciding_pair") rfl),
    a_deciding_pairs := _, d_deciding_pairs := d_deciding_pairs, F_deciding_pairs := F_deciding_pairs, g_deciding_pairs := He.glo_ok X G (c.fact 18 (f := .glo "deciding_pairs") rfl),
    a_least_windows := _, d_least_windows := d_least_windows, F_least_windows := F_least_windows, g_least_windows := He.glo_ok X G (c.fact 19 (f := .glo "least_windows") rfl),
    a_memory_spans := _, d_memory_spans := d_memory_spans, F_memory_spans := F_memory_spans, g_memory_spans := He.glo_ok X G (c.fact 20 (f := .glo "memory_spans") rfl),
    a_least_reuse_time := _, d_least_reuse_time := d_least_reuse_time, F_least_reuse_time := F_least_reuse_time, g_least_reuse_time := He.glo_ok X G (c.fact 21 (f := .glo "least_reuse_time") rfl),
    a_reuse_conflict := _, d_reuse_conflict := d_reuse_conflict, F_reuse_conflict := F_reuse_conflict, g_reuse_conflict := He.glo_ok X G (c.fact 22 (f := .glo "reuse_conflict") rfl),
    a__law_dice := _, d__law_dice := d__law_dice, F__law_dice := F__law_dice, g__law_dice := He.glo_ok X G (c.fact 23 (f := .glo "_law_dice") rfl),
    a__law_next := _, d__law_next := d__law_next, F__law_next := F__law_next, g__law_next := He.glo_ok X G (c.fact 24 (f := .glo "_law_next") rfl),
    a__law_like := _, d__law_like := d__law_like, F__law_like := F__law_like, g__law_like := He.glo_ok X G (c.fact 25 (f := .glo "_law_like") rfl),
    a__law_call := _, d__law_call := d__law_call, F__law_call := F__law_call, g__law_call := He.glo_ok X G (c.fact 26 (f := .glo "_law_call") rfl),
    a__law_system := _, d__law_system := d__law_system, F__law_system := F__law_system, g__law_system := He.glo_ok X G (c.fact 27 (f := .glo "_law_system") rfl),
    a__law_played := _, d__law_played := d__law_played, F__law_played := F__law_played, g__law_played := He.glo_ok X G (c.fact 28 (f := .glo "_law_played") rfl),
    a__law_is_schedule := _, d__law_is_schedule := d__law_is_schedule, F__law_is_schedule := F__law_is_schedule, g__law_is_schedule := He.glo_ok X G (c.fact 29 (f := .glo "_law_is_schedule") rfl),
    a_law := _, d_law := d_law, F_law := F_law, g_law := He.glo_ok X G (c.fact 30 (f := .glo "law") rfl),
    b_bool := He.free_ok X G (c.fact 31 (f := .free "bool") rfl),
    b_enumerate := He.free_ok X G (c.fact 32 (f := .free "enumerate") rfl),
    b_int := He.free_ok X G (c.fact 33 (f := .free "int") rfl),
    b_isinstance := He.free_ok X G (c.fact 34 (f := .free "isinstance") rfl),
    b_len := He.free_ok X G (c.fact 35 (f := .free "len") rfl),
    b_list := He.free_ok X G (c.fact 36 (f := .free "list") rfl),
    b_max := He.free_ok X G (c.fact 37 (f := .free "max") rfl),
    b_min := He.free_ok X G (c.fact 38 (f := .free "min") rfl),
    b_range := He.free_ok X G (c.fact 39 (f := .free "range") rfl),
    b_set := He.free_ok X G (c.fact 40 (f := .free "set") rfl),
    b_sorted := He.free_ok X G (c.fact 41 (f := .free "sorted") rfl),
    b_str := He.free_ok X G (c.fact 42 (f := .free "str") rfl),
    b_tuple := He.free_ok X G (c.fact 43 (f := .free "tuple") rfl),
    t_LAST_TICK := t_LAST_TICK, c_LAST_TICK := c_LAST_TICK,
    t_LONGEST_WINDOW := t_LONGEST_WINDOW, c_LONGEST_WINDOW := c_LONGEST_WINDOW,
    t_MOST_CALLS := t_MOST_CALLS, c_MOST_CALLS := c_MOST_CALLS,
    t_MOST_OFFSETS := t_MOST_OFFSETS, c_MOST_OFFSETS := c_MOST_OFFSETS,
    t_MOST_SERVICES := t_MOST_SERVICES, c_MOST_SERVICES := c_MOST_SERVICES }, ?_⟩
  have e := hfa.symm.trans (He.glo_ok X G (c.fact 30 (f := .glo "law") rfl))
  cases e
  rfl
theorem law_keeps (hmath : ∀ ns : List Int, ns.length ≤ 63 → m_law ns = some true) : RW.Holds := by
  w_on; o_law
  refine HandSHeadRun.head_any (r := OpenLaw.row RW) (q := view (OpenLaw.row RW).prog [45]) (H := hk) (ob := ob) (M := 3000) (loose := names) (d := HandSHeadRun.topDef (OpenLaw.row RW).prog 45) (kwd := []) ob_eq
    (by kernel_rfl) (fun s => by kernel_rfl) run (by kernel_rfl) (by kernel_rfl) (by kernel_rfl) (by rfl) (by first | assumption | decide +kernel) (by decide +kernel) ⟨rfl, rfl, rfl, rfl, rfl, by decide +kernel⟩ ?hw ?hc
  case hw => w_witness2
  case hc =>
    refine L2.walk_ofE (l := RW) (n := 63) (k := 11) (x := "_law_script") (CX := L2.CX0) rfl (by decide) (by kernel_rfl) ⟨rfl, by decide, by decide⟩ ?F (fun _ _ _ _ z => z)
    intro w mg fa h Y G hmg0
    obtain ⟨K, KX, c⟩ := Y
    have hmg : mg ("law" : PySem.Str) = some (.ref fa) := by
      have e : (HandSHeadRun.topDef (OpenLaw.row RW).prog 45).name = ("law" : PySem.Str) := by kernel_rfl
      rw [← e]
      exact hmg0
    obtain ⟨T, rfl⟩ := facts KX G hmg c
    have b := FunD.bindsA (ps := ["_law_script"]) T.F_law fun _ _ _ _ _ _ us hl => match us, hl with | [_], _ => rfl
    refine ⟨K, T.d_law, SpP K [true] R_law, KX, fun s v => b s [v] rfl, fun H a ns hl _ hS => ⟨fun _ => False, [.lst (ns.map .int)], .bl true, ⟨ns, true, hmath ns hl, rfl, rfl⟩, fun _ z => z.elim, ⟨⟨a, ns.map V.int, rfl, by rw [show (fun b : Addr => true = true ∧ False) = fun _ => False from funext fun _ => propext ⟨fun z => z.2, fun z => z.elim⟩, hid_no]; exact hS, RpL.ofInts ns⟩, trivial⟩, fun v H' _ rv => ?_⟩, fun base _ _ => ok_law T⟩
    have rv : v = V.bl true := rv
    subst rv
    rfl
end K10
theorem PySem.Challenge.cw_onceonly_k10_reuse_times_holds : PySem.Challenge.rw_onceonly_k10_reuse_times.Holds := by
  exact K10.law_keeps fun ns _ => K10.law_true ns
