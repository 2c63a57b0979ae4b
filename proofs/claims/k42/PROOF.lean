import PyProof.Rows.All
import Wide.All
import OpenK.AllK
import Wide.FinOn
import HandS.ForSpec
import HandS.Comp
import HandS.Iter
import HandS.Dict
import HandS.Text
import HandS.Deep
import HandS.TupAny
import HandS.Gcd
import HandS.Conv
import HandS.Lambda
import HandS.ExcInit
import HandS.FStr
import HandS.ExcIs
import HandS.ExcField
import HandS.IsInst
import HandS.Flow
import HandS.SortInts
import HandS.Defaults
import HandS.TupMul
import HandS.WideMore
import KE.GoesEnum
import HandS.CallSlots
import HandS.SetFor
import KE.DataMinMax
import HandS.Strs
import HandS.TryOnly
import KE.KExcIs
import HandS.EndTab
import HandS.Zip
import KE.KRevSl
import HandS.SortKw
import HandS.WideBits
import KE.KMathG
import KE.KNestM
import PySem.Challenge.RW_markring_k42_whole_turned_and_changed_ri
set_option Elab.async false
set_option linter.all false
set_option maxRecDepth 100000
set_option maxHeartbeats 1000000
/-! Values as plain data; a def as a function upon slots of plain data; the step from one to the other. -/
namespace MR
open PySem PySem.Spec PyProof.Rows L2

abbrev D := PyData
/-- a slot: nothing known; a datum that is never changed; a list that this slot alone holds (p: it is the caller's) -/
inductive Sl where
  | un | val (d : D) | own (p : Bool) (xs : List D)
abbrev Env := List Sl
/-- an error: its class's name, its fields -/
structure Er where
  cls : Str
  fs : List (Str × D)
/-- what an expression gives -/
inductive Rs where
  | val (d : D) | new (xs : List D) | slot (i : Nat) | err (x : Er)
abbrev Ev := Env → Option (Rs × Env)
/-- what a statement ends with -/
inductive Out where
  | nx | ret (r : Rs) | brk | ct | err (x : Er)
abbrev Stm := Env → Option (Out × Env)
abbrev FnSem := List Sl → Option (Rs × List Sl)

/-! ### data in a heap -/
section
variable {K : PySem.W.Frag} {H H' : Hp}
abbrev Ex (H H' : Hp) : Prop := Same H H'
theorem Ex.new {H : Hp} {p : Addr} {o : HO} (h : H p = none) : Ex H (upd H p o) := fun a u e => by
  rw [upd_ne (ne_of_none e h)]
  exact e
/-- the names of the code objects of each table; scr: lists that are data may stand anywhere -/
class Tq where
  q : Addr → Str
  dom : Addr → Prop
  scr : Prop
variable [Tq]
/-- a list that is data -/
structure SqD (K : PySem.W.Frag) (H : Hp) (a : Addr) (us : List V) : Prop where
  s : SqL K H a us
  n : Tq.scr ∨ H a = some (.lst us)
instance {K : PySem.W.Frag} {H : Hp} {a : Addr} {us : List V} : Coe (SqD K H a us) (SqL K H a us) := ⟨SqD.s⟩
theorem SqD.of {K : PySem.W.Frag} {H : Hp} {a : Addr} {us : List V} (h : H a = some (.lst us)) : SqD K H a us := ⟨SqL.of h, .inr h⟩
theorem ex_l {K : PySem.W.Frag} {H H' : Hp} {a : Addr} {us : List V} (e : Same H H') (h : SqD K H a us) : SqD K H' a us := ⟨Same.seq e h.s, h.n.imp id (e _ _)⟩
/-- a tuple that is never changed and has no dict of its own: locked as the object o, or written -/
def SqF (K : PySem.W.Frag) (H : Hp) (a : Addr) (xs : List V) : Prop :=
  (∃ o : Obj, o.dict = none ∧ H a = some (.frz o (.tup xs))) ∨
    ∃ (o : Obj) (its : Array Value) (n : Nat), o.dict = none ∧ K.lookup a = some o ∧ o.cls = .type "tuple" ∧ o.data = .seq its n ∧ its.size ≤ sizeLine ∧ Vals xs its.toList
theorem SqF.t {a : Addr} {xs : List V} (h : SqF K H a xs) : SqT K H a xs := by
  rcases h with ⟨o, _, h⟩ | ⟨o, its, n, _, h⟩
  · exact .inl (.inr ⟨o, h⟩)
  · exact .inr ⟨o, its, n, h⟩
/-- what a field of an error holds -/
def fldV : V → D
  | .int i => .int i
  | .str x => .str x
  | .bl b => .bool b
  | _ => .none
def fldOk : V → Bool
  | .int _ => true
  | .str _ => true
  | .bl _ => true
  | .non => true
  | _ => false
/-- a caught error: where it stands, where its dict stands, its fields; without a dict -/
def excL (a dd : Addr) (us : List (Str × V)) : List (D × D) := (.int (a : Nat), .int (dd : Nat)) :: us.map fun p => (.str p.1, fldV p.2)
def excL0 (a : Addr) : List (D × D) := [(.int (a : Nat), .none)]
mutual
/-- the value v stands for the datum d -/
inductive Dp (K : PySem.W.Frag) (H : Hp) : V → D → Prop
  | non : Dp K H .non .none
  | bl (b : Bool) : Dp K H (.bl b) (.bool b)
  | int (i : Int) : Dp K H (.int i) (.int i)
  | str (x : Str) : Dp K H (.str x) (.str x)
  | lst {a : Addr} {us : List V} {ds : List D} (h1 : SqD K H a us) (h2 : DpAll K H us ds) : Dp K H (.ref a) (.list ds)
  | tup {a : Addr} {us : List V} {ds : List D} (h1 : SqF K H a us) (h2 : DpAll K H us ds) : Dp K H (.ref a) (.tuple ds)
  | exc0 {a : Addr} : Dp K H (.ref a) (.dict (excL0 a))
  | exc {a dd : Addr} {us : List (Str × V)} (h2 : H dd = some (.xd us)) (h3 : us.all (fun p => fldOk p.2) = true) : Dp K H (.ref a) (.dict (excL a dd us))
inductive DpAll (K : PySem.W.Frag) (H : Hp) : List V → List D → Prop
  | nil : DpAll K H [] []
  | cons {v : V} {vs : List V} {d : D} {ds : List D} (h : Dp K H v d) (t : DpAll K H vs ds) : DpAll K H (v :: vs) (d :: ds)
end
mutual
/-- as the hand layer says it -/
theorem Dp.old : ∀ (d : D) (v : V), PyData.canLay0 d = true → Dp K H v d → L2.Dp K H v d
  | .none, _, _, h => by cases h; exact .non
  | .bool b, _, _, h => by cases h; exact .bl b
  | .int i, _, _, h => by cases h; exact .int i
  | .str x, _, _, h => by cases h; exact .str x
  | .list ds, _, c, h => by
    cases h with
    | lst a b => exact .lst a.s (DpAll.old ds _ (by unfold PyData.canLay0 at c; exact c) b)
  | .tuple ds, _, c, h => by
    cases h with
    | tup a b => exact .tup a.t (DpAll.old ds _ (by unfold PyData.canLay0 at c; exact c) b)
  | .dict _, _, c, _ => by unfold PyData.canLay0 at c; cases c
theorem DpAll.old : ∀ (ds : List D) (vs : List V), PyData.canLayAll0 ds = true → DpAll K H vs ds → L2.DpAll K H vs ds
  | [], _, _, h => by cases h; exact .nil
  | d :: ds, _, c, h => by
    unfold PyData.canLayAll0 at c
    cases h with
    | cons a b => exact .cons (Dp.old d _ (Bool.and_eq_true_iff.mp c).1 a) (DpAll.old ds _ (Bool.and_eq_true_iff.mp c).2 b)
end
/-! the cases of a value -/
theorem Dp.isList {a : Addr} {ds : List D} {v : V} (h : Dp K H v (.list ds)) : ∃ a us, v = .ref a ∧ SqD K H a us ∧ DpAll K H us ds := by
  cases h with
  | lst a b => exact ⟨_, _, rfl, a, b⟩

theorem ex_f {a : Addr} {xs : List V} (e : Ex H H') (h : SqF K H a xs) : SqF K H' a xs := by
  rcases h with ⟨o, n, h⟩ | h
  · exact .inl ⟨o, n, e _ _ h⟩
  · exact .inr h
mutual
theorem dp_mono (e : Ex H H') : ∀ (d : D) (v : V), Dp K H v d → Dp K H' v d := fun d v h => by
  cases h with
  | non => exact .non
  | bl b => exact .bl b
  | int i => exact .int i
  | str x => exact .str x
  | lst a b => exact .lst (ex_l e a) (dpa_mono e _ _ b)
  | tup a b => exact .tup (ex_f e a) (dpa_mono e _ _ b)
  | exc0 => exact .exc0
  | exc a b => exact .exc (e _ _ a) b
theorem dpa_mono (e : Ex H H') : ∀ (ds : List D) (vs : List V), DpAll K H vs ds → DpAll K H' vs ds
  | [], _, h => by cases h; exact .nil
  | d :: ds, _, h => by
    cases h with
    | cons a b => exact .cons (dp_mono e d _ a) (dpa_mono e ds _ b)
end
theorem dpa_len : ∀ {vs : List V} {ds : List D}, DpAll K H vs ds → vs.length = ds.length
  | _, _, .nil => rfl
  | _, _, .cons _ t => by simp [dpa_len t]
theorem dpa_get : ∀ {vs : List V} {ds : List D} {i : Nat} {d : D}, DpAll K H vs ds → ds[i]? = some d → ∃ v, vs[i]? = some v ∧ Dp K H v d
  | _, _, i, d, .nil, h => by simp at h
  | _, _, 0, d, .cons a t, h => by simp at h; subst h; exact ⟨_, rfl, a⟩
  | _, _, i + 1, d, .cons a t, h => by
    obtain ⟨v, e, q⟩ := dpa_get (i := i) (d := d) t (by simpa using h)
    exact ⟨v, by simpa using e, q⟩
theorem dpa_app : ∀ {vs us : List V} {ds es : List D}, DpAll K H vs ds → DpAll K H us es → DpAll K H (vs ++ us) (ds ++ es)
  | _, _, _, _, .nil, q => q
  | _, _, _, _, .cons a t, q => .cons a (dpa_app t q)
theorem dpa_set : ∀ {vs : List V} {ds : List D} {v : V} {d : D} (i : Nat), DpAll K H vs ds → Dp K H v d → DpAll K H (vs.set i v) (ds.set i d)
  | _, _, _, _, _, .nil, _ => .nil
  | _, _, _, _, 0, .cons _ t, q => .cons q t
  | _, _, _, _, i + 1, .cons a t, q => .cons a (dpa_set i t q)
theorem dpa_take : ∀ {vs : List V} {ds : List D} (n : Nat), DpAll K H vs ds → DpAll K H (vs.take n) (ds.take n)
  | _, _, 0, _ => .nil
  | _, _, _ + 1, .nil => .nil
  | _, _, n + 1, .cons a t => .cons a (dpa_take n t)
theorem dpa_drop : ∀ {vs : List V} {ds : List D} (n : Nat), DpAll K H vs ds → DpAll K H (vs.drop n) (ds.drop n)
  | _, _, 0, h => h
  | _, _, _ + 1, .nil => .nil
  | _, _, n + 1, .cons _ t => dpa_drop n t
theorem dpa_erase : ∀ {vs : List V} {ds : List D} (n : Nat), DpAll K H vs ds → DpAll K H (vs.eraseIdx n) (ds.eraseIdx n)
  | _, _, _, .nil => .nil
  | _, _, 0, .cons a t => t
  | _, _, n + 1, .cons a t => .cons a (dpa_erase n t)
theorem dpa_rev : ∀ {vs : List V} {ds : List D}, DpAll K H vs ds → DpAll K H vs.reverse ds.reverse
  | _, _, .nil => .nil
  | _, _, .cons a t => by
    rw [List.reverse_cons, List.reverse_cons]
    exact dpa_app (dpa_rev t) (.cons a .nil)
/-- lists of ints -/
theorem dpa_ints : ∀ {vs : List V} {ns : List Int}, DpAll K H vs (ns.map PyData.int) → vs = ns.map V.int
  | _, [], h => by cases h; rfl
  | _, n :: r, h => by
    cases h with
    | cons a t => cases a; rw [List.map_cons, dpa_ints t]
theorem ints_dpa : ∀ (ns : List Int), DpAll K H (ns.map V.int) (ns.map PyData.int)
  | [] => .nil
  | n :: r => .cons (.int n) (ints_dpa r)
end

/-! ### slots -/
variable [Tq]
/-- the tables go on telling names alike -/
def TK (H H' : Hp) : Prop := ∀ P, LamX.TabS H P (Tq.q P) → LamX.TabS H' P (Tq.q P)
theorem TK.refl (H : Hp) : TK H H := fun _ h => h
theorem TK.trans {H H1 H2 : Hp} (a : TK H H1) (b : TK H1 H2) : TK H H2 := fun P h => b P (a P h)
/-- what is known of the tables -/
def Tal (F H : Hp) : Prop := (∀ P, Tq.dom P → LamX.TabS H P (Tq.q P)) ∧ ∀ b ps, F b ≠ some (.tbl ps)
theorem Tal.kp {F H H' : Hp} (a : Tal F H) (t : TK H H') : Tal F H' := ⟨fun P h => t P (a.1 P h), a.2⟩
/-- all that no slot holds stays as it is, but for the tables; these go on telling names alike -/
def Kp (O : Nat → Addr → Prop) (H H' : Hp) : Prop := (∀ b o, H b = some o → (∀ i, ¬ O i b) → (∀ ps, o ≠ .tbl ps) → H' b = some o) ∧ TK H H'
theorem tabS_upd {H : Hp} {P a : Addr} {q : Str} {vs : List V} {o : HO} (h : LamX.TabS H P q) (ha : H a = some (.lst vs)) : LamX.TabS (upd H a o) P q := by
  obtain ⟨ps, h1, h2, h3⟩ := h
  refine ⟨ps, ?_, h2, fun pos cv hc => ?_⟩
  · rw [upd_ne]
    · exact h1
    · rintro rfl
      rw [ha] at h1
      cases h1
  · obtain ⟨c, e1, e2⟩ := h3 pos cv hc
    refine ⟨c, e1, ?_⟩
    rw [upd_ne]
    · exact e2
    · rintro rfl
      rw [ha] at e2
      unfold LamX.CodeO at e2
      cases e2
theorem nt_upd {H : Hp} {p : Addr} {u : HO} (nu : ∀ ps, u ≠ .tbl ps) : ∀ b ps, upd H p u b = some (.tbl ps) → H b = some (.tbl ps) := fun b ps h => by
  by_cases hb : b = p
  · subst hb
    rw [upd_same] at h
    exact absurd (Option.some.inj h) (nu ps)
  · rw [upd_ne hb] at h
    exact h
theorem Tal.put {F H : Hp} {p : Addr} {u : HO} (a : Tal F H) (nu : ∀ ps, u ≠ .tbl ps) : Tal (upd F p u) H := ⟨a.1, fun b ps h => a.2 b ps (nt_upd nu b ps h)⟩
theorem Tal.nt {F F' H : Hp} (a : Tal F H) (nu : ∀ b ps, F' b = some (.tbl ps) → F b = some (.tbl ps)) : Tal F' H := ⟨a.1, fun b ps h => a.2 b ps (nu b ps h)⟩
theorem tk_upd {H : Hp} {a : Addr} {vs : List V} {o : HO} (ha : H a = some (.lst vs)) (no : ∀ ps, o ≠ .tbl ps) : TK H (upd H a o) := fun P h => tabS_upd h ha
theorem tk_ext {H H' : Hp} (hh : ∀ b o, H b = some o → H' b = some o) : TK H H' := fun P h => h.ext hh
/-- what a slot says; P: the addresses that it holds alone -/
def SlOk (K : PySem.W.Frag) (F H : Hp) : Sl → Option V → (Addr → Prop) → Prop
  | .un, _, P => ∀ a, ¬ P a
  | .val d, x, P => (∃ v, x = some v ∧ Dp K F v d) ∧ ∀ a, ¬ P a
  | .own _ xs, x, P => ∃ a vs, x = some (.ref a) ∧ H a = some (.lst vs) ∧ F a = none ∧ DpAll K F vs xs ∧ ∀ b, P b ↔ b = a
/-- nothing there, but a table -/
def No (H : Hp) (p : Addr) : Prop := ∀ o, H p = some o → ∃ ps, o = .tbl ps
theorem No.of {H : Hp} {p : Addr} (h : H p = none) : No H p := fun o q => by rw [h] at q; cases q
theorem No.no {H : Hp} {p : Addr} {ws : List V} {X : Prop} (h : No H p) (q : H p = some (.lst ws)) : X := by
  obtain ⟨ps, z⟩ := h _ q
  cases z
instance {H : Hp} {p : Addr} : Coe (H p = none) (No H p) := ⟨No.of⟩
structure Sta (K : PySem.W.Frag) (F H : Hp) (σ : L2.St) (e : Env) (O : Nat → Addr → Prop) : Prop where
  ex : Ex F H
  len : σ.length = e.length
  slot : ∀ i s, e[i]? = some s → ∃ x, σ[i]? = some x ∧ SlOk K F H s x (O i)
  out : ∀ i a, O i a → i < e.length
  sep : ∀ i j a, O i a → O j a → i = j
  tab : Tal F H
/-- from one state to a later one -/
structure Stp (K : PySem.W.Frag) (F H : Hp) (σ : L2.St) (e : Env) (O : Nat → Addr → Prop) (F' H' : Hp) (σ' : L2.St) (e' : Env) (O' : Nat → Addr → Prop) : Prop where
  sta : Sta K F' H' σ' e' O'
  same : e'.length = e.length
  up : Ex F F'
  new : ∀ p o, F' p = some o → F p = none → No H p ∨ ∃ i, O i p
  keep : Kp O H H'
  grow : ∀ b, No H' b → No H b
  own : ∀ i p, O' i p → (∃ j, O j p) ∨ No H p
  pin : ∀ j xs, e[j]? = some (.own true xs) → (∃ ys, e'[j]? = some (.own true ys)) ∧ σ'[j]? = σ[j]? ∧ ∀ a, O j a → O' j a
section
variable {K : PySem.W.Frag} {F H F1 H1 F2 H2 : Hp} {σ σ1 σ2 : L2.St} {e e1 e2 : Env} {O O1 O2 : Nat → Addr → Prop}
theorem Stp.refl (s : Sta K F H σ e O) : Stp K F H σ e O F H σ e O :=
  ⟨s, rfl, fun _ _ h => h, fun p o h n => (by rw [n] at h; cases h), ⟨fun _ _ h _ _ => h, TK.refl _⟩, fun _ h => h, fun i p h => Or.inl ⟨i, h⟩, fun j xs h => ⟨⟨xs, h⟩, rfl, fun _ h => h⟩⟩
theorem Stp.trans (a : Stp K F H σ e O F1 H1 σ1 e1 O1) (b : Stp K F1 H1 σ1 e1 O1 F2 H2 σ2 e2 O2) : Stp K F H σ e O F2 H2 σ2 e2 O2 where
  sta := b.sta
  same := b.same.trans a.same
  up := a.up.trans b.up
  new := fun p o h n => by
    have back : No H1 p → No H p := a.grow p
    cases q : F1 p with
    | some u => exact a.new p u q n
    | none =>
      rcases b.new p o h q with z | ⟨i, z⟩
      · exact .inl (back z)
      · rcases a.own i p z with z | z
        · exact .inr z
        · exact .inl z
  keep := ⟨fun p o h n t => b.keep.1 p o (a.keep.1 p o h n t) (fun i z => by
    rcases a.own i p z with ⟨j, z⟩ | z
    · exact n j z
    · obtain ⟨ps, y⟩ := z o h
      exact t ps y) t, a.keep.2.trans b.keep.2⟩
  grow := fun p h => a.grow p (b.grow p h)
  own := fun i p h => by
    rcases b.own i p h with ⟨j, z⟩ | z
    · exact a.own j p z
    · exact .inr (a.grow p z)
  pin := fun j xs h => by
    obtain ⟨⟨ys, h1⟩, h2, h3⟩ := a.pin j xs h
    obtain ⟨z1, z2, z3⟩ := b.pin j ys h1
    exact ⟨z1, z2.trans h2, fun p q => z3 p (h3 p q)⟩
theorem Stp.back (a : Stp K F H σ e O F1 H1 σ1 e1 O1) {p : Addr} (z : No H1 p) : No H p := a.grow p z
end

/-! ### results -/
/-- the value v is the result r; B: the heap ahead of the expression -/
def RsOk (K : PySem.W.Frag) (B F H : Hp) (σ : L2.St) (e : Env) (O : Nat → Addr → Prop) : Rs → V → Prop
  | .val d, v => Dp K F v d
  | .new xs, v => ∃ a vs, v = .ref a ∧ H a = some (.lst vs) ∧ F a = none ∧ DpAll K F vs xs ∧ (∀ i, ¬ O i a) ∧ No B a
  | .slot i, v => ∃ p xs, e[i]? = some (.own p xs) ∧ σ[i]? = some (some v)
  | .err _, _ => False
section
variable {K : PySem.W.Frag} {B F H F1 H1 : Hp} {σ : L2.St} {e e1 : Env} {O O1 : Nat → Addr → Prop} {r : Rs} {v : V}
/-- as read-only data -/
def vw : Rs → Env → Option D
  | .val d, _ => some d
  | .new xs, _ => some (.list xs)
  | .slot i, e => match e[i]? with
    | some (.own _ xs) => some (.list xs)
    | _ => none
  | .err _, _ => none
/-- a slot's list: the object that stands there -/
theorem slot_at {i : Nat} {p : Bool} {xs : List D} (s : Sta K F H σ e O) (h : RsOk K B F H σ e O (.slot i) v) (q : e[i]? = some (.own p xs)) : ∃ a vs, v = .ref a ∧ σ[i]? = some (some (.ref a)) ∧ H a = some (.lst vs) ∧ F a = none ∧ DpAll K F vs xs ∧ ∀ b, O i b ↔ b = a := by
  obtain ⟨p', xs', h1, h2⟩ := h
  obtain ⟨x, e1, a, vs, rfl, h3, h4, h5, h6⟩ := s.slot i _ q
  have z := e1
  rw [h2] at z
  cases z
  exact ⟨a, vs, rfl, h2, h3, h4, h5, h6⟩
/-- a result stays through later steps (its slots as they are) -/
theorem RsOk.later (h : RsOk K B F H σ e O r v) (t : Stp K F H σ e O F1 H1 σ e1 O1) (hs : ∀ i p xs, r = .slot i → e[i]? = some (.own p xs) → ∃ p ys, e1[i]? = some (.own p ys)) : RsOk K B F1 H1 σ e1 O1 r v := by
  cases r with
  | val x => exact dp_mono t.up _ _ h
  | new xs =>
    obtain ⟨a, vs, rfl, h1, h2, h3, h4, h5⟩ := h
    refine ⟨a, vs, rfl, t.keep.1 a _ h1 h4 nofun, ?_, dpa_mono t.up _ _ h3, fun i z => ?_, h5⟩
    · cases q : F1 a with
      | none => rfl
      | some o =>
        rcases t.new a o q h2 with z | ⟨i, z⟩
        · exact z.no h1
        · exact (h4 i z).elim
    · rcases t.own i a z with ⟨j, z⟩ | z
      · exact h4 j z
      · exact z.no h1
  | slot i =>
    obtain ⟨p, xs, h1, h2⟩ := h
    obtain ⟨p', ys, h3⟩ := hs i p xs rfl h1
    exact ⟨p', ys, h3, h2⟩
  | err x => exact h.elim
theorem RsOk.base {B' : Hp} (h : RsOk K B F H σ e O r v) (hb : ∀ p, No B p → No B' p) : RsOk K B' F H σ e O r v := by
  cases r with
  | new xs =>
    obtain ⟨a, vs, e1, h1, h2, h3, h4, h5⟩ := h
    exact ⟨a, vs, e1, h1, h2, h3, h4, hb _ h5⟩
  | val x => exact h
  | slot i => exact h
  | err x => exact h
end
end MR

set_option Elab.async false
set_option linter.all false
set_option maxRecDepth 100000
set_option maxHeartbeats 1000000
namespace MR
open PySem PySem.Spec PyProof.Rows L2
variable [Tq]

/-! ### what is wanted behind an expression -/
def ErOk (K : PySem.W.Frag) (mg : Str → Option Value) (F H : Hp) (x : Er) (cls : Value) (d : Option Addr) : Prop :=
  ∃ C, mg x.cls = some (.ref C) ∧ cls = .ref C ∧
    ((x.fs = [] ∧ d = none) ∨ ∃ (dd : Addr) (fs : List (Str × V)), d = some dd ∧ F dd = some (.xd fs) ∧ fs.all (fun p => fldOk p.2) = true ∧ x.fs = fs.map fun p => (p.1, fldV p.2))
/-- what a result is to give, where it is no error -/
def OkOut (K : PySem.W.Frag) (F H : Hp) (σ : L2.St) (e : Env) (O : Nat → Addr → Prop) (r : Rs) (e' : Env) (Q : VK) : Prop :=
  ∀ v F' H' O', Stp K F H σ e O F' H' σ e' O' → RsOk K H F' H' σ e' O' r v → Q v H'
def ErOut (K : PySem.W.Frag) (mg : Str → Option Value) (W : WX) (F H : Hp) (σ : L2.St) (e : Env) (O : Nat → Addr → Prop) (r : Rs) (e' : Env) : Prop :=
  ∀ x cls d F' H' O', r = .err x → Stp K F H σ e O F' H' σ e' O' → ErOk K mg F' H' x cls d → W cls d σ H'
/-- a family of contexts with the same written part and module names -/
structure Fm where
  ι : Type
  C : ι → Cx
  K : PySem.W.Frag
  mg : Str → Option Value
  hK : ∀ i, (C i).K = K
  hM : ∀ i, (C i).mg = mg
/-- the expression ex does what f says -/
def PD (X : Fm) (W : WX) (ex : Expr) (f : Ev) : Prop :=
  ∃ t : TE, (∀ i, PE (X.C i) ex t) ∧ ∀ F H σ e O r e' Q, Sta X.K F H σ e O → f e = some (r, e') → OkOut X.K F H σ e O r e' Q → ErOut X.K X.mg W F H σ e O r e' → t σ H Q
/-- a new list is let go: it is never changed again -/
def settle : Rs → Rs
  | .new xs => .val (.list xs)
  | r => r
def PDs (X : Fm) (W : WX) (ex : Expr) (f : Ev) : Prop :=
  ∃ t : TE, (∀ i, PE (X.C i) ex t) ∧ ∀ F H σ e O r e' Q, Sta X.K F H σ e O → f e = some (r, e') → OkOut X.K F H σ e O (settle r) e' Q → ErOut X.K X.mg W F H σ e O r e' → t σ H Q
/-- a test -/
def TD (X : Fm) (W : WX) (ex : Expr) (f : Ev) : Prop :=
  ∃ t : TT, (∀ i, PT (X.C i) ex t) ∧ ∀ F H σ e O r e' (Q : Bool → Hp → Prop), Sta X.K F H σ e O → f e = some (r, e') →
    (∀ b F' H' O', r = .val (.bool b) → Stp X.K F H σ e O F' H' σ e' O' → Q b H') → (∀ d, r = .val d → ∃ b, d = .bool b) → (∀ xs, r ≠ .new xs) → (∀ i, r ≠ .slot i) → ErOut X.K X.mg W F H σ e O r e' → t σ H Q

section
variable {K : PySem.W.Frag} {F H F1 H1 B : Hp} {σ : L2.St} {e e1 : Env} {O O1 : Nat → Addr → Prop} {r : Rs} {v : V}
/-- a list that no slot holds is let go -/
theorem freeze {a : Addr} {vs : List V} {xs : List D} (t : Stp K F H σ e O F1 H1 σ e1 O1) (h1 : H1 a = some (.lst vs)) (h2 : F1 a = none) (h3 : DpAll K F1 vs xs) (h4 : ∀ i, ¬ O1 i a) (h5 : No H a) :
    Stp K F H σ e O (upd F1 a (.lst vs)) H1 σ e1 O1 := by
  have u : Ex F1 (upd F1 a (.lst vs)) := Ex.new h2
  refine ⟨⟨fun b o q => ?_, t.sta.len, fun i s q => ?_, t.sta.out, t.sta.sep, t.sta.tab.put nofun⟩, t.same, t.up.trans u, fun p o q n => ?_, t.keep, t.grow, t.own, t.pin⟩
  · by_cases hb : b = a
    · subst hb; rw [upd_same] at q; cases q; exact h1
    · rw [upd_ne hb] at q; exact t.sta.ex b o q
  · obtain ⟨x, e1, z⟩ := t.sta.slot i s q
    refine ⟨x, e1, ?_⟩
    cases s with
    | un => exact z
    | val d =>
      obtain ⟨⟨w, e2, e3⟩, e4⟩ := z
      exact ⟨⟨w, e2, dp_mono u _ _ e3⟩, e4⟩
    | own p ys =>
      obtain ⟨b, us, e2, e3, e4, e5, e6⟩ := z
      refine ⟨b, us, e2, e3, ?_, dpa_mono u _ _ e5, e6⟩
      rw [upd_ne]
      · exact e4
      · rintro rfl
        exact h4 i ((e6 b).mpr rfl)
  · by_cases hb : p = a
    · subst hb; exact .inl h5
    · rw [upd_ne hb] at q; exact t.new p o q n
theorem settled {Q : VK} (h : OkOut K F H σ e O (settle r) e1 Q) : OkOut K F H σ e O r e1 Q := by
  intro v F' H' O' t q
  cases r with
  | new xs =>
    obtain ⟨a, vs, rfl, h1, h2, h3, h4, h5⟩ := q
    exact h _ _ _ _ (freeze t h1 h2 h3 h4 h5) (.lst (SqD.of upd_same) (dpa_mono (Ex.new h2) _ _ h3))
  | val d => exact h _ _ _ _ t q
  | slot i => exact h _ _ _ _ t q
  | err x => exact h _ _ _ _ t q
end
theorem PD.settle {X : Fm} {W : WX} {ex : Expr} {f : Ev} (h : PD X W ex f) : PDs X W ex f := by
  obtain ⟨t, h1, h2⟩ := h
  exact ⟨t, h1, fun F H σ e O r e' Q s q k z => h2 F H σ e O r e' Q s q (settled k) z⟩

/-! ### views: read-only data, the items of a list among what is never changed -/
def Vw (K : PySem.W.Frag) (F H : Hp) (v : V) (d : D) : Prop :=
  match d with
  | .list ds => ∃ a vs, v = .ref a ∧ SqD K H a vs ∧ DpAll K F vs ds
  | d => Dp K F v d
section
variable {K : PySem.W.Frag} {F H F1 H1 B : Hp} {σ : L2.St} {e e1 : Env} {O O1 : Nat → Addr → Prop} {r : Rs} {v : V} {d : D}
theorem Vw.of (s : Ex F H) (h : Dp K F v d) : Vw K F H v d := by
  cases d with
  | list ds =>
    cases h with
    | lst a b => exact ⟨_, _, rfl, ex_l s a, b⟩
  | _ => exact h
theorem Vw.dp (s : Ex F H) (h : Vw K F H v d) : Dp K H v d := by
  cases d with
  | list ds =>
    obtain ⟨a, vs, rfl, h1, h2⟩ := h
    exact .lst h1 (dpa_mono s _ _ h2)
  | _ => exact dp_mono s _ _ h
theorem vw_vw (s : Sta K F H σ e O) (h : RsOk K B F H σ e O r v) (q : vw r e = some d) : Vw K F H v d := by
  cases r with
  | val x => cases q; exact .of s.ex h
  | new xs =>
    obtain ⟨a, vs, rfl, h1, h2, h3, _⟩ := h
    cases q
    exact ⟨a, vs, rfl, SqD.of h1, h3⟩
  | slot i =>
    obtain ⟨p, xs, h1, h2⟩ := h
    simp only [vw, h1] at q
    cases q
    obtain ⟨x, e1, a, vs, rfl, h3, h4, h5, _⟩ := s.slot i _ h1
    rw [h2] at e1
    cases e1
    exact ⟨a, vs, rfl, SqD.of h3, h5⟩
  | err x => exact h.elim
end
/-- things are made, nothing is changed -/
structure Al (F H F' H' : Hp) : Prop where
  up : Ex F F'
  hh : Ex H H'
  in_ : Ex F' H'
  new : ∀ p o, F' p = some o → F p = none → H p = none
  nt : ∀ b ps, F' b = some (.tbl ps) → F b = some (.tbl ps)
/-- a result of reading alone -/
def RvOk (K : PySem.W.Frag) (F H F' H' : Hp) : Rs → V → Prop
  | .val d, v => Dp K F' v d
  | .new xs, v => ∃ a vs, v = .ref a ∧ H' a = some (.lst vs) ∧ F' a = none ∧ DpAll K F' vs xs ∧ No H a
  | _, _ => False
def RvOut (K : PySem.W.Frag) (F H : Hp) (r : Rs) (Q : VK) : Prop := ∀ v F' H', Al F H F' H' → RvOk K F H F' H' r v → Q v H'
section
variable {K : PySem.W.Frag} {F H F1 H1 B : Hp} {σ : L2.St} {e e1 : Env} {O O1 : Nat → Addr → Prop} {r : Rs} {v : V} {d : D}
theorem Al.refl (h : Ex F H) : Al F H F H := ⟨Same.refl _, Same.refl _, h, fun p o q n => (by rw [n] at q; cases q), fun _ _ h => h⟩
theorem Al.tup {p : Addr} {u : HO} (h : Ex F H) (n : H p = none) (nu : ∀ ps, u ≠ .tbl ps := by nofun) : Al F H (upd F p u) (upd H p u) := by
  have nf : F p = none := by
    cases q : F p with
    | none => rfl
    | some o => rw [h p o q] at n; cases n
  refine ⟨Ex.new nf, Ex.new n, fun b o q => ?_, fun b o q z => ?_, nt_upd nu⟩
  · by_cases hb : b = p
    · subst hb; rw [upd_same] at q; cases q; exact upd_same
    · rw [upd_ne hb] at q; rw [upd_ne hb]; exact h b o q
  · by_cases hb : b = p
    · subst hb; exact n
    · rw [upd_ne hb] at q; rw [z] at q; cases q
theorem Al.lst {p : Addr} {vs : List V} (h : Ex F H) (n : H p = none) : Al F H F (upd H p (.lst vs)) :=
  ⟨Same.refl _, Ex.new n, fun b o q => (by rw [upd_ne (ne_of_none (h b o q) n)]; exact h b o q), fun b o q z => (by rw [z] at q; cases q), fun _ _ h => h⟩
theorem Al.stp (a : Al F H F1 H1) (s : Sta K F H σ e O) : Stp K F H σ e O F1 H1 σ e O := by
  refine ⟨⟨a.in_, s.len, fun i sl q => ?_, s.out, s.sep, (s.tab.kp (tk_ext a.hh)).nt a.nt⟩, rfl, a.up, fun p o q n => .inl (No.of (a.new p o q n)), ⟨fun b o q _ _ => a.hh b o q, tk_ext a.hh⟩, fun b q o z => ?_, fun i p q => .inl ⟨i, q⟩, fun j xs q => ⟨⟨xs, q⟩, rfl, fun _ h => h⟩⟩
  · obtain ⟨x, e1, z⟩ := s.slot i sl q
    refine ⟨x, e1, ?_⟩
    cases sl with
    | un => exact z
    | val d =>
      obtain ⟨⟨w, e2, e3⟩, e4⟩ := z
      exact ⟨⟨w, e2, dp_mono a.up _ _ e3⟩, e4⟩
    | own p ys =>
      obtain ⟨b, us, e2, e3, e4, e5, e6⟩ := z
      refine ⟨b, us, e2, a.hh _ _ e3, ?_, dpa_mono a.up _ _ e5, e6⟩
      cases y : F1 b with
      | none => rfl
      | some o =>
        have := a.new b o y e4
        rw [e3] at this; cases this
  · exact q o (a.hh b o z)
theorem RvOk.rs (a : Al F H F1 H1) (s : Sta K F H σ e O) (h : RvOk K F H F1 H1 r v) : RsOk K H F1 H1 σ e O r v := by
  cases r with
  | val x => exact h
  | new xs =>
    obtain ⟨p, vs, e1, h1, h2, h3, h4⟩ := h
    refine ⟨p, vs, e1, h1, h2, h3, fun i z => ?_, h4⟩
    have hi := s.out i p z
    obtain ⟨x, _, q⟩ := s.slot i _ (List.getElem?_eq_getElem hi)
    cases hs : e[i] with
    | un => rw [hs] at q; exact q p z
    | val d => rw [hs] at q; exact q.2 p z
    | own pp ys =>
      rw [hs] at q
      obtain ⟨b, us, _, e3, _, _, e6⟩ := q
      rw [(e6 p).mp z] at h4
      exact h4.no e3
  | slot i => exact h.elim
  | err x => exact h.elim
/-- behind t: a reading step -/
theorem OkOut.rv {Q : VK} (t : Stp K F H σ e O F1 H1 σ e1 O1) (h : OkOut K F H σ e O r e1 Q) : RvOut K F1 H1 r Q := fun v F' H' a q =>
  h v F' H' O1 (t.trans (a.stp t.sta)) ((RvOk.rs a t.sta q).base fun p z => t.back z)
end

/-! ### operands in a row -/
def sOp (g : D → D → Option Rs) (fa fb : Ev) : Ev := fun e => match fa e with
  | none => none
  | some (.err x, e1) => some (.err x, e1)
  | some (ra, e1) => match fb e1 with
    | none => none
    | some (.err x, e2) => some (.err x, e2)
    | some (rb, e2) => match vw (settle ra) e2, vw (settle rb) e2 with
      | some da, some db => (g da db).map fun r => (r, e2)
      | _, _ => none
/-- by data: the reading r does what g says; never an error -/
def OpG (K : PySem.W.Frag) (r : R2) (g : D → D → Option Rs) : Prop :=
  ∀ F H x y da db z Q, Ex F H → Vw K F H x da → Vw K F H y db → g da db = some z → RvOut K F H z Q → r x y H Q
/-- the cases of a first operand -/
theorem sOp_cases {g : D → D → Option Rs} {fa fb : Ev} {e : Env} {r : Rs} {e' : Env} (h : sOp g fa fb e = some (r, e')) :
    (∃ x, fa e = some (.err x, e') ∧ r = .err x) ∨ ∃ ra e1, fa e = some (ra, e1) ∧ (∀ x, ra ≠ .err x) ∧
      ((∃ x, fb e1 = some (.err x, e') ∧ r = .err x) ∨ ∃ rb da db, fb e1 = some (rb, e') ∧ (∀ x, rb ≠ .err x) ∧ vw (settle ra) e' = some da ∧ vw (settle rb) e' = some db ∧ g da db = some r) := by
  unfold sOp at h
  cases ha : fa e with
  | none => rw [ha] at h; cases h
  | some p =>
    obtain ⟨ra, e1⟩ := p
    rw [ha] at h
    have fin : (∀ x, ra ≠ .err x) → (match fb e1 with
        | none => none
        | some (.err x, e2) => some (.err x, e2)
        | some (rb, e2) => match vw (settle ra) e2, vw (settle rb) e2 with
          | some da, some db => (g da db).map fun r => (r, e2)
          | _, _ => none) = some (r, e') → ((∃ x, fb e1 = some (.err x, e') ∧ r = .err x) ∨ ∃ rb da db, fb e1 = some (rb, e') ∧ (∀ x, rb ≠ .err x) ∧ vw (settle ra) e' = some da ∧ vw (settle rb) e' = some db ∧ g da db = some r) := by
      intro hn h
      cases hb : fb e1 with
      | none => rw [hb] at h; cases h
      | some q =>
        obtain ⟨rb, e2⟩ := q
        rw [hb] at h
        have fin2 : (∀ x, rb ≠ .err x) → (match vw (settle ra) e2, vw (settle rb) e2 with
          | some da, some db => (g da db).map fun r => (r, e2)
          | _, _ => none) = some (r, e') → ∃ rb' da db, some (rb, e2) = some (rb', e') ∧ (∀ x, rb' ≠ .err x) ∧ vw (settle ra) e' = some da ∧ vw (settle rb') e' = some db ∧ g da db = some r := by
          intro hn2 h
          split at h
          · rename_i da db e3 e4
            cases hg : g da db with
            | none => rw [hg] at h; cases h
            | some z => rw [hg] at h; cases h; exact ⟨rb, da, db, rfl, hn2, e3, e4, hg⟩
          · cases h
        cases rb with
        | err x => cases h; exact .inl ⟨x, rfl, rfl⟩
        | val d => exact .inr (fin2 (fun _ z => nomatch z) h)
        | new xs => exact .inr (fin2 (fun _ z => nomatch z) h)
        | slot i => exact .inr (fin2 (fun _ z => nomatch z) h)
    cases ra with
    | err x => cases h; exact .inl ⟨x, rfl, rfl⟩
    | val d => exact .inr ⟨_, e1, rfl, (fun _ z => nomatch z), fin (fun _ z => nomatch z) h⟩
    | new xs => exact .inr ⟨_, e1, rfl, (fun _ z => nomatch z), fin (fun _ z => nomatch z) h⟩
    | slot i => exact .inr ⟨_, e1, rfl, (fun _ z => nomatch z), fin (fun _ z => nomatch z) h⟩
/-- two operands: the reading of an operation on them -/
theorem op_run {X : Fm} {W : WX} {ta tb : TE} {fa fb : Ev} {g : D → D → Option Rs} {R : R2} (hg : OpG X.K R g)
    (ka : ∀ F H σ e O r e' Q, Sta X.K F H σ e O → fa e = some (r, e') → OkOut X.K F H σ e O (settle r) e' Q → ErOut X.K X.mg W F H σ e O r e' → ta σ H Q)
    (kb : ∀ F H σ e O r e' Q, Sta X.K F H σ e O → fb e = some (r, e') → OkOut X.K F H σ e O (settle r) e' Q → ErOut X.K X.mg W F H σ e O r e' → tb σ H Q)
    {F H : Hp} {σ : L2.St} {e : Env} {O : Nat → Addr → Prop} {r : Rs} {e' : Env} {Q : VK} (s : Sta X.K F H σ e O) (h : sOp g fa fb e = some (r, e')) (k : OkOut X.K F H σ e O r e' Q) (z : ErOut X.K X.mg W F H σ e O r e') :
    tOp R ta tb σ H Q := by
  rcases sOp_cases h with ⟨x, h1, rfl⟩ | ⟨ra, e1, h1, n1, h2⟩
  · exact ka F H σ e O _ _ _ s h1 (fun v F' H' O' t q => q.elim) z
  · refine ka F H σ e O _ _ _ s h1 (fun v F1 H1 O1 t q => ?_) (fun x _ _ _ _ _ y => absurd y (n1 x))
    rcases h2 with ⟨x, h2, rfl⟩ | ⟨rb, da, db, h2, n2, va, vb, hr⟩
    · exact kb F1 H1 σ e1 O1 _ _ _ t.sta h2 (fun v F' H' O' t q => q.elim) fun x' cls d F' H' O' y t' w => z x' cls d F' H' O' y (t.trans t') w
    · refine kb F1 H1 σ e1 O1 _ _ _ t.sta h2 (fun w F2 H2 O2 t2 q2 => ?_) (fun x _ _ _ _ _ y => absurd y (n2 x))
      have q' : RsOk X.K H F2 H2 σ e' O2 (settle ra) v := q.later t2 fun i p xs y _ => by
        rw [y] at va
        unfold vw at va
        simp only at va
        split at va
        · rename_i p' ys hh; exact ⟨p', ys, hh⟩
        · cases va
      exact hg F2 H2 v w da db r Q t2.sta.ex (vw_vw t2.sta q' va) (vw_vw t2.sta q2 vb) hr (OkOut.rv (t.trans t2) k)
section
variable {X : Fm} {W : WX} {a b : Expr} {fa fb : Ev} {g : D → D → Option Rs} {R : R2} {pos : Pos}
theorem pd_bin {op : Operator} (ho : ∀ i, OpR (X.C i) (binaryOp op) R) (hg : OpG X.K R g) (ha : PDs X W a fa) (hb : PDs X W b fb) : PD X W (.BinOp a op b pos) (sOp g fa fb) := by
  obtain ⟨ta, pa, ka⟩ := ha
  obtain ⟨tb, pb, kb⟩ := hb
  exact ⟨_, fun i => pe_op (ho i) (pa i) (pb i), fun F H σ e O r e' Q s h k z => op_run hg ka kb s h k z⟩
theorem td_cmp {op : CmpOp} (ho : ∀ i, OpR (X.C i) (compareOp op) R) (hg : OpG X.K R g) (ha : PDs X W a fa) (hb : PDs X W b fb) (hm : behindInMarks op b = false) : TD X W (.Compare a [op] [b] pos) (sOp g fa fb) := by
  obtain ⟨ta, pa, ka⟩ := ha
  obtain ⟨tb, pb, kb⟩ := hb
  refine ⟨_, fun i => pt_cmpR (ho i) (pa i) (pb i) hm, fun F H σ e O r e' Q s h k kd kn ks z => op_run hg ka kb s h (fun v F' H' O' t q => ?_) z⟩
  cases r with
  | val d =>
    obtain ⟨b, rfl⟩ := kd d rfl
    cases q
    exact ⟨b, rfl, k b _ _ _ rfl t⟩
  | new xs => exact absurd rfl (kn xs)
  | slot i => exact absurd rfl (ks i)
  | err x => exact q.elim
end
end MR

set_option Elab.async false
set_option linter.all false
set_option maxRecDepth 100000
set_option maxHeartbeats 1000000
namespace MR
open PySem PySem.Spec PyProof.Rows L2
variable [Tq]
/-! ### new tuples, with what the heap holds of them -/
/-- a new tuple of xs -/
abbrev NewT (H : Hp) (xs : List V) (Q : VK) : Prop := ∀ p o, o.dict = none → H p = none → Q (.ref p) (upd H p (.frz o (.tup xs)))
/-- the object of a new tuple -/
def tobj (us : List Value) : Obj := { cls := .type "tuple", data := .seq us.toArray }
theorem new_t {X : Cx} {pins : List (Addr × Obj)} {σ : L2.St} {H : Hp} {s : Shared} {xs : List V} {us : List Value} {Q : VK} (I : Inv X pins σ H s) (r : Vals xs us) (z : xs.length ≤ sizeLine) (q : NewT H xs Q) :
    EP X pins σ Q (.ref s.heap.objs.size) { s with heap := s.heap.push (tobj us) } := by
  have f : H s.heap.objs.size = none := I.hok.fresh (Nat.le_refl _)
  have g : (s.heap.push (tobj us)).get? s.heap.objs.size = some (tobj us) := Heap.get?_push_size _ rfl
  refine ⟨.ref s.heap.objs.size, upd H s.heap.objs.size (.frz (tobj us) (.tup xs)), I.laid (t' := s.toks) (fun b u e => Heap.get?_push_of_some _ e) (Nat.le_refl _) ?_, rfl, q _ _ rfl f⟩
  exact ⟨g, z, us, r, ⟨_, g, rfl, _, rfl⟩⟩
def tTupF (t : TA) : TE := fun σ H Q => t σ H fun xs H1 => xs.length ≤ sizeLine ∧ NewT H1 xs Q
theorem pe_tupF {X : Cx} {es : List Expr} {t : TA} {pos : Pos} {x1} (h : PA X es t) : PE X (.Tuple es x1 pos) (tTupF t) :=
  ⟨fun pins s σ H Q I hq => wpAny_Tuple_spliced (thn (h.run pos pins s σ H _ I hq) fun us s1 ⟨xs, H1, I1, r, z, q⟩ => ⟨by rw [← r.length]; exact z, new_t I1 r z q⟩)⟩
section
variable {X : Cx}
/-- tuple(x) -/
def rTupOf (K : PySem.W.Frag) : List V → Hp → VK → Prop := fun vs H Q => ∃ p xs, vs = [.ref p] ∧ ((SqL K H p xs ∧ NewT H xs Q) ∨ (SqT K H p xs ∧ Q (.ref p) H))
theorem cr_tupOf : CallR X (.type "tuple") (rTupOf X.K) := by
  rintro pins s σ H vs us Q I r ⟨p, xs, rfl, h⟩
  obtain ⟨u, rfl, ru⟩ := vals1 r
  cases ru
  rcases h with ⟨h, q⟩ | ⟨h, q⟩
  · obtain ⟨its, rv, pl, hz⟩ := I.list h
    have hl := rv.length
    exact call_tuple_list pl.isList (fun h' kp => new_t (I.kept (t' := s.toks) kp) rv hz q) (by simp only [List.size_toArray] <;> omega)
  · obtain ⟨its, rv, pl, hz⟩ := I.tuple h
    exact call_tuple_same pl ⟨.ref p, H, I, rfl, q⟩
/-- t + u -/
def rCatF (K : PySem.W.Frag) : R2 := fun x y H Q => ∃ a b xs ys, x = .ref a ∧ y = .ref b ∧ SqT K H a xs ∧ SqT K H b ys ∧ xs.length + ys.length ≤ sizeLine ∧
  (xs = [] → Q (.ref b) H) ∧ (xs ≠ [] → ys = [] → Q (.ref a) H) ∧ (xs ≠ [] → ys ≠ [] → NewT H (xs ++ ys) Q)
theorem op_catF : OpR X (binaryOp .Add) (rCatF X.K) := by
  rintro pins s σ H x y v u Q I rx ry ⟨a, b, xs, ys, rfl, rfl, ha, hb, hz, q0, q1, q2⟩
  cases rx
  cases ry
  obtain ⟨its, r1, p1, _⟩ := I.tuple ha
  obtain ⟨its2, r2, p2, _⟩ := I.tuple hb
  by_cases hx : xs = []
  · subst hx
    cases r1
    exact cat_tup0 p1 p2 ⟨.ref b, H, I, rfl, q0 rfl⟩
  · exact HT.cat_tup p1 p2 (fun z => hx (r1.nil_iff.mp z)) (fun z => ⟨.ref a, H, I, rfl, q1 hx (r2.nil_iff.mp z)⟩) (fun z => new_t I (r1.append r2) (by rw [List.length_append]; exact hz) (q2 hx fun w => z (r2.nil_iff.mpr w))) (by rw [← r1.length, ← r2.length]; exact hz)
/-- t[lo:hi] -/
def rSlF (K : PySem.W.Frag) : V → Option Int → Option Int → Hp → VK → Prop := fun x lo hi H Q => ∃ a xs, x = .ref a ∧ SqT K H a xs ∧
  (HT.sIx xs.length 0 lo = 0 ∧ HT.sIx xs.length xs.length hi = xs.length → Q (.ref a) H) ∧ (¬ (HT.sIx xs.length 0 lo = 0 ∧ HT.sIx xs.length xs.length hi = xs.length) → NewT H (cutV xs lo hi) Q)
theorem sl_tupF : SlR X (rSlF X.K) := by
  rintro pins s σ H x v vl vu lo hi sl Q I rx hs pl pu ⟨a, xs, rfl, hx, q1, q2⟩
  cases rx
  obtain ⟨its, r, ht, hz⟩ := I.tuple hx
  have e : its.toArray.size = xs.length := by rw [List.size_toArray]; exact r.length.symm
  refine ⟨"tuple", _, PyProof.Rows.slot_tuple_getitem.lookup, ht.typeIs, ?_⟩
  by_cases c : HT.sIx xs.length 0 lo = 0 ∧ HT.sIx xs.length xs.length hi = xs.length
  · exact getItem_tuple_whole ht hs pl pu (by rw [e]; exact c) ⟨.ref a, H, I, rfl, q1 c⟩
  · refine HT.getItem_tuple_cut ht hs pl pu (by rw [e]; exact c) ?_ (by rw [e]; exact hz)
    rw [e]
    exact new_t I ((r.drop (HT.sIx xs.length 0 lo)).take (HT.sIx xs.length xs.length hi - HT.sIx xs.length 0 lo)) (Nat.le_trans (cutV_length xs lo hi) hz) (q2 c)
/-- t * 1 -/
theorem tuple_mul1 (l : Addr) (items : Array Value) (n : Nat) (dd : Option Addr) (sl : Array (Option Value)) (u : Tok) :
    Meets (Builtin.«tuple.__mul__» ⟨[.ref l, .int 1 u], []⟩) (fun _ R s => s.heap.get? l = some { cls := .type "tuple", dict := dd, data := .seq items n, slots := sl } ∧ R (.ok (.ret (Value.ref l))) s) :=
  .of_wp fun prog w A R s h => by
    obtain ⟨hp, g, d, tk, os⟩ := s
    obtain ⟨hl, h⟩ := h
    have f1 := AutoSeq1.idx_int
    wp_walk using wpAny_loadPart' hl
    repeat (first
      | (refine wpAny_ite_false (by decide) ?_; wp_walk using wpAny_loadPart' hl)
      | (refine wpAny_ite_true (by rw [show ((1 : Int) == 1) = true from rfl, Bool.or_true]) ?_; wp_walk using wpAny_loadPart' hl))
    exact ⟨_, rfl, h⟩
/-- t * 0 -/
theorem tuple_mul0 (l : Addr) (items : Array Value) (n : Nat) (dd : Option Addr) (sl : Array (Option Value)) (u : Tok) (c1 : (items.isEmpty || (0 : Int) == 1) = false) :
    Meets (Builtin.«tuple.__mul__» ⟨[.ref l, .int 0 u], []⟩) (fun _ R s => s.heap.get? l = some { cls := .type "tuple", dict := dd, data := .seq items n, slots := sl } ∧ R (.ok (.ret (Value.ref s.heap.objs.size))) { s with heap := s.heap.push { cls := Value.type "tuple", data := Data.seq #[] }, toks := s.toks }) :=
  .of_wp fun prog w A R s h => by
    obtain ⟨hp, g, d, tk, os⟩ := s
    obtain ⟨hl, h⟩ := h
    have f1 := AutoSeq1.idx_int
    wp_walk using wpAny_loadPart' hl
    repeat (first
      | (refine wpAny_ite_false (decide_eq_false (by rw [c1]; exact Bool.false_ne_true)) ?_; wp_walk using wpAny_loadPart' hl)
      | (refine wpAny_ite_true (by rw [show (decide ((0 : Int) ≤ 0)) = true from rfl, Bool.true_or]) ?_; wp_walk using wpAny_loadPart' hl)
      | (refine wpAny_ite_false (by decide) ?_; wp_walk using wpAny_loadPart' hl))
    exact ⟨_, rfl, h⟩
/-- t * k, k from 0 -/
def rRepF (K : PySem.W.Frag) : R2 := fun x y H Q => ∃ l k xs, x = .ref l ∧ y = .int k ∧ SqT K H l xs ∧ xs ≠ [] ∧ 0 ≤ k ∧ k ≤ 1000 ∧ xs.length ≤ 1000 ∧ (k = 1 → Q (.ref l) H) ∧ (k ≠ 1 → NewT H (List.replicate k.toNat xs).flatten Q)
theorem op_repF : OpR X (binaryOp .Mult) (rRepF X.K) := by
  rintro pins s σ H x y v u Q I rx ry ⟨l, k, xs, rfl, rfl, hT, ne, lo, hi, hl, q1, q⟩
  cases rx
  obtain ⟨t, rfl⟩ := ry
  obtain ⟨its, r, ⟨⟨cls, dd, data, sl⟩, ho, hc, n, hd⟩, _⟩ := I.tuple hT
  simp only at hc hd
  subst hc hd
  have el : its.length = xs.length := r.length.symm
  have en : its ≠ [] := by
    rintro rfl
    exact ne (List.eq_nil_of_length_eq_zero el.symm)
  have ee : its.toArray.isEmpty = false := by cases its <;> first | rfl | exact absurd rfl en
  have es : its.toArray.size = xs.length := by rw [List.size_toArray, el]
  refine wpAny_binaryOp_repeat_ref (U := "int") (T := "tuple") (by decide) ⟨_, ho, rfl⟩ (fun z => typeIs_int z k t) noFill_tuple_mul F.fills_int_mul F.slot_int_rmul repeat_tuple F.slot_int_index.lookup ?_
  refine call_meets F.slot_int_rmul (typeIs_int s k t) F.entry_int_rmul (F.args_int_rmul_2 _ _) (int_rmul_tuple k t l its.toArray n dd sl) ⟨ho, rfl, ⟨_, ho, rfl⟩, ?_⟩
  have hk : k = 0 ∨ k = 1 ∨ 2 ≤ k := by omega
  rcases hk with rfl | rfl | h2
  · refine call_meets F.slot_tuple_mul ⟨_, ho, rfl⟩ F.entry_tuple_mul (F.args_tuple_mul_2 _ _) (tuple_mul0 l its.toArray n dd sl t (by rw [ee]; rfl)) ⟨ho, ?_⟩
    exact new_t I (us := []) .nil (Nat.zero_le _) (q (by decide))
  · refine call_meets F.slot_tuple_mul ⟨_, ho, rfl⟩ F.entry_tuple_mul (F.args_tuple_mul_2 _ _) (tuple_mul1 l its.toArray n dd sl t) ⟨ho, ?_⟩
    exact ⟨.ref l, H, I, rfl, q1 rfl⟩
  have q := q (by omega)
  have room : ((its.toArray.size : Nat) : Int) * k ≤ 1000000 := by
    rw [es]
    have z : ((xs.length : Nat) : Int) * k ≤ 1000 * k := Int.mul_le_mul_of_nonneg_right (by omega) (by omega)
    omega
  have small : ∀ m : Nat, m ≤ 1000 → k.toNat * m ≤ 16777216 := fun m hm => Nat.le_trans (Nat.mul_le_mul (show k.toNat ≤ 1000 by omega) hm) (by decide)
  have d0 : (decide (k < -(2 ^ 63)) || decide (k ≥ 2 ^ 63)) = false := by rw [decide_eq_false (by omega), decide_eq_false (by omega)] <;> rfl
  have d1 : (its.toArray.isEmpty || k == 1) = false := by rw [ee, Bool.false_or, beq_eq_false_iff_ne]; omega
  have d2 : (decide (k ≤ 0) || its.toArray.isEmpty) = false := by rw [ee, Bool.or_false, decide_eq_false (by omega)]
  have d4 : Builtin.Tuple.tupleTooMany (((its.toArray.size : Nat) : Int) * k) = false := decide_eq_false (by rw [sizeLine_eq]; omega)
  have d5 : (List.foldl (fun x1 x2 => x1 ++ x2) #[] (List.replicate k.toNat its.toArray)).size ≤ sizeLine := by
    rw [size_rep, List.size_toArray, PyProof.Rows.lm_len_rep_flat, el, sizeLine_eq]
    exact small _ hl
  refine call_meets F.slot_tuple_mul ⟨_, ho, rfl⟩ F.entry_tuple_mul (F.args_tuple_mul_2 _ _) (tuple_mulW l its.toArray n dd sl k t d0 d1 d2 (by omega) d4 d5) ⟨ho, ?_⟩
  rw [size_rep]
  exact new_t I (r.rep k.toNat) (by rw [PyProof.Rows.lm_len_rep_flat, sizeLine_eq]; exact small _ hl) q
end
end MR

set_option Elab.async false
set_option linter.all false
set_option maxRecDepth 100000
set_option maxHeartbeats 1000000
namespace MR
open PySem PySem.Spec PyProof.Rows L2
variable [Tq]

/-! ### names and constants -/
def sVar (i : Nat) : Ev := fun e => match e[i]? with
  | some (.val d) => some (.val d, e)
  | some (.own _ _) => some (.slot i, e)
  | _ => none
def sC (d : D) : Ev := fun e => some (.val d, e)
section
variable {X : Fm} {W : WX}
theorem pd_var {i : Nat} {ex : Expr} (h : ∀ j, PE (X.C j) ex (tVar i)) : PD X W ex (sVar i) := by
  refine ⟨_, h, fun F H σ e O r e' Q s q k z => ?_⟩
  unfold sVar at q
  split at q
  · rename_i d hd
    cases q
    obtain ⟨x, e1, ⟨v, e2, e3⟩, _⟩ := s.slot i _ hd
    rw [e2] at e1
    exact ⟨v, e1, k v F H O (Stp.refl s) e3⟩
  · rename_i p xs hd
    cases q
    obtain ⟨x, e1, a, vs, rfl, e3, e4, e5, e6⟩ := s.slot i _ hd
    exact ⟨_, e1, k _ F H O (Stp.refl s) ⟨p, xs, hd, e1⟩⟩
  · cases q
theorem pd_c {ex : Expr} {v : V} {d : D} (h : ∀ j, PE (X.C j) ex (tC v)) (hd : ∀ F, Dp X.K F v d) : PD X W ex (sC d) := by
  refine ⟨_, h, fun F H σ e O r e' Q s q k z => ?_⟩
  cases q
  exact k v F H O (Stp.refl s) (hd F)
theorem pd_int {i j pos} : PD X W (.Constant (.int i) j pos) (sC (.int i)) := pd_c (fun _ => pe_int) fun _ => .int i
theorem pd_bl {b j pos} : PD X W (.Constant (.bool b) j pos) (sC (.bool b)) := pd_c (fun _ => pe_bl) fun _ => .bl b
theorem pd_non {j pos} : PD X W (.Constant .none j pos) (sC .none) := pd_c (fun _ => pe_non) fun _ => .non
theorem pd_str {x j pos} : PD X W (.Constant (.str x) j pos) (sC (.str x)) := pd_c (fun _ => pe_str) fun _ => .str x
/-- a module's constant -/
theorem pd_glob {x : Str} {i : Int} {t : Tok} {pos : Pos} (hg : ∀ j, Gl (X.C j) x) (hm : ∀ j, (X.C j).mg x = some (.int i t)) (hd : (x == ("__debug__" : Str)) = false := by decide) : PD X W (.Name x pos) (sC (.int i)) := pd_c (fun j => pe_glob (v := .int i) (hg j) (hm j) ⟨_, rfl⟩ hd) fun _ => .int i
end

/-! ### one operand first -/
def bnd (fa : Ev) (k : Rs → Env → Option (Rs × Env)) : Ev := fun e => match fa e with
  | none => none
  | some (.err x, e1) => some (.err x, e1)
  | some (ra, e1) => k ra e1
theorem bnd_cases {fa : Ev} {k : Rs → Env → Option (Rs × Env)} {e : Env} {r : Rs} {e' : Env} (h : bnd fa k e = some (r, e')) :
    (∃ x, fa e = some (.err x, e') ∧ r = .err x) ∨ ∃ ra e1, fa e = some (ra, e1) ∧ (∀ x, ra ≠ .err x) ∧ k ra e1 = some (r, e') := by
  unfold bnd at h
  cases ha : fa e with
  | none => rw [ha] at h; cases h
  | some p =>
    obtain ⟨ra, e1⟩ := p
    rw [ha] at h
    cases ra with
    | err x => cases h; exact .inl ⟨x, rfl, rfl⟩
    | val d => exact .inr ⟨_, e1, rfl, (fun _ z => nomatch z), h⟩
    | new xs => exact .inr ⟨_, e1, rfl, (fun _ z => nomatch z), h⟩
    | slot i => exact .inr ⟨_, e1, rfl, (fun _ z => nomatch z), h⟩
/-- what the reading of a part is to be -/
abbrev Rdg (X : Fm) (W : WX) (t : TE) (f : Ev) : Prop := ∀ F H σ e O r e' Q, Sta X.K F H σ e O → f e = some (r, e') → OkOut X.K F H σ e O (settle r) e' Q → ErOut X.K X.mg W F H σ e O r e' → t σ H Q
theorem bnd_run {X : Fm} {W : WX} {ta : TE} {fa : Ev} {k : Rs → Env → Option (Rs × Env)} (ka : Rdg X W ta fa) {F H : Hp} {σ : L2.St} {e : Env} {O : Nat → Addr → Prop} {r : Rs} {e' : Env} {P : VK} (s : Sta X.K F H σ e O)
    (h : bnd fa k e = some (r, e')) (z : ErOut X.K X.mg W F H σ e O r e')
    (go : ∀ ra e1, (∀ x, ra ≠ .err x) → k ra e1 = some (r, e') → ∀ v F1 H1 O1, Stp X.K F H σ e O F1 H1 σ e1 O1 → RsOk X.K H F1 H1 σ e1 O1 (settle ra) v → P v H1) : ta σ H P := by
  rcases bnd_cases h with ⟨x, h1, rfl⟩ | ⟨ra, e1, h1, n1, h2⟩
  · exact ka F H σ e O _ _ _ s h1 (fun v F' H' O' t q => q.elim) z
  · exact ka F H σ e O _ _ _ s h1 (fun v F1 H1 O1 t q => go ra e1 n1 h2 v F1 H1 O1 t q) (fun x _ _ _ _ _ y => absurd y (n1 x))
theorem ErOut.later {X : Fm} {W : WX} {F H F1 H1 : Hp} {σ : L2.St} {e e1 e' : Env} {O O1 : Nat → Addr → Prop} {r : Rs} (t : Stp X.K F H σ e O F1 H1 σ e1 O1) (z : ErOut X.K X.mg W F H σ e O r e') : ErOut X.K X.mg W F1 H1 σ e1 O1 r e' :=
  fun x cls d F' H' O' y t' w => z x cls d F' H' O' y (t.trans t') w
theorem OkOut.later {K : PySem.W.Frag} {F H F1 H1 : Hp} {σ : L2.St} {e e1 e' : Env} {O O1 : Nat → Addr → Prop} {r : Rs} {Q : VK} (t : Stp K F H σ e O F1 H1 σ e1 O1) (k : OkOut K F H σ e O r e' Q) : OkOut K F1 H1 σ e1 O1 r e' Q :=
  fun v F' H' O' t' q => k v F' H' O' (t.trans t') (q.base fun p y => t.back y)

/-! ### one operand -/
def sUn (g : D → Option Rs) (fa : Ev) : Ev := bnd fa fun ra e1 => match vw (settle ra) e1 with
  | some d => (g d).map fun r => (r, e1)
  | none => none
theorem sUn_k {g : D → Option Rs} {o : Option D} {e1 : Env} {r : Rs} {e' : Env} (h : (match o with | some d => (g d).map fun r => (r, e1) | none => none) = some (r, e')) : ∃ d, o = some d ∧ g d = some r ∧ e1 = e' := by
  split at h
  · rename_i d
    cases hg : g d with
    | none => rw [hg] at h; cases h
    | some z => rw [hg] at h; cases h; exact ⟨d, rfl, hg, rfl⟩
  · cases h
def UnG (K : PySem.W.Frag) (r : V → Hp → VK → Prop) (g : D → Option Rs) : Prop :=
  ∀ F H x d z Q, Ex F H → Vw K F H x d → g d = some z → RvOut K F H z Q → r x H Q
section
variable {X : Fm} {W : WX} {a : Expr} {fa : Ev} {pos : Pos}
theorem pd_un {op : UnaryOp} {R : V → Hp → VK → Prop} {g : D → Option Rs} (ho : ∀ i, UnR (X.C i) (unaryOp op) R) (hg : UnG X.K R g) (ha : PDs X W a fa) : PD X W (.UnaryOp op a pos) (sUn g fa) := by
  obtain ⟨ta, pa, ka⟩ := ha
  refine ⟨_, fun i => pe_un (ho i) (pa i), fun F H σ e O r e' Q s h k z => bnd_run ka s h z fun ra e1 n1 h2 v F1 H1 O1 t q => ?_⟩
  obtain ⟨d, hd, hg2, rfl⟩ := sUn_k h2
  exact hg F1 H1 v d r Q t.sta.ex (vw_vw t.sta q hd) hg2 (OkOut.rv t k)
end
def gNeg : D → Option Rs | .int i => some (.val (.int (-i))) | _ => none
theorem ug_neg {K : PySem.W.Frag} : UnG K (rU fun i => .int (-i)) gNeg := by
  intro F H x d z Q s h hg k
  cases d with
  | int i =>
    cases hg
    cases h
    exact ⟨i, rfl, k _ F H (Al.refl s) (.int _)⟩
  | _ => cases hg

/-! ### operators -/
theorem rv_val {K : PySem.W.Frag} {F H : Hp} {d : D} {v : V} {Q : VK} (s : Ex F H) (k : RvOut K F H (.val d) Q) (h : Dp K F v d) : Q v H := k v F H (Al.refl s) h
def gInt2 (g : Int → Int → Option D) : D → D → Option Rs
  | .int i, .int j => (g i j).map .val
  | _, _ => none
theorem og_int {K : PySem.W.Frag} {C : Int → Int → Prop} {v : Int → Int → V} {g : Int → Int → Option D} (h : ∀ i j d, g i j = some d → C i j ∧ ∀ F, Dp K F (v i j) d) : OpG K (rI C v) (gInt2 g) := by
  intro F H x y da db z Q s hx hy hg k
  cases da with
  | int i =>
    cases db with
    | int j =>
      cases hx
      cases hy
      have hg : (g i j).map Rs.val = some z := hg
      cases hd : g i j with
      | none => rw [hd] at hg; cases hg
      | some d =>
        rw [hd] at hg
        cases hg
        obtain ⟨hc, hv⟩ := h i j d hd
        exact ⟨i, j, rfl, rfl, hc, rv_val s k (hv F)⟩
    | _ => cases hg
  | _ => cases hg
theorem og_int0 {K : PySem.W.Frag} {v : Int → Int → V} {g : Int → Int → Option D} (h : ∀ i j d, g i j = some d → ∀ F, Dp K F (v i j) d) : OpG K (rI0 v) (gInt2 g) := by
  intro F H x y da db z Q s hx hy hg k
  cases da with
  | int i =>
    cases db with
    | int j =>
      cases hx
      cases hy
      have hg : (g i j).map Rs.val = some z := hg
      cases hd : g i j with
      | none => rw [hd] at hg; cases hg
      | some d =>
        rw [hd] at hg
        cases hg
        exact ⟨i, j, rfl, rfl, rv_val s k (h i j d hd F)⟩
    | _ => cases hg
  | _ => cases hg
/-- either of two -/
def gOr (g g' : D → D → Option Rs) : D → D → Option Rs := fun a b => match g a b with
  | some r => some r
  | none => g' a b
theorem og_or {K : PySem.W.Frag} {R R' : R2} {g g' : D → D → Option Rs} (h : OpG K R g) (h' : OpG K R' g') : OpG K (fun x y H Q => R x y H Q ∨ R' x y H Q) (gOr g g') := by
  intro F H x y da db z Q s hx hy hg k
  unfold gOr at hg
  split at hg
  · rename_i r hr
    cases hg
    exact .inl (h F H x y da db _ Q s hx hy hr k)
  · exact .inr (h' F H x y da db _ Q s hx hy hg k)
def gAddI := gInt2 fun i j => some (.int (i + j))
def gSub := gInt2 fun i j => some (.int (i - j))
def gMul := gInt2 fun i j => if (-(2 ^ 64) < i ∧ i < 2 ^ 64) ∨ (-(2 ^ 64) < j ∧ j < 2 ^ 64) then some (.int (i * j)) else none
def gDiv := gInt2 fun i j => if 0 < j ∧ j < 18446744073709551616 then some (.int (i / j)) else none
def gMod := gInt2 fun i j => if 0 < j then some (.int (i % j)) else none
def gPow := gInt2 fun i j => if 0 ≤ j ∧ j ≤ 1000000 ∧ i.natAbs < 2 ^ 64 then some (.int (i ^ j.toNat)) else none
def gLt := gInt2 fun i j => some (.bool (decide (i < j)))
def gLe := gInt2 fun i j => some (.bool (decide (i ≤ j)))
def gGt := gInt2 fun i j => some (.bool (decide (j < i)))
def gGe := gInt2 fun i j => some (.bool (decide (j ≤ i)))
section
variable {K : PySem.W.Frag}
theorem og_addI : OpG K (rI0 fun i j => .int (i + j)) gAddI := og_int0 fun i j d h F => by cases h; exact .int _
theorem og_sub : OpG K (rI0 fun i j => .int (i - j)) gSub := og_int0 fun i j d h F => by cases h; exact .int _
theorem og_mul : OpG K (rI CMul fun i j => .int (i * j)) gMul := og_int fun i j d h => by
  split at h
  · rename_i c; cases h; exact ⟨c, fun _ => .int _⟩
  · cases h
theorem og_div : OpG K (rI CDivW fun i j => .int (i / j)) gDiv := og_int fun i j d h => by
  split at h
  · rename_i c; cases h; exact ⟨⟨c.1, by have := (Nat.log2_lt (n := j.natAbs) (k := 64) (by omega)).mpr (by omega); omega⟩, fun _ => .int _⟩
  · cases h
theorem og_mod : OpG K (rI (fun _ j => 0 < j) fun i j => .int (i % j)) gMod := og_int fun i j d h => by
  split at h
  · rename_i c; cases h; exact ⟨c, fun _ => .int _⟩
  · cases h
theorem og_pow : OpG K (rI CPow fun i j => .int (i ^ j.toNat)) gPow := og_int fun i j d h => by
  split at h
  · rename_i c; cases h; exact ⟨c, fun _ => .int _⟩
  · cases h
theorem og_lt : OpG K (rI0 fun i j => .bl (decide (i < j))) gLt := og_int0 fun i j d h F => by cases h; exact .bl _
theorem og_le : OpG K (rI0 fun i j => .bl (decide (i ≤ j))) gLe := og_int0 fun i j d h F => by cases h; exact .bl _
theorem og_gt : OpG K (rI0 fun i j => .bl (decide (j < i))) gGt := og_int0 fun i j d h F => by cases h; exact .bl _
theorem og_ge : OpG K (rI0 fun i j => .bl (decide (j ≤ i))) gGe := og_int0 fun i j d h F => by cases h; exact .bl _
end
/-- tuple + tuple -/
def gCatT : D → D → Option Rs
  | .tuple a, .tuple b => if a.length + b.length ≤ 16777216 then some (.val (.tuple (a ++ b))) else none
  | _, _ => none
theorem og_catT {K : PySem.W.Frag} : OpG K (rCatF K) gCatT := by
  intro F H x y da db z Q s hx hy hg k
  cases da with
  | tuple a =>
    cases db with
    | tuple b =>
      have hg : (if a.length + b.length ≤ 16777216 then some (Rs.val (.tuple (a ++ b))) else none) = some z := hg
      split at hg
      · rename_i hz
        cases hg
        cases hx with
        | tup p1 q1 =>
          cases hy with
          | tup p2 q2 =>
            rename_i A xs B ys
            have l1 := dpa_len q1
            have l2 := dpa_len q2
            refine ⟨A, B, xs, ys, rfl, rfl, (ex_f s p1).t, (ex_f s p2).t, by rw [sizeLine_eq]; omega, fun e => ?_, fun n e => ?_, fun n1 n2 p o ho hp => ?_⟩
            · refine rv_val s k ?_
              subst e
              cases q1
              exact .tup p2 q2
            · refine rv_val s k ?_
              subst e
              cases q2
              rw [List.append_nil]
              exact .tup p1 q1
            · have nf : F p = none := by
                cases q : F p with
                | none => rfl
                | some o => rw [s p o q] at hp; cases hp
              exact k _ _ _ (Al.tup s hp) (.tup (.inl ⟨o, ho, upd_same⟩) (dpa_mono (Ex.new nf) _ _ (dpa_app q1 q2)))
      · cases hg
    | _ => cases hg
  | _ => cases hg
/-- any +: ints, tuples -/
theorem op_addA {X : Cx} : OpR X (binaryOp .Add) (fun x y H Q => rI0 (fun i j => .int (i + j)) x y H Q ∨ rCatF X.K x y H Q) := OpR.or op_add op_catF
def gAdd := gOr gAddI gCatT
theorem og_add {K : PySem.W.Frag} : OpG K (fun x y H Q => rI0 (fun i j => .int (i + j)) x y H Q ∨ rCatF K x y H Q) gAdd := og_or og_addI og_catT

/-! ### ==, != at any depth -/
def gEq : D → D → Option Rs := fun a b => if SeqAt.shaped a = true ∧ SeqAt.shaped b = true then some (.val (.bool (PyData.eqv a b))) else none
def gNe : D → D → Option Rs := fun a b => if SeqAt.shaped a = true ∧ SeqAt.shaped b = true then some (.val (.bool (!PyData.eqv a b))) else none
theorem og_eq {K : PySem.W.Frag} : OpG K (rEqD K) gEq := by
  intro F H x y da db z Q s hx hy hg k
  unfold gEq at hg
  split at hg
  · rename_i c
    cases hg
    exact ⟨da, db, Dp.old _ _ (SeqAt.canLay_of_shaped c.1) (hx.dp s), Dp.old _ _ (SeqAt.canLay_of_shaped c.2) (hy.dp s), c.1, c.2, rv_val s k (.bl _)⟩
  · cases hg
theorem og_ne {K : PySem.W.Frag} : OpG K (rNeD K) gNe := by
  intro F H x y da db z Q s hx hy hg k
  unfold gNe at hg
  split at hg
  · rename_i c
    cases hg
    exact ⟨da, db, Dp.old _ _ (SeqAt.canLay_of_shaped c.1) (hx.dp s), Dp.old _ _ (SeqAt.canLay_of_shaped c.2) (hy.dp s), c.1, c.2, rv_val s k (.bl _)⟩
  · cases hg
/-- x is None -/
def isNone : D → Bool | .none => true | _ => false
def gIsN : D → D → Option Rs | a, .none => some (.val (.bool (isNone a))) | _, _ => none
def gNotN : D → D → Option Rs | a, .none => some (.val (.bool (!isNone a))) | _, _ => none
theorem isNone_dp {K : PySem.W.Frag} {H : Hp} {v : V} {d : D} (h : Dp K H v d) : decide (v = .non) = isNone d := by
  cases h <;> simp [isNone]
theorem og_notN {K : PySem.W.Frag} : OpG K (fun x y H Q => y = .non ∧ Q (.bl (!decide (x = .non))) H) gNotN := by
  intro F H x y da db z Q s hx hy hg k
  cases db with
  | none =>
    cases hg
    cases hy
    refine ⟨rfl, ?_⟩
    rw [isNone_dp (hx.dp s)]
    exact rv_val s k (.bl _)
  | _ => cases hg
end MR

set_option Elab.async false
set_option linter.all false
set_option maxRecDepth 100000
set_option maxHeartbeats 1000000
namespace MR
open PySem PySem.Spec PyProof.Rows L2
variable [Tq]

/-! ### arguments -/
inductive ARes where
  | ok (rs : List Rs) | err (x : Er)
def isOwn (e : Env) (i : Nat) : Bool := match e[i]? with
  | some (.own _ _) => true
  | _ => false
def slotOk : Rs → Env → Bool
  | .slot i, e => isOwn e i
  | _, _ => true
def sArgs : List Ev → Env → Option (ARes × Env)
  | [], e => some (.ok [], e)
  | f :: fs, e => match f e with
    | none => none
    | some (.err x, e1) => some (.err x, e1)
    | some (r, e1) => match sArgs fs e1 with
      | none => none
      | some (.err x, e2) => some (.err x, e2)
      | some (.ok rs, e2) => if slotOk (settle r) e2 = true then some (.ok (settle r :: rs), e2) else none
inductive RsAll (K : PySem.W.Frag) (B F H : Hp) (σ : L2.St) (e : Env) (O : Nat → Addr → Prop) : List Rs → List V → Prop where
  | nil : RsAll K B F H σ e O [] []
  | cons {r : Rs} {v : V} {rs : List Rs} {vs : List V} : RsOk K B F H σ e O r v → RsAll K B F H σ e O rs vs → RsAll K B F H σ e O (r :: rs) (v :: vs)
theorem RsAll.base {K : PySem.W.Frag} {B B' F H : Hp} {σ : L2.St} {e : Env} {O : Nat → Addr → Prop} (hb : ∀ p, No B p → No B' p) : ∀ {rs : List Rs} {vs : List V}, RsAll K B F H σ e O rs vs → RsAll K B' F H σ e O rs vs
  | _, _, .nil => .nil
  | _, _, .cons a t => .cons (a.base hb) (t.base hb)
def PAD (X : Fm) (W : WX) (es : List Expr) (fs : List Ev) : Prop :=
  ∃ t : TA, (∀ i, PA (X.C i) es t) ∧ ∀ F H σ e O a e' (Q : List V → Hp → Prop), Sta X.K F H σ e O → sArgs fs e = some (a, e') →
    (∀ rs vs F' H' O', a = .ok rs → Stp X.K F H σ e O F' H' σ e' O' → RsAll X.K H F' H' σ e' O' rs vs → Q vs H') →
    (∀ x cls d F' H' O', a = .err x → Stp X.K F H σ e O F' H' σ e' O' → ErOk X.K X.mg F' H' x cls d → W cls d σ H') → t σ H Q
theorem sArgs_cons {f : Ev} {fs : List Ev} {e : Env} {a : ARes} {e' : Env} (h : sArgs (f :: fs) e = some (a, e')) :
    (∃ x, f e = some (.err x, e') ∧ a = .err x) ∨ ∃ r e1, f e = some (r, e1) ∧ (∀ x, r ≠ .err x) ∧
      ((∃ x, sArgs fs e1 = some (.err x, e') ∧ a = .err x) ∨ ∃ rs, sArgs fs e1 = some (.ok rs, e') ∧ slotOk (settle r) e' = true ∧ a = .ok (settle r :: rs)) := by
  unfold sArgs at h
  cases hf : f e with
  | none => rw [hf] at h; cases h
  | some p =>
    obtain ⟨r, e1⟩ := p
    rw [hf] at h
    have fin : (∀ x, r ≠ .err x) → (match sArgs fs e1 with
      | none => none
      | some (.err x, e2) => some (.err x, e2)
      | some (.ok rs, e2) => if slotOk (settle r) e2 = true then some (ARes.ok (settle r :: rs), e2) else none) = some (a, e') → ((∃ x, sArgs fs e1 = some (.err x, e') ∧ a = .err x) ∨ ∃ rs, sArgs fs e1 = some (.ok rs, e') ∧ slotOk (settle r) e' = true ∧ a = .ok (settle r :: rs)) := by
      intro hn h
      cases hs : sArgs fs e1 with
      | none => rw [hs] at h; cases h
      | some q =>
        obtain ⟨b, e2⟩ := q
        rw [hs] at h
        cases b with
        | err x => cases h; exact .inl ⟨x, rfl, rfl⟩
        | ok rs =>
          have h : (if slotOk (settle r) e2 = true then some (ARes.ok (settle r :: rs), e2) else none) = some (a, e') := h
          split at h
          · rename_i c
            cases h
            exact .inr ⟨rs, rfl, c, rfl⟩
          · cases h
    cases r with
    | err x => cases h; exact .inl ⟨x, rfl, rfl⟩
    | val d => exact .inr ⟨_, e1, rfl, (fun _ z => nomatch z), fin (fun _ z => nomatch z) h⟩
    | new xs => exact .inr ⟨_, e1, rfl, (fun _ z => nomatch z), fin (fun _ z => nomatch z) h⟩
    | slot i => exact .inr ⟨_, e1, rfl, (fun _ z => nomatch z), fin (fun _ z => nomatch z) h⟩
theorem isOwn_ok {e : Env} {i : Nat} (h : isOwn e i = true) : ∃ p ys, e[i]? = some (.own p ys) := by
  unfold isOwn at h
  split at h
  · rename_i p ys q; exact ⟨p, ys, q⟩
  · cases h
section
variable {X : Fm} {W : WX}
theorem pad_nil : PAD X W [] [] := ⟨_, fun _ => pa_nil, fun F H σ e O a e' Q s h k z => by
  cases h
  exact k [] [] F H O rfl (Stp.refl s) .nil⟩
theorem pad_cons {ex : Expr} {es : List Expr} {f : Ev} {fs : List Ev} (h1 : PDs X W ex f) (h2 : PAD X W es fs) (he : ∀ i, starEach (ex :: es) (X.C i).env = (false, eval ex (X.C i).env) :: starEach es (X.C i).env := by exact fun _ => rfl) : PAD X W (ex :: es) (f :: fs) := by
  obtain ⟨t1, p1, k1⟩ := h1
  obtain ⟨t2, p2, k2⟩ := h2
  refine ⟨_, fun i => pa_cons (p1 i) (p2 i) (hs := he i), fun F H σ e O a e' Q s h k z => ?_⟩
  rcases sArgs_cons h with ⟨x, q1, rfl⟩ | ⟨r, e1, q1, n1, q2⟩
  · exact k1 F H σ e O _ _ _ s q1 (fun v F' H' O' t q => q.elim) fun x' cls d F' H' O' y t w => (by cases y; exact z _ cls d F' H' O' rfl t w)
  · refine k1 F H σ e O _ _ _ s q1 (fun v F1 H1 O1 t q => ?_) (fun x _ _ _ _ _ y => absurd y (n1 x))
    rcases q2 with ⟨x, q2, rfl⟩ | ⟨rs, q2, c, rfl⟩
    · exact k2 F1 H1 σ e1 O1 _ _ _ t.sta q2 (fun _ _ _ _ _ y => nomatch y) fun x' cls d F' H' O' y t' w => z x' cls d F' H' O' y (t.trans t') w
    · refine k2 F1 H1 σ e1 O1 _ _ _ t.sta q2 (fun rs' vs F2 H2 O2 y t2 q3 => ?_) (fun _ _ _ _ _ _ y => nomatch y)
      cases y
      refine k _ (v :: vs) F2 H2 O2 rfl (t.trans t2) (.cons (q.later t2 fun i p xs y _ => ?_) (q3.base fun p y => t.back y))
      rw [y] at c
      exact isOwn_ok c
end

/-! ### calls upon read-only data -/
def vws : List Rs → Env → Option (List D)
  | [], _ => some []
  | r :: rs, e => match vw r e, vws rs e with
    | some d, some ds => some (d :: ds)
    | _, _ => none
inductive VwAll (K : PySem.W.Frag) (F H : Hp) : List V → List D → Prop where
  | nil : VwAll K F H [] []
  | cons {v : V} {vs : List V} {d : D} {ds : List D} : Vw K F H v d → VwAll K F H vs ds → VwAll K F H (v :: vs) (d :: ds)
theorem vws_ok {K : PySem.W.Frag} {B F H : Hp} {σ : L2.St} {e : Env} {O : Nat → Addr → Prop} (s : Sta K F H σ e O) : ∀ {rs : List Rs} {vs : List V} {ds : List D}, RsAll K B F H σ e O rs vs → vws rs e = some ds → VwAll K F H vs ds
  | _, _, ds, .nil, h => by cases h; exact .nil
  | _, _, ds, .cons (r := r) (rs := rs) a t, h => by
    unfold vws at h
    split at h
    · rename_i d ds' h1 h2
      cases h
      exact .cons (vw_vw s a h1) (vws_ok s t h2)
    · cases h
def sFn (g : List D → Option Rs) (fs : List Ev) : Ev := fun e => match sArgs fs e with
  | none => none
  | some (.err x, e1) => some (.err x, e1)
  | some (.ok rs, e1) => match vws rs e1 with
    | some ds => (g ds).map fun r => (r, e1)
    | none => none
theorem sFn_cases {g : List D → Option Rs} {fs : List Ev} {e : Env} {r : Rs} {e' : Env} (h : sFn g fs e = some (r, e')) :
    (∃ x, sArgs fs e = some (.err x, e') ∧ r = .err x) ∨ ∃ rs ds, sArgs fs e = some (.ok rs, e') ∧ vws rs e' = some ds ∧ g ds = some r := by
  unfold sFn at h
  cases ha : sArgs fs e with
  | none => rw [ha] at h; cases h
  | some p =>
    obtain ⟨a, e1⟩ := p
    rw [ha] at h
    cases a with
    | err x => cases h; exact .inl ⟨x, rfl, rfl⟩
    | ok rs =>
      simp only at h
      split at h
      · rename_i ds hd
        cases hg : g ds with
        | none => rw [hg] at h; cases h
        | some z => rw [hg] at h; cases h; exact .inr ⟨rs, ds, rfl, hd, hg⟩
      · cases h
def FnG (K : PySem.W.Frag) (r : List V → Hp → VK → Prop) (g : List D → Option Rs) : Prop :=
  ∀ F H vs ds z Q, Ex F H → VwAll K F H vs ds → g ds = some z → RvOut K F H z Q → r vs H Q
section
variable {X : Fm} {W : WX} {x : Str} {e : Expr} {es : List Expr} {fs : List Ev} {p pos : Pos} {R : List V → Hp → VK → Prop} {g : List D → Option Rs}
theorem fn_run {t : TA} (hg : FnG X.K R g)
    (ka : ∀ F H σ e O a e' (Q : List V → Hp → Prop), Sta X.K F H σ e O → sArgs fs e = some (a, e') →
      (∀ rs vs F' H' O', a = .ok rs → Stp X.K F H σ e O F' H' σ e' O' → RsAll X.K H F' H' σ e' O' rs vs → Q vs H') →
      (∀ x cls d F' H' O', a = .err x → Stp X.K F H σ e O F' H' σ e' O' → ErOk X.K X.mg F' H' x cls d → W cls d σ H') → t σ H Q)
    {F H : Hp} {σ : L2.St} {e : Env} {O : Nat → Addr → Prop} {r : Rs} {e' : Env} {Q : VK} (s : Sta X.K F H σ e O) (h : sFn g fs e = some (r, e')) (k : OkOut X.K F H σ e O r e' Q) (z : ErOut X.K X.mg W F H σ e O r e') : tCB R t σ H Q := by
  rcases sFn_cases h with ⟨x, h1, rfl⟩ | ⟨rs, ds, h1, h2, h3⟩
  · exact ka F H σ e O _ _ _ s h1 (fun _ _ _ _ _ y => nomatch y) fun x' cls d F' H' O' y t w => (by cases y; exact z _ cls d F' H' O' rfl t w)
  · refine ka F H σ e O _ _ _ s h1 (fun rs' vs F1 H1 O1 y t q => ?_) (fun _ _ _ _ _ _ y => nomatch y)
    cases y
    exact hg F1 H1 vs ds r Q t.sta.ex (vws_ok t.sta q h2) h3 (OkOut.rv t k)
theorem pd_callB {id : String} (hc : ∀ i, CallR (X.C i) (.builtin id) R) (hG : FnG X.K R g) (hg : ∀ i, Gl (X.C i) x) (hm : ∀ i, (X.C i).mg x = none) (hv : bootBuiltins x = some (.builtin id)) (ha : PAD X W (e :: es) fs)
    (hn : x ≠ "__name__" := by decide) (hd : (x == ("__debug__" : Str)) = false := by decide) (he : ∀ i, starEach (e :: es) (X.C i).env = (false, eval e (X.C i).env) :: starEach es (X.C i).env := by exact fun _ => rfl)
    (hpl : ∀ i, (backTo pos (starEach es (X.C i).env)).any (·.1) = false := by exact fun _ => rfl) : PD X W (.Call (.Name x p) (e :: es) [] pos) (sFn g fs) := by
  obtain ⟨t, pa, ka⟩ := ha
  exact ⟨_, fun i => pe_callB (hc i) (hg i) (hm i) hv (pa i) hn hd (he i) (hpl i), fun F H σ e O r e' Q s h k z => fn_run hG ka s h k z⟩
theorem pd_callTy {T : String} (hc : ∀ i, CallR (X.C i) (.type T) R) (hG : FnG X.K R g) (hg : ∀ i, Gl (X.C i) x) (hm : ∀ i, (X.C i).mg x = none) (hv : bootBuiltins x = some (.type T)) (ha : PAD X W (e :: es) fs)
    (hn : x ≠ "__name__" := by decide) (hd : (x == ("__debug__" : Str)) = false := by decide) (he : ∀ i, starEach (e :: es) (X.C i).env = (false, eval e (X.C i).env) :: starEach es (X.C i).env := by exact fun _ => rfl)
    (hpl : ∀ i, (backTo pos (starEach es (X.C i).env)).any (·.1) = false := by exact fun _ => rfl) : PD X W (.Call (.Name x p) (e :: es) [] pos) (sFn g fs) := by
  obtain ⟨t, pa, ka⟩ := ha
  exact ⟨_, fun i => pe_callTy (hc i) (hg i) (hm i) hv (pa i) hn hd (he i) (hpl i), fun F H σ e O r e' Q s h k z => fn_run hG ka s h k z⟩
/-- a built-in that the module has imported (gcd) -/
theorem pd_callM {id : String} (hc : ∀ i, CallR (X.C i) (.builtin id) R) (hG : FnG X.K R g) (hg : ∀ i, Gl (X.C i) x) (hm : ∀ i, (X.C i).mg x = some (.builtin id)) (ha : PAD X W (e :: es) fs)
    (hd : (x == ("__debug__" : Str)) = false := by decide) (he : ∀ i, starEach (e :: es) (X.C i).env = (false, eval e (X.C i).env) :: starEach es (X.C i).env := by exact fun _ => rfl)
    (hpl : ∀ i, (backTo pos (starEach es (X.C i).env)).any (·.1) = false := by exact fun _ => rfl) : PD X W (.Call (.Name x p) (e :: es) [] pos) (sFn g fs) := by
  obtain ⟨t, pa, ka⟩ := ha
  exact ⟨_, fun i => pe_callBfun (hc i) (hg i) (hm i) (pa i) hd (he i) (hpl i), fun F H σ e O r e' Q s h k z => fn_run hG ka s h k z⟩
end
theorem VwAll.one {K : PySem.W.Frag} {F H : Hp} {vs : List V} {d : D} (h : VwAll K F H vs [d]) : ∃ v, vs = [v] ∧ Vw K F H v d := by
  cases h with
  | cons a t => cases t; exact ⟨_, rfl, a⟩
theorem VwAll.two {K : PySem.W.Frag} {F H : Hp} {vs : List V} {d d2 : D} (h : VwAll K F H vs [d, d2]) : ∃ v w, vs = [v, w] ∧ Vw K F H v d ∧ Vw K F H w d2 := by
  cases h with
  | cons a t =>
    obtain ⟨w, rfl, b⟩ := t.one
    exact ⟨_, w, rfl, a, b⟩
/-- len -/
def gLen : List D → Option Rs
  | [.list xs] => some (.val (.int xs.length))
  | [.tuple xs] => some (.val (.int xs.length))
  | [.str x] => if x.length ≤ 16777216 then some (.val (.int x.length)) else none
  | _ => none
section
variable {K : PySem.W.Frag}
theorem fg_len : FnG K (fun xs H Q => ∃ x n, xs = [x] ∧ LenV K x H n ∧ Q (.int n) H) gLen := by
  intro F H vs ds z Q s hv hg k
  unfold gLen at hg
  split at hg
  · rename_i xs
    cases hg
    obtain ⟨v, rfl, a, us, rfl, h1, h2⟩ := hv.one
    refine ⟨_, us.length, rfl, .inl ⟨us, h1, rfl⟩, ?_⟩
    rw [dpa_len h2]
    exact rv_val s k (.int _)
  · rename_i xs
    cases hg
    obtain ⟨v, rfl, h⟩ := hv.one
    cases h with
    | @tup a us _ h1 h2 =>
      refine ⟨_, us.length, rfl, .inr ⟨us, (ex_f s h1).t, rfl⟩, ?_⟩
      rw [dpa_len h2]
      exact rv_val s k (.int _)
  · rename_i x
    split at hg
    · rename_i c
      cases hg
      obtain ⟨v, rfl, h⟩ := hv.one
      cases h
      exact ⟨_, x.length, rfl, ⟨by rw [sizeLine_eq]; exact c, rfl⟩, rv_val s k (.int _)⟩
    · cases hg
  · cases hg
def gAbs : List D → Option Rs
  | [.int i] => some (.val (.int (if i < 0 then -i else i)))
  | _ => none
theorem fg_abs : FnG K (fun xs H Q => ∃ i, xs = [.int i] ∧ Q (.int (if i < 0 then -i else i)) H) gAbs := by
  intro F H vs ds z Q s hv hg k
  unfold gAbs at hg
  split at hg
  · rename_i i
    cases hg
    obtain ⟨v, rfl, h⟩ := hv.one
    cases h
    exact ⟨i, rfl, rv_val s k (.int _)⟩
  · cases hg
def gGcd : List D → Option Rs
  | [.int i, .int j] => some (.val (.int ((Nat.gcd i.natAbs j.natAbs : Nat) : Int)))
  | _ => none
theorem fg_gcd : FnG K rGcd gGcd := by
  intro F H vs ds z Q s hv hg k
  unfold gGcd at hg
  split at hg
  · rename_i i j
    cases hg
    obtain ⟨v, w, rfl, h, h2⟩ := hv.two
    cases h
    cases h2
    exact ⟨i, j, rfl, rv_val s k (.int _)⟩
  · cases hg
def gTuple : List D → Option Rs
  | [.list xs] => some (.val (.tuple xs))
  | [.tuple xs] => some (.val (.tuple xs))
  | _ => none
theorem fresh_f {F H : Hp} {p : Addr} (s : Ex F H) (hp : H p = none) : F p = none := by
  cases q : F p with
  | none => rfl
  | some o => rw [s p o q] at hp; cases hp
theorem rv_tup {F H : Hp} {ds : List D} {us : List V} {Q : VK} (s : Ex F H) (k : RvOut K F H (.val (.tuple ds)) Q) (h : DpAll K F us ds) : NewT H us Q := fun p o ho hp =>
  k _ _ _ (Al.tup s hp) (.tup (.inl ⟨o, ho, upd_same⟩) (dpa_mono (Ex.new (fresh_f s hp)) _ _ h))
theorem rv_lst {F H : Hp} {ds : List D} {us : List V} {Q : VK} (s : Ex F H) (k : RvOut K F H (.new ds) Q) (h : DpAll K F us ds) : ∀ p, H p = none → Q (.ref p) (upd H p (.lst us)) := fun p hp =>
  k _ _ _ (Al.lst s hp) ⟨p, us, rfl, upd_same, fresh_f s hp, h, hp⟩
theorem fg_tuple : FnG K (rTupOf K) gTuple := by
  intro F H vs ds z Q s hv hg k
  unfold gTuple at hg
  split at hg
  · rename_i xs
    cases hg
    obtain ⟨v, rfl, a, us, rfl, h1, h2⟩ := hv.one
    exact ⟨a, us, rfl, .inl ⟨h1, rv_tup s k h2⟩⟩
  · rename_i xs
    cases hg
    obtain ⟨v, rfl, h⟩ := hv.one
    cases h with
    | @tup a us _ h1 h2 => exact ⟨a, us, rfl, .inr ⟨(ex_f s h1).t, rv_val s k (.tup h1 h2)⟩⟩
  · cases hg
def gList : List D → Option Rs
  | [.list xs] => some (.new xs)
  | [.tuple xs] => some (.new xs)
  | _ => none
theorem fg_list : FnG K (fun xs H Q => ∃ p ys, xs = [.ref p] ∧ (SqL K H p ys ∨ SqT K H p ys) ∧ ∀ l, H l = none → Q (.ref l) (upd H l (.lst ys))) gList := by
  intro F H vs ds z Q s hv hg k
  unfold gList at hg
  split at hg
  · rename_i xs
    cases hg
    obtain ⟨v, rfl, a, us, rfl, h1, h2⟩ := hv.one
    exact ⟨a, us, rfl, .inl h1, rv_lst s k h2⟩
  · rename_i xs
    cases hg
    obtain ⟨v, rfl, h⟩ := hv.one
    cases h with
    | @tup a us _ h1 h2 => exact ⟨a, us, rfl, .inr (ex_f s h1).t, rv_lst s k h2⟩
  · cases hg
/-- the ints of data -/
def intsOf : List D → Option (List Int)
  | [] => some []
  | .int i :: r => (intsOf r).map (i :: ·)
  | _ => none
theorem intsOf_map : ∀ {ds : List D} {ns : List Int}, intsOf ds = some ns → ds = ns.map PyData.int
  | [], ns, h => by cases h; rfl
  | d :: r, ns, h => by
    cases d with
    | int i =>
      have h : (intsOf r).map (i :: ·) = some ns := h
      cases q : intsOf r with
      | none => rw [q] at h; cases h
      | some ms =>
        rw [q] at h
        cases h
        rw [List.map_cons, ← intsOf_map q]
    | _ => cases h
theorem intsOf_ints : ∀ ns : List Int, intsOf (ns.map PyData.int) = some ns
  | [] => rfl
  | n :: r => by
    show (intsOf (r.map PyData.int)).map (n :: ·) = some (n :: r)
    rw [intsOf_ints r]
    rfl
end
end MR

set_option Elab.async false
set_option linter.all false
set_option maxRecDepth 100000
set_option maxHeartbeats 1000000
namespace MR
open PySem PySem.Spec PyProof.Rows L2
variable [Tq]

/-! ### taking a value into a structure: it is never changed again -/
def tk : Rs → Env → Option (D × Env)
  | .val d, e => some (d, e)
  | .new xs, e => some (.list xs, e)
  | .slot i, e => match e[i]? with
    | some (.own false xs) => some (.list xs, e.set i (.val (.list xs)))
    | _ => none
  | .err _, _ => none
section
variable {K : PySem.W.Frag} {B F H F1 H1 : Hp} {σ : L2.St} {e e1 e2 : Env} {O O1 : Nat → Addr → Prop} {r : Rs} {v : V} {d : D}
theorem take_ok (t : Stp K F H σ e O F1 H1 σ e1 O1) (h : RsOk K H F1 H1 σ e1 O1 r v) (q : tk r e1 = some (d, e2)) : ∃ F2 O2, Stp K F H σ e O F2 H1 σ e2 O2 ∧ Dp K F2 v d ∧ Ex F1 F2 := by
  cases r with
  | val x => cases q; exact ⟨F1, O1, t, h, Same.refl _⟩
  | new xs =>
    cases q
    obtain ⟨a, vs, rfl, h1, h2, h3, h4, h5⟩ := h
    exact ⟨_, O1, freeze t h1 h2 h3 h4 h5, .lst (SqD.of upd_same) (dpa_mono (Ex.new h2) _ _ h3), Ex.new h2⟩
  | slot i =>
    unfold tk at q
    simp only at q
    split at q
    · rename_i xs hx
      cases q
      obtain ⟨a, vs, rfl, h2, h3, h4, h5, h6⟩ := slot_at t.sta h hx
      have u : Ex F1 (upd F1 a (.lst vs)) := Ex.new h4
      have hi : i < e1.length := (List.getElem?_eq_some_iff.mp hx).1
      refine ⟨upd F1 a (.lst vs), fun j b => j ≠ i ∧ O1 j b, ?_, .lst (SqD.of upd_same) (dpa_mono u _ _ h5), u⟩
      refine ⟨⟨fun b o q => ?_, by rw [t.sta.len, List.length_set], fun j s q => ?_, fun j b q => ?_, fun j k b q z => t.sta.sep j k b q.2 z.2, t.sta.tab.put nofun⟩, (by rw [List.length_set]; exact t.same), t.up.trans u, fun p o q n => ?_, t.keep, t.grow, fun j p q => t.own j p q.2, fun j xs q => ?_⟩
      · by_cases hb : b = a
        · subst hb; rw [upd_same] at q; cases q; exact h3
        · rw [upd_ne hb] at q; exact t.sta.ex b o q
      · by_cases hj : j = i
        · subst hj
          rw [List.getElem?_set_self hi] at q
          cases q
          exact ⟨_, h2, ⟨_, rfl, .lst (SqD.of upd_same) (dpa_mono u _ _ h5)⟩, fun b z => z.1 rfl⟩
        · rw [List.getElem?_set_ne (Ne.symm hj)] at q
          obtain ⟨x, e3, z⟩ := t.sta.slot j s q
          refine ⟨x, e3, ?_⟩
          cases s with
          | un => exact fun b y => z b y.2
          | val d =>
            obtain ⟨⟨w, e4, e5⟩, e6⟩ := z
            exact ⟨⟨w, e4, dp_mono u _ _ e5⟩, fun b y => e6 b y.2⟩
          | own p ys =>
            obtain ⟨b, us, e4, e5, e6, e7, e8⟩ := z
            refine ⟨b, us, e4, e5, ?_, dpa_mono u _ _ e7, fun c => ⟨fun y => (e8 c).mp y.2, fun y => ⟨hj, (e8 c).mpr y⟩⟩⟩
            rw [upd_ne]
            · exact e6
            · rintro rfl
              exact hj (t.sta.sep j i b ((e8 b).mpr rfl) ((h6 b).mpr rfl))
      · rw [List.length_set]
        exact t.sta.out j b q.2
      · by_cases hb : p = a
        · subst hb
          rcases t.own i p ((h6 p).mpr rfl) with z | z
          · exact .inr z
          · exact .inl z
        · rw [upd_ne hb] at q; exact t.new p o q n
      · obtain ⟨⟨ys, z1⟩, z2, z3⟩ := t.pin j xs q
        have hj : j ≠ i := fun y => by
          rw [y, hx] at z1; cases z1
        exact ⟨⟨ys, by rw [List.getElem?_set_ne (Ne.symm hj)]; exact z1⟩, z2, fun b y => ⟨hj, z3 b y⟩⟩
    · cases q
  | err x => exact h.elim
end
/-- parts, each taken as it is made -/
inductive TRes where
  | ok (ds : List D) | err (x : Er)
def sTaken : List Ev → Env → Option (TRes × Env)
  | [], e => some (.ok [], e)
  | f :: fs, e => match f e with
    | none => none
    | some (.err x, e1) => some (.err x, e1)
    | some (r, e1) => match tk r e1 with
      | none => none
      | some (d, e2) => match sTaken fs e2 with
        | none => none
        | some (.err x, e3) => some (.err x, e3)
        | some (.ok ds, e3) => some (.ok (d :: ds), e3)
theorem sTaken_cons {f : Ev} {fs : List Ev} {e : Env} {a : TRes} {e' : Env} (h : sTaken (f :: fs) e = some (a, e')) :
    (∃ x, f e = some (.err x, e') ∧ a = .err x) ∨ ∃ r e1 d e2, f e = some (r, e1) ∧ (∀ x, r ≠ .err x) ∧ tk r e1 = some (d, e2) ∧
      ((∃ x, sTaken fs e2 = some (.err x, e') ∧ a = .err x) ∨ ∃ ds, sTaken fs e2 = some (.ok ds, e') ∧ a = .ok (d :: ds)) := by
  unfold sTaken at h
  cases hf : f e with
  | none => rw [hf] at h; cases h
  | some p =>
    obtain ⟨r, e1⟩ := p
    rw [hf] at h
    have fin : (∀ x, r ≠ .err x) → (match tk r e1 with
      | none => none
      | some (d, e2) => match sTaken fs e2 with
        | none => none
        | some (.err x, e3) => some (.err x, e3)
        | some (.ok ds, e3) => some (TRes.ok (d :: ds), e3)) = some (a, e') → ∃ d e2, tk r e1 = some (d, e2) ∧
      ((∃ x, sTaken fs e2 = some (.err x, e') ∧ a = .err x) ∨ ∃ ds, sTaken fs e2 = some (.ok ds, e') ∧ a = .ok (d :: ds)) := by
      intro hn h
      cases ht : tk r e1 with
      | none => rw [ht] at h; cases h
      | some q =>
        obtain ⟨d, e2⟩ := q
        rw [ht] at h
        simp only at h
        refine ⟨d, e2, rfl, ?_⟩
        cases hs : sTaken fs e2 with
        | none => rw [hs] at h; cases h
        | some q =>
          obtain ⟨b, e3⟩ := q
          rw [hs] at h
          cases b with
          | err x => cases h; exact .inl ⟨x, rfl, rfl⟩
          | ok ds => cases h; exact .inr ⟨ds, rfl, rfl⟩
    cases r with
    | err x => cases h; exact .inl ⟨x, rfl, rfl⟩
    | val d => obtain ⟨d, e2, z⟩ := fin (fun _ z => nomatch z) h; exact .inr ⟨_, e1, d, e2, rfl, (fun _ z => nomatch z), z⟩
    | new xs => obtain ⟨d, e2, z⟩ := fin (fun _ z => nomatch z) h; exact .inr ⟨_, e1, d, e2, rfl, (fun _ z => nomatch z), z⟩
    | slot i => obtain ⟨d, e2, z⟩ := fin (fun _ z => nomatch z) h; exact .inr ⟨_, e1, d, e2, rfl, (fun _ z => nomatch z), z⟩
def PTD (X : Fm) (W : WX) (es : List Expr) (fs : List Ev) : Prop :=
  ∃ t : TA, (∀ i, PA (X.C i) es t) ∧ ∀ F H σ e O a e' (Q : List V → Hp → Prop), Sta X.K F H σ e O → sTaken fs e = some (a, e') →
    (∀ ds vs F' H' O', a = .ok ds → Stp X.K F H σ e O F' H' σ e' O' → DpAll X.K F' vs ds → Q vs H') →
    (∀ x cls d F' H' O', a = .err x → Stp X.K F H σ e O F' H' σ e' O' → ErOk X.K X.mg F' H' x cls d → W cls d σ H') → t σ H Q
section
variable {X : Fm} {W : WX}
theorem ptd_nil : PTD X W [] [] := ⟨_, fun _ => pa_nil, fun F H σ e O a e' Q s h k z => by
  cases h
  exact k [] [] F H O rfl (Stp.refl s) .nil⟩
theorem ptd_cons {ex : Expr} {es : List Expr} {f : Ev} {fs : List Ev} (h1 : PD X W ex f) (h2 : PTD X W es fs) (he : ∀ i, starEach (ex :: es) (X.C i).env = (false, eval ex (X.C i).env) :: starEach es (X.C i).env := by exact fun _ => rfl) : PTD X W (ex :: es) (f :: fs) := by
  obtain ⟨t1, p1, k1⟩ := h1
  obtain ⟨t2, p2, k2⟩ := h2
  refine ⟨_, fun i => pa_cons (p1 i) (p2 i) (hs := he i), fun F H σ e O a e' Q s h k z => ?_⟩
  rcases sTaken_cons h with ⟨x, q1, rfl⟩ | ⟨r, e1, d, e2, q1, n1, qt, q2⟩
  · exact k1 F H σ e O _ _ _ s q1 (fun v F' H' O' t q => q.elim) fun x' cls d F' H' O' y t w => (by cases y; exact z _ cls d F' H' O' rfl t w)
  · refine k1 F H σ e O _ _ _ s q1 (fun v F1 H1 O1 t q => ?_) (fun x _ _ _ _ _ y => absurd y (n1 x))
    obtain ⟨F2, O2, t2', hd, _⟩ := take_ok t q qt
    rcases q2 with ⟨x, q2, rfl⟩ | ⟨ds, q2, rfl⟩
    · exact k2 F2 H1 σ e2 O2 _ _ _ t2'.sta q2 (fun _ _ _ _ _ y => nomatch y) fun x' cls d F' H' O' y t' w => z x' cls d F' H' O' y (t2'.trans t') w
    · refine k2 F2 H1 σ e2 O2 _ _ _ t2'.sta q2 (fun ds' vs F3 H3 O3 y t3 q3 => ?_) (fun _ _ _ _ _ _ y => nomatch y)
      cases y
      exact k _ (v :: vs) F3 H3 O3 rfl (t2'.trans t3) (.cons (dp_mono t3.up _ _ hd) q3)
end

/-! ### displays -/
def sTup (fs : List Ev) : Ev := fun e => match sTaken fs e with
  | none => none
  | some (.err x, e1) => some (.err x, e1)
  | some (.ok ds, e1) => some (.val (.tuple ds), e1)
def sLst (fs : List Ev) : Ev := fun e => match sTaken fs e with
  | none => none
  | some (.err x, e1) => some (.err x, e1)
  | some (.ok ds, e1) => some (.new ds, e1)
theorem sTaken_len : ∀ {fs : List Ev} {e : Env} {ds : List D} {e' : Env}, sTaken fs e = some (.ok ds, e') → ds.length = fs.length
  | [], e, ds, e', h => by cases h; rfl
  | f :: fs, e, ds, e', h => by
    rcases sTaken_cons h with ⟨x, _, y⟩ | ⟨r, e1, d, e2, _, _, _, ⟨x, _, y⟩ | ⟨ds', q, y⟩⟩
    · cases y
    · cases y
    · cases y
      rw [List.length_cons, List.length_cons, sTaken_len q]
section
variable {X : Fm} {W : WX} {es : List Expr} {fs : List Ev} {x1 : Nat} {pos : Pos}
theorem pd_tup {q : TE} (ha : PTD X W es fs) (hl : fs.length ≤ 16777216) : PD X W (.Tuple es x1 pos) (sTup fs) := by
  obtain ⟨t, pa, ka⟩ := ha
  refine ⟨_, fun i => pe_tupF (pa i), fun F H σ e O r e' Q s h k z => ?_⟩
  unfold sTup at h
  split at h
  · cases h
  · rename_i x e1 hs
    cases h
    exact ka F H σ e O _ _ _ s hs (fun _ _ _ _ _ y => nomatch y) fun x' cls d F' H' O' y t w => (by cases y; exact z _ cls d F' H' O' rfl t w)
  · rename_i ds e1 hs
    cases h
    refine ka F H σ e O _ _ _ s hs (fun ds' vs F1 H1 O1 y t q => ?_) (fun _ _ _ _ _ _ y => nomatch y)
    cases y
    refine ⟨?_, rv_tup t.sta.ex (OkOut.rv t k) q⟩
    rw [dpa_len q, sTaken_len hs, sizeLine_eq]
    exact hl
theorem pd_lst (ha : PTD X W es fs) (hl : fs.length ≤ 16777216) : PD X W (.List es pos) (sLst fs) := by
  obtain ⟨t, pa, ka⟩ := ha
  refine ⟨_, fun i => pe_lst (pa i), fun F H σ e O r e' Q s h k z => ?_⟩
  unfold sLst at h
  split at h
  · cases h
  · rename_i x e1 hs
    cases h
    exact ka F H σ e O _ _ _ s hs (fun _ _ _ _ _ y => nomatch y) fun x' cls d F' H' O' y t w => (by cases y; exact z _ cls d F' H' O' rfl t w)
  · rename_i ds e1 hs
    cases h
    refine ka F H σ e O _ _ _ s hs (fun ds' vs F1 H1 O1 y t q => ?_) (fun _ _ _ _ _ _ y => nomatch y)
    cases y
    refine ⟨?_, fun p hp => ?_⟩
    · rw [dpa_len q, sTaken_len hs, sizeLine_eq]; exact hl
    · exact rv_lst t.sta.ex (OkOut.rv t k) q p hp
end

/-! ### subscripts, slices -/
theorem dpa_atI {K : PySem.W.Frag} {H : Hp} {vs : List V} {ds : List D} {i : Int} {d : D} (h : DpAll K H vs ds) (q : atI ds i = some d) : ∃ v, atI vs i = some v ∧ Dp K H v d := by
  unfold atI at q ⊢
  rw [dpa_len h]
  cases e : ixN ds.length i with
  | none => rw [e] at q; cases q
  | some j => rw [e] at q; exact dpa_get h q
def gIx : D → D → Option Rs
  | .list xs, .int i => (atI xs i).map .val
  | .tuple xs, .int i => (atI xs i).map .val
  | .str x, .int i => if x.length ≤ 16777216 then (atI x.cps.toList i).map fun c => .val (.str ⟨#[c]⟩) else none
  | _, _ => none
theorem og_ix {K : PySem.W.Frag} : OpG K (rIx K) gIx := by
  intro F H x y da db z Q s hx hy hg k
  unfold gIx at hg
  split at hg
  · rename_i xs i
    cases hy
    obtain ⟨a, us, rfl, h1, h2⟩ := hx
    cases ha : atI xs i with
    | none => rw [ha] at hg; cases hg
    | some d =>
      rw [ha] at hg
      cases hg
      obtain ⟨v, e1, e2⟩ := dpa_atI h2 ha
      exact .inl ⟨a, us, i, v, rfl, rfl, h1, e1, rv_val s k e2⟩
  · rename_i xs i
    cases hy
    cases hx with
    | @tup a us _ h1 h2 =>
      cases ha : atI xs i with
      | none => rw [ha] at hg; cases hg
      | some d =>
        rw [ha] at hg
        cases hg
        obtain ⟨v, e1, e2⟩ := dpa_atI h2 ha
        exact .inr (.inl ⟨a, us, i, v, rfl, rfl, (ex_f s h1).t, e1, rv_val s k e2⟩)
  · rename_i w i
    cases hy
    cases hx
    split at hg
    · rename_i c
      cases ha : atI w.cps.toList i with
      | none => rw [ha] at hg; cases hg
      | some d =>
        rw [ha] at hg
        cases hg
        exact .inr (.inr ⟨w, i, d, rfl, rfl, by rw [sizeLine_eq]; exact c, ha, rv_val s k (.str _)⟩)
    · cases hg
  · cases hg
theorem Fm.ix (X : Fm) (i : X.ι) : IxR (X.C i) (rIx X.K) := X.hK i ▸ ix_seq
theorem Fm.sl (X : Fm) (i : X.ι) : SlR (X.C i) (fun x lo hi H Q => rSlL X.K x lo hi H Q ∨ rSlF X.K x lo hi H Q) := X.hK i ▸ sl_list.or sl_tupF
theorem pd_ix {X : Fm} {W : WX} {a b : Expr} {fa fb : Ev} {pos : Pos} (ha : PDs X W a fa) (hb : PDs X W b fb) (hs : PlainIx b := by exact fun _ _ => rfl) : PD X W (.Subscript a b pos) (sOp gIx fa fb) := by
  obtain ⟨ta, pa, ka⟩ := ha
  obtain ⟨tb, pb, kb⟩ := hb
  exact ⟨_, fun i => pe_ix (X.ix i) (pa i) (pb i) hs, fun F H σ e O r e' Q s h k z => op_run og_ix ka kb s h k z⟩
/-- a part of a slice -/
def POD (X : Fm) (W : WX) (ex : Option Expr) (f : Option Ev) : Prop :=
  match f with
  | none => ex = none
  | some f => ∃ a, ex = some a ∧ PDs X W a f
theorem pod_none {X : Fm} {W : WX} : POD X W none none := rfl
theorem pod_some {X : Fm} {W : WX} {a : Expr} {f : Ev} (h : PDs X W a f) : POD X W (some a) (some f) := ⟨a, rfl, h⟩
def cutD {α : Type} (xs : List α) (lo hi : Option Int) : List α := (xs.drop (HT.sIx xs.length 0 lo)).take (HT.sIx xs.length xs.length hi - HT.sIx xs.length 0 lo)
theorem dpa_cut {K : PySem.W.Frag} {H : Hp} {vs : List V} {ds : List D} (lo hi : Option Int) (h : DpAll K H vs ds) : DpAll K H (cutV vs lo hi) (cutD ds lo hi) := by
  unfold cutV cutD
  rw [dpa_len h]
  exact dpa_take _ (dpa_drop _ h)
def gCut (d : D) (lo hi : Option Int) : Option Rs := match d with
  | .list xs => some (.new (cutD xs lo hi))
  | .tuple xs => some (.val (.tuple (cutD xs lo hi)))
  | _ => none
/-- the parts of a slice: ints -/
def sPart (f : Option Ev) (k : Option Int → Ev) : Ev := match f with
  | none => k none
  | some f => bnd f fun r e1 => match r with
    | .val (.int i) => k (some i) e1
    | _ => none
def sCut (fa : Ev) (fl fh : Option Ev) : Ev := bnd fa fun ra e1 => sPart fl (fun lo => sPart fh fun hi => fun e2 => match vw (settle ra) e2 with
  | some d => (gCut d lo hi).map fun r => (r, e2)
  | none => none) e1
theorem cutD_whole {α : Type} {xs : List α} {lo hi : Option Int} (h1 : HT.sIx xs.length 0 lo = 0) (h2 : HT.sIx xs.length xs.length hi = xs.length) : cutD xs lo hi = xs := by
  unfold cutD
  rw [h1, h2]
  simp
theorem part_run {X : Fm} {W : WX} {ex : Option Expr} {f : Option Ev} (h : POD X W ex f) : ∃ t : TO, (∀ i, PO (X.C i) ex t) ∧ ∀ (k : Option Int → Ev) F H σ e O r e' (P : Option Int → Hp → Prop), Sta X.K F H σ e O → sPart f k e = some (r, e') → ErOut X.K X.mg W F H σ e O r e' →
    (∀ o e1, k o e1 = some (r, e') → ∀ F1 H1 O1, Stp X.K F H σ e O F1 H1 σ e1 O1 → P o H1) → t σ H P := by
  cases f with
  | none =>
    cases h
    exact ⟨_, fun _ => po_none, fun k F H σ e O r e' P s q z go => go none e q F H O (Stp.refl s)⟩
  | some f =>
    obtain ⟨a, rfl, t, pa, ka⟩ := h
    refine ⟨_, fun i => po_some (pa i), fun k F H σ e O r e' P s q z go => bnd_run ka s q z fun ra e1 n1 h2 v F1 H1 O1 t q => ?_⟩
    cases ra with
    | val d =>
      cases d with
      | int i =>
        cases q
        exact ⟨i, rfl, go (some i) e1 h2 F1 H1 O1 t⟩
      | _ => cases h2
    | _ => cases h2
theorem slot_kept {K : PySem.W.Frag} {B F1 H1 F2 H2 : Hp} {σ : L2.St} {e1 e2 : Env} {O1 O2 : Nat → Addr → Prop} {r : Rs} {v : V} {d : D} (q : RsOk K B F1 H1 σ e1 O1 r v) (t : Stp K F1 H1 σ e1 O1 F2 H2 σ e2 O2) (hv : vw r e2 = some d) : RsOk K B F2 H2 σ e2 O2 r v :=
  q.later t fun i p xs y _ => by
    rw [y] at hv
    unfold vw at hv
    simp only at hv
    split at hv
    · rename_i p' ys hh; exact ⟨p', ys, hh⟩
    · cases hv
theorem pd_slice {X : Fm} {W : WX} {a : Expr} {lo hi : Option Expr} {fa : Ev} {fl fh : Option Ev} {pos p2 : Pos} (ha : PDs X W a fa) (hl : POD X W lo fl) (hh : POD X W hi fh) : PD X W (.Subscript a (.Slice lo hi none p2) pos) (sCut fa fl fh) := by
  obtain ⟨ta, pa, ka⟩ := ha
  obtain ⟨tl, pl, kl⟩ := part_run hl
  obtain ⟨th, ph, kh⟩ := part_run hh
  refine ⟨_, fun i => pe_slice (X.sl i) (pa i) (pl i) (ph i), fun F H σ e O r e' Q s h k z => ?_⟩
  refine bnd_run ka s h z fun ra e1 n1 h2 v F1 H1 O1 t1 q1 => ?_
  refine kl _ F1 H1 σ e1 O1 r e' _ t1.sta h2 (z.later t1) fun lo e2 h3 F2 H2 O2 t2 => ?_
  refine kh _ F2 H2 σ e2 O2 r e' _ t2.sta h3 (z.later (t1.trans t2)) fun hi e3 h4 F3 H3 O3 t3 => ?_
  obtain ⟨d, hd, hg, rfl⟩ := sUn_k (g := fun d => gCut d lo hi) h4
  have t23 := t2.trans t3
  have V3 := vw_vw t3.sta (slot_kept q1 t23 hd) hd
  have k3 := OkOut.rv (t1.trans t23) k
  cases d with
  | list xs =>
    cases hg
    obtain ⟨p, us, rfl, h5, h6⟩ := V3
    exact .inl ⟨p, us, rfl, h5, rv_lst t3.sta.ex k3 (dpa_cut lo hi h6)⟩
  | tuple xs =>
    cases hg
    cases V3 with
    | @tup p us _ h5 h6 =>
      refine .inr ⟨p, us, rfl, (ex_f t3.sta.ex h5).t, fun hw => ?_, fun hw => ?_⟩
      · refine rv_val t3.sta.ex k3 ?_
        rw [dpa_len h6] at hw
        rw [cutD_whole hw.1 hw.2]
        exact .tup h5 h6
      · exact rv_tup t3.sta.ex k3 (dpa_cut lo hi h6)
  | _ => cases hg
end MR

set_option Elab.async false
set_option linter.all false
set_option maxRecDepth 100000
set_option maxHeartbeats 1000000
namespace MR
open PySem PySem.Spec PyProof.Rows L2
variable [Tq]

/-! ### truth values -/
def tBnd (fa : Ev) (k : Bool → Env → Option (Rs × Env)) : Ev := bnd fa fun ra e1 => match ra with
  | .val (.bool b) => k b e1
  | _ => none
theorem tBnd_k {k : Bool → Env → Option (Rs × Env)} {ra : Rs} {e1 : Env} {r : Rs} {e' : Env} (h : (match ra with | .val (.bool b) => k b e1 | _ => none) = some (r, e')) : ∃ b, ra = .val (.bool b) ∧ k b e1 = some (r, e') := by
  split at h
  · rename_i b; exact ⟨b, rfl, h⟩
  · cases h
theorem t_run {X : Fm} {W : WX} {tt : TT} {fa : Ev} {k : Bool → Env → Option (Rs × Env)}
    (ka : ∀ F H σ e O r e' (Q : Bool → Hp → Prop), Sta X.K F H σ e O → fa e = some (r, e') →
      (∀ b F' H' O', r = .val (.bool b) → Stp X.K F H σ e O F' H' σ e' O' → Q b H') → (∀ d, r = .val d → ∃ b, d = .bool b) → (∀ xs, r ≠ .new xs) → (∀ i, r ≠ .slot i) → ErOut X.K X.mg W F H σ e O r e' → tt σ H Q)
    {F H : Hp} {σ : L2.St} {e : Env} {O : Nat → Addr → Prop} {r : Rs} {e' : Env} {P : Bool → Hp → Prop} (s : Sta X.K F H σ e O) (h : tBnd fa k e = some (r, e')) (z : ErOut X.K X.mg W F H σ e O r e')
    (go : ∀ b e1, k b e1 = some (r, e') → ∀ F1 H1 O1, Stp X.K F H σ e O F1 H1 σ e1 O1 → P b H1) : tt σ H P := by
  rcases bnd_cases h with ⟨x, h1, rfl⟩ | ⟨ra, e1, h1, n1, h2⟩
  · exact ka F H σ e O _ _ _ s h1 (fun _ _ _ _ y => nomatch y) (fun _ y => nomatch y) (fun _ y => nomatch y) (fun _ y => nomatch y) z
  · obtain ⟨b, rfl, h3⟩ := tBnd_k h2
    exact ka F H σ e O _ _ _ s h1 (fun b' F1 H1 O1 y t => (by cases y; exact go b e1 h3 F1 H1 O1 t)) (fun d y => (by cases y; exact ⟨b, rfl⟩)) (fun _ y => nomatch y) (fun _ y => nomatch y) (fun _ _ _ _ _ _ y => nomatch y)
def sAnd (fa fb : Ev) : Ev := tBnd fa fun b e1 => if b = true then fb e1 else some (.val (.bool false), e1)
def sOr (fa fb : Ev) : Ev := tBnd fa fun b e1 => if b = true then some (.val (.bool true), e1) else fb e1
def sNot (fa : Ev) : Ev := tBnd fa fun b e1 => some (.val (.bool (!b)), e1)
section
variable {X : Fm} {W : WX} {a b c : Expr} {fa fb fc : Ev} {pos : Pos} {rest : List Expr}
theorem bt_run {ta : TE} {k : Bool → Env → Option (Rs × Env)} (ka : Rdg X W ta fa) {F H : Hp} {σ : L2.St} {e : Env} {O : Nat → Addr → Prop} {r : Rs} {e' : Env} {P : VK} (s : Sta X.K F H σ e O)
    (h : tBnd fa k e = some (r, e')) (z : ErOut X.K X.mg W F H σ e O r e')
    (go : ∀ b e1, k b e1 = some (r, e') → ∀ F1 H1 O1, Stp X.K F H σ e O F1 H1 σ e1 O1 → P (.bl b) H1) : ta σ H P :=
  bnd_run ka s h z fun ra e1 n1 h2 v F1 H1 O1 t q => by
    obtain ⟨b, rfl, h3⟩ := tBnd_k h2
    cases q
    exact go b e1 h3 F1 H1 O1 t
theorem Rdg.of (h : ∀ F H σ e O r e' Q, Sta X.K F H σ e O → fa e = some (r, e') → OkOut X.K F H σ e O r e' Q → ErOut X.K X.mg W F H σ e O r e' → (t : TE) σ H Q) : Rdg X W t fa :=
  fun F H σ e O r e' Q s q k z => h F H σ e O r e' Q s q (settled k) z
theorem pd_one {op} (h : PD X W a fa) : PD X W (.BoolOp op [a] pos) fa := by
  obtain ⟨t, p, k⟩ := h
  exact ⟨t, fun i => pe_one (p i), k⟩
theorem pd_and (ha : PD X W a fa) (hb : PD X W (.BoolOp .And (b :: rest) pos) fb) : PD X W (.BoolOp .And (a :: b :: rest) pos) (sAnd fa fb) := by
  obtain ⟨ta, pa, ka⟩ := ha
  obtain ⟨tb, pb, kb⟩ := hb
  refine ⟨_, fun i => pe_and (pa i) (pb i), fun F H σ e O r e' Q s h k z => bt_run (Rdg.of ka) s h z fun b e1 h3 F1 H1 O1 t => ?_⟩
  refine ⟨b, rfl, ?_⟩
  cases b with
  | true =>
    refine iteT (kb F1 H1 σ e1 O1 r e' Q t.sta ?_ (k.later t) (z.later t))
    exact h3
  | false =>
    refine iteF ?_
    cases h3
    exact k _ F1 H1 O1 t (.bl _)
theorem pd_not (ha : PD X W a fa) : PD X W (.UnaryOp .Not a pos) (sNot fa) := by
  obtain ⟨ta, pa, ka⟩ := ha
  refine ⟨_, fun i => pe_not (pa i), fun F H σ e O r e' Q s h k z => bt_run (Rdg.of ka) s h z fun b e1 h3 F1 H1 O1 t => ?_⟩
  cases h3
  exact ⟨b, rfl, k _ F1 H1 O1 t (.bl _)⟩
theorem td_val (ha : PD X W a fa) (he : ∀ i whole, isTrue a (X.C i).env whole = (do let v ← whole; standAt a.pos; holding [v] (truthy v)) := by intro _ _; rfl) : TD X W a fa := by
  obtain ⟨ta, pa, ka⟩ := ha
  refine ⟨_, fun i => pt_val (pa i) (he i), fun F H σ e O r e' Q s h k kd kn ks z => ka F H σ e O r e' _ s h (fun v F' H' O' t q => ?_) z⟩
  cases r with
  | val d =>
    obtain ⟨b, rfl⟩ := kd d rfl
    cases q
    exact ⟨b, rfl, k b _ _ _ rfl t⟩
  | new xs => exact absurd rfl (kn xs)
  | slot i => exact absurd rfl (ks i)
  | err x => exact q.elim
/-- tests as parts of and, or -/
def TWD (X : Fm) (W : WX) (ex : Expr) (f : Ev) : Prop :=
  ∃ t : TT, (∀ i, PW (X.C i) ex t) ∧ ∀ F H σ e O r e' (Q : Bool → Hp → Prop), Sta X.K F H σ e O → f e = some (r, e') →
    (∀ b F' H' O', r = .val (.bool b) → Stp X.K F H σ e O F' H' σ e' O' → Q b H') → (∀ d, r = .val d → ∃ b, d = .bool b) → (∀ xs, r ≠ .new xs) → (∀ i, r ≠ .slot i) → ErOut X.K X.mg W F H σ e O r e' → t σ H Q
theorem TWD.td {ex : Expr} (h : TWD X W ex fa) : TD X W ex fa := by
  obtain ⟨t, p, k⟩ := h
  exact ⟨t, fun i => (p i).pt, k⟩
theorem twd_and1 (ha : TD X W a fa) : TWD X W (.BoolOp .And [a] pos) fa := by
  obtain ⟨t, p, k⟩ := ha
  exact ⟨t, fun i => pw_and1 (p i), k⟩
theorem twd_or1 (ha : TD X W a fa) : TWD X W (.BoolOp .Or [a] pos) fa := by
  obtain ⟨t, p, k⟩ := ha
  exact ⟨t, fun i => pw_or1 (p i), k⟩
theorem twd_and (ha : TD X W a fa) (hb : TWD X W (.BoolOp .And (b :: rest) pos) fb) : TWD X W (.BoolOp .And (a :: b :: rest) pos) (sAnd fa fb) := by
  obtain ⟨ta, pa, ka⟩ := ha
  obtain ⟨tb, pb, kb⟩ := hb
  refine ⟨_, fun i => pw_and (pa i) (pb i), fun F H σ e O r e' Q s h k kd kn ks z => t_run ka s h z fun b e1 h3 F1 H1 O1 t => ?_⟩
  cases b with
  | true =>
    refine iteT (kb F1 H1 σ e1 O1 r e' Q t.sta ?_ (fun b F' H' O' y t' => k b F' H' O' y (t.trans t')) kd kn ks (z.later t))
    exact h3
  | false =>
    refine iteF ?_
    cases h3
    exact k _ F1 H1 O1 rfl t
theorem twd_or (ha : TD X W a fa) (hb : TWD X W (.BoolOp .Or (b :: rest) pos) fb) : TWD X W (.BoolOp .Or (a :: b :: rest) pos) (sOr fa fb) := by
  obtain ⟨ta, pa, ka⟩ := ha
  obtain ⟨tb, pb, kb⟩ := hb
  refine ⟨_, fun i => pw_or (pa i) (pb i), fun F H σ e O r e' Q s h k kd kn ks z => t_run ka s h z fun b e1 h3 F1 H1 O1 t => ?_⟩
  cases b with
  | true =>
    refine iteT ?_
    cases h3
    exact k _ F1 H1 O1 rfl t
  | false =>
    refine iteF (kb F1 H1 σ e1 O1 r e' Q t.sta ?_ (fun b F' H' O' y t' => k b F' H' O' y (t.trans t')) kd kn ks (z.later t))
    exact h3
theorem td_not (ha : TD X W a fa) : TD X W (.UnaryOp .Not a pos) (sNot fa) := by
  obtain ⟨ta, pa, ka⟩ := ha
  refine ⟨_, fun i => pt_not (pa i), fun F H σ e O r e' Q s h k kd kn ks z => t_run ka s h z fun b e1 h3 F1 H1 O1 t => ?_⟩
  cases h3
  exact k _ F1 H1 O1 rfl t
/-- a if c else b -/
def sIfE (fc fa fb : Ev) : Ev := tBnd fc fun b e1 => if b = true then fa e1 else fb e1
/-! ### a op b op' c -/
def sChain (g g' : D → D → Option Rs) (fa fb fc : Ev) : Ev := bnd fa fun ra e1 => bnd (fun e => fb e) (fun rb e2 => match vw (settle ra) e2, vw (settle rb) e2 with
  | some da, some db => match g da db with
    | some (.val (.bool k)) => if k = true then bnd fc (fun rc e3 => match vw (settle rb) e3, vw (settle rc) e3 with
        | some db, some dc => (g' db dc).map fun r => (r, e3)
        | _, _ => none) e2 else some (.val (.bool false), e2)
    | _ => none
  | _, _ => none) e1
theorem chain_run {R R' : R2} {g g' : D → D → Option Rs} (hg : OpG X.K R g) (hg' : OpG X.K R' g') {ta tb tc : TE} (ka : Rdg X W ta fa) (kb : Rdg X W tb fb) (kc : Rdg X W tc fc)
    {F H : Hp} {σ : L2.St} {e : Env} {O : Nat → Addr → Prop} {r : Rs} {e' : Env} {Q : VK} (s : Sta X.K F H σ e O) (h : sChain g g' fa fb fc e = some (r, e')) (k : OkOut X.K F H σ e O r e' Q) (z : ErOut X.K X.mg W F H σ e O r e') :
    tChain R R' ta tb tc σ H Q := by
  refine bnd_run ka s h z fun ra e1 n1 h2 v F1 H1 O1 t1 q1 => ?_
  refine bnd_run kb t1.sta h2 (z.later t1) fun rb e2 n2 h3 w F2 H2 O2 t2 q2 => ?_
  split at h3
  · rename_i da db va vb
    split at h3
    · rename_i kk hk
      have V1 := vw_vw t2.sta (slot_kept q1 t2 va) va
      have V2 := vw_vw t2.sta q2 vb
      refine hg F2 H2 v w da db _ _ t2.sta.ex V1 V2 hk fun u F3 H3 al q3 => ?_
      cases q3
      refine ⟨kk, rfl, ?_⟩
      have t3 := t2.trans (al.stp t2.sta)
      cases kk with
      | true =>
        refine iteT (bnd_run kc (al.stp t2.sta).sta h3 ((z.later t1).later t3) fun rc e3 n3 h4 x F4 H4 O4 t4 q4 => ?_)
        split at h4
        · rename_i db' dc vb' vc
          cases hr : g' db' dc with
          | none => rw [hr] at h4; cases h4
          | some y =>
            rw [hr] at h4
            cases h4
            have t5 := (al.stp t2.sta).trans t4
            exact hg' F4 H4 w x db' dc _ _ t4.sta.ex (vw_vw t4.sta (slot_kept q2 t5 vb') vb') (vw_vw t4.sta q4 vc) hr (OkOut.rv (t1.trans (t3.trans t4)) k)
        · cases h4
      | false =>
        refine iteF ?_
        cases h3
        exact k _ F3 H3 O2 (t1.trans t3) (.bl _)
    · cases h3
  · cases h3
theorem pd_chain {op op' : CmpOp} {R R' : R2} {g g' : D → D → Option Rs} (ho : ∀ i, OpR (X.C i) (compareOp op) R) (hg : OpG X.K R g) (ho' : ∀ i, OpR (X.C i) (compareOp op') R') (hg' : OpG X.K R' g') (ha : PDs X W a fa) (hb : PDs X W b fb) (hc : PDs X W c fc)
    (hm : lastMarks [op, op'] [b, c] = false := by with_unfolding_all rfl) : PD X W (.Compare a [op, op'] [b, c] pos) (sChain g g' fa fb fc) := by
  obtain ⟨ta, pa, ka⟩ := ha
  obtain ⟨tb, pb, kb⟩ := hb
  obtain ⟨tc, pc, kc⟩ := hc
  exact ⟨_, fun i => pe_chain (ho i) (ho' i) (pa i) (pb i) (pc i) hm, fun F H σ e O r e' Q s h k z => chain_run hg hg' ka kb kc s h k z⟩
theorem td_chain {op op' : CmpOp} {R R' : R2} {g g' : D → D → Option Rs} (ho : ∀ i, OpR (X.C i) (compareOp op) R) (hg : OpG X.K R g) (ho' : ∀ i, OpR (X.C i) (compareOp op') R') (hg' : OpG X.K R' g') (ha : PDs X W a fa) (hb : PDs X W b fb) (hc : PDs X W c fc)
    (hm : lastMarks [op, op'] [b, c] = false := by with_unfolding_all rfl) : TD X W (.Compare a [op, op'] [b, c] pos) (sChain g g' fa fb fc) := by
  obtain ⟨ta, pa, ka⟩ := ha
  obtain ⟨tb, pb, kb⟩ := hb
  obtain ⟨tc, pc, kc⟩ := hc
  refine ⟨_, fun i => pt_chain (ho i) (ho' i) (pa i) (pb i) (pc i) hm, fun F H σ e O r e' Q s h k kd kn ks z => chain_run hg hg' ka kb kc s h (fun v F' H' O' t q => ?_) z⟩
  cases r with
  | val d =>
    obtain ⟨b, rfl⟩ := kd d rfl
    cases q
    exact ⟨b, rfl, k b _ _ _ rfl t⟩
  | new xs => exact absurd rfl (kn xs)
  | slot i => exact absurd rfl (ks i)
  | err x => exact q.elim
/-! ### truth of any value -/
end
/-! ### in, not in: flat things in a list or tuple -/
def flatD : D → Bool
  | .none | .bool _ | .int _ | .str _ => true
  | _ => false
theorem flat_dp {K : PySem.W.Frag} {H : Hp} {v : V} {d : D} (h : Dp K H v d) (f : flatD d = true) : flatV v = true := by
  cases h <;> first | rfl | cases f
theorem eqv_dp {K : PySem.W.Frag} {H : Hp} {v w : V} {d c : D} (h : Dp K H v d) (h2 : Dp K H w c) (f : flatD d = true) (f2 : flatD c = true) : eqV v w = PyData.eqv d c := by
  cases h <;> cases h2 <;> first | rfl | cases f | cases f2
theorem flats_dp {K : PySem.W.Frag} {H : Hp} : ∀ {vs : List V} {ds : List D}, DpAll K H vs ds → ds.all flatD = true → vs.all flatV = true
  | _, _, .nil, _ => rfl
  | _, _, .cons a t, f => by
    rw [List.all_cons, Bool.and_eq_true] at f
    rw [List.all_cons, flat_dp a f.1, flats_dp t f.2]
    rfl
theorem inV_dp {K : PySem.W.Frag} {H : Hp} {v : V} {d : D} (h : Dp K H v d) (f : flatD d = true) : ∀ {vs : List V} {ds : List D}, DpAll K H vs ds → ds.all flatD = true → inV v vs = ds.any fun y => PyData.eqv y d
  | _, _, .nil, _ => rfl
  | _, _, .cons (vs := vs) a t, g => by
    rw [List.all_cons, Bool.and_eq_true] at g
    have ih := inV_dp h f t g.2
    unfold inV at ih ⊢
    rw [List.any_cons, List.any_cons, ih, eqv_dp a h g.1 f]
def gInF (neg : Bool) : D → D → Option Rs
  | x, .list ds => if flatD x = true ∧ ds.all flatD = true then some (.val (.bool (if neg then !(ds.any fun y => PyData.eqv y x) else ds.any fun y => PyData.eqv y x))) else none
  | x, .tuple ds => if flatD x = true ∧ ds.all flatD = true then some (.val (.bool (if neg then !(ds.any fun y => PyData.eqv y x) else ds.any fun y => PyData.eqv y x))) else none
  | _, _ => none
theorem og_inF {K : PySem.W.Frag} {neg : Bool} : OpG K (rIn K neg) (gInF neg) := by
  intro F H x y da db z Q s hx hy hg k
  unfold gInF at hg
  split at hg
  · rename_i ds
    split at hg
    · rename_i c
      cases hg
      obtain ⟨a, us, rfl, h1, h2⟩ := hy
      have hx' := hx.dp s
      have h2' := dpa_mono s _ _ h2
      refine ⟨a, us, rfl, .inl h1, flat_dp hx' c.1, flats_dp h2' c.2, ?_⟩
      rw [inV_dp hx' c.1 h2' c.2]
      exact rv_val s k (.bl _)
    · cases hg
  · rename_i ds
    split at hg
    · rename_i c
      cases hg
      cases hy with
      | @tup a us _ h1 h2 =>
        have hx' := hx.dp s
        have h2' := dpa_mono s _ _ h2
        refine ⟨a, us, rfl, .inr (ex_f s h1).t, flat_dp hx' c.1, flats_dp h2' c.2, ?_⟩
        rw [inV_dp hx' c.1 h2' c.2]
        exact rv_val s k (.bl _)
    · cases hg
  · cases hg
end MR

set_option Elab.async false
set_option linter.all false
set_option maxRecDepth 100000
set_option maxHeartbeats 1000000
namespace MR
open PySem PySem.Spec PyProof.Rows L2
variable [Tq]

/-! ### slots are set -/
def noPin (e : Env) (j : Nat) : Bool := match e[j]? with
  | some (.own true _) => false
  | some _ => true
  | none => false
theorem noPin_ok {e : Env} {j : Nat} (h : noPin e j = true) : j < e.length ∧ ∀ xs, e[j]? ≠ some (.own true xs) := by
  unfold noPin at h
  cases q : e[j]? with
  | none => rw [q] at h; cases h
  | some s =>
    refine ⟨(List.getElem?_eq_some_iff.mp q).1, fun xs z => ?_⟩
    cases z
    rw [q] at h
    cases h
section
variable {K : PySem.W.Frag} {F H F1 H1 : Hp} {σ σ1 : L2.St} {e e1 : Env} {O O1 : Nat → Addr → Prop}
/-- a slot is given a value v that s tells, holding the addresses of P alone -/
theorem set_ok {j : Nat} {s : Sl} {v : V} {P : Addr → Prop} (t : Stp K F H σ e O F1 H1 σ1 e1 O1) (hj : noPin e1 j = true) (hs : SlOk K F1 H1 s (some v) P) (hP : ∀ a, P a → No H a ∧ ∀ i, ¬ O1 i a) :
    Stp K F H σ e O F1 H1 (σ1.set j (some v)) (e1.set j s) (fun i a => if i = j then P a else O1 i a) := by
  obtain ⟨hl, hn⟩ := noPin_ok hj
  refine ⟨⟨t.sta.ex, by rw [List.length_set, List.length_set]; exact t.sta.len, fun i s' q => ?_, fun i a z => ?_, fun i k a z y => ?_, t.sta.tab⟩, (by rw [List.length_set]; exact t.same), t.up, t.new, t.keep, t.grow, fun i p z => ?_, fun i xs q => ?_⟩
  · by_cases hi : i = j
    · subst hi
      rw [List.getElem?_set_self hl] at q
      cases q
      refine ⟨some v, by rw [List.getElem?_set_self (by rw [t.sta.len]; exact hl)], ?_⟩
      simpa using hs
    · rw [List.getElem?_set_ne (Ne.symm hi)] at q ⊢
      obtain ⟨x, e2, z⟩ := t.sta.slot i s' q
      refine ⟨x, e2, ?_⟩
      simpa [hi] using z
  · rw [List.length_set]
    have z : if i = j then P a else O1 i a := z
    split at z
    · rename_i hi; rw [hi]; exact hl
    · exact t.sta.out i a z
  · have z : if i = j then P a else O1 i a := z
    have y : if k = j then P a else O1 k a := y
    split at z <;> split at y
    · rename_i h1 h2; exact h1.trans h2.symm
    · exact absurd y ((hP a z).2 k)
    · exact absurd z ((hP a y).2 i)
    · exact t.sta.sep i k a z y
  · have z : if i = j then P p else O1 i p := z
    split at z
    · exact .inr (hP p z).1
    · exact t.own i p z
  · obtain ⟨⟨ys, z1⟩, z2, z3⟩ := t.pin i xs q
    have hi : i ≠ j := fun y => hn ys (by rw [← y]; exact z1)
    refine ⟨⟨ys, by rw [List.getElem?_set_ne (Ne.symm hi)]; exact z1⟩, by rw [List.getElem?_set_ne (Ne.symm hi)]; exact z2, fun a y => ?_⟩
    simpa [hi] using z3 a y
theorem set_val {j : Nat} {v : V} {d : D} (t : Stp K F H σ e O F1 H1 σ1 e1 O1) (hj : noPin e1 j = true) (h : Dp K F1 v d) : ∃ O2, Stp K F H σ e O F1 H1 (σ1.set j (some v)) (e1.set j (.val d)) O2 :=
  ⟨_, set_ok (P := fun _ => False) t hj ⟨⟨v, rfl, h⟩, fun _ z => z⟩ fun _ z => z.elim⟩
theorem set_new {j : Nat} {v : V} {xs : List D} (t : Stp K F H σ e O F1 H1 σ1 e1 O1) (hj : noPin e1 j = true) (h : RsOk K H F1 H1 σ1 e1 O1 (.new xs) v) : ∃ O2, Stp K F H σ e O F1 H1 (σ1.set j (some v)) (e1.set j (.own false xs)) O2 := by
  obtain ⟨a, vs, rfl, h1, h2, h3, h4, h5⟩ := h
  exact ⟨_, set_ok (P := fun b => b = a) t hj ⟨a, vs, rfl, h1, h2, h3, fun _ => Iff.rfl⟩ fun b z => by subst z; exact ⟨h5, h4⟩⟩
end

/-! ### statements -/
def SOut (K : PySem.W.Frag) (mg : Str → Option Value) (W : WX) (F H : Hp) (σ : L2.St) (e : Env) (O : Nat → Addr → Prop) (o : Out) (e' : Env) (Dn : Ends) : Prop :=
  match o with
  | .nx => ∀ F' H' σ' O', Stp K F H σ e O F' H' σ' e' O' → Dn.nx σ' H'
  | .brk => ∀ F' H' σ' O', Stp K F H σ e O F' H' σ' e' O' → Dn.bk σ' H'
  | .ct => ∀ F' H' σ' O', Stp K F H σ e O F' H' σ' e' O' → Dn.ct σ' H'
  | .ret r => ∀ v F' H' σ' O', Stp K F H σ e O F' H' σ' e' O' → RsOk K H F' H' σ' e' O' r v → Dn.rt v H'
  | .err x => ∀ cls d F' H' σ' O', Stp K F H σ e O F' H' σ' e' O' → ErOk K mg F' H' x cls d → W cls d σ' H'
theorem SOut.later {K : PySem.W.Frag} {mg : Str → Option Value} {W : WX} {F H F1 H1 : Hp} {σ σ1 : L2.St} {e e1 e' : Env} {O O1 : Nat → Addr → Prop} {o : Out} {Dn : Ends} (t : Stp K F H σ e O F1 H1 σ1 e1 O1) (k : SOut K mg W F H σ e O o e' Dn) : SOut K mg W F1 H1 σ1 e1 O1 o e' Dn := by
  cases o with
  | nx => exact fun F' H' σ' O' t' => k F' H' σ' O' (t.trans t')
  | brk => exact fun F' H' σ' O' t' => k F' H' σ' O' (t.trans t')
  | ct => exact fun F' H' σ' O' t' => k F' H' σ' O' (t.trans t')
  | ret r => exact fun v F' H' σ' O' t' q => k v F' H' σ' O' (t.trans t') (q.base fun p y => t.back y)
  | err x => exact fun cls d F' H' σ' O' t' q => k cls d F' H' σ' O' (t.trans t') q
def SD (X : Fm) (W : WX) (st : Stmt) (f : Stm) : Prop :=
  ∃ t : TS, (∀ i, PS (X.C i) st t) ∧ ∀ F H σ e O o e' Dn, Sta X.K F H σ e O → f e = some (o, e') → SOut X.K X.mg W F H σ e O o e' Dn → t Dn σ H
def SDs (X : Fm) (W : WX) (st : List Stmt) (f : Stm) : Prop :=
  ∃ t : TS, (∀ i, PSs (X.C i) st t) ∧ ∀ F H σ e O o e' Dn, Sta X.K F H σ e O → f e = some (o, e') → SOut X.K X.mg W F H σ e O o e' Dn → t Dn σ H
def sSkip : Stm := fun e => some (.nx, e)
def sSeq (f g : Stm) : Stm := fun e => match f e with
  | some (.nx, e1) => g e1
  | r => r
/-- the way of a statement's error, where its expression's error goes out -/
theorem er_out {X : Fm} {W : WX} {F H : Hp} {σ : L2.St} {e : Env} {O : Nat → Addr → Prop} {x : Er} {e' : Env} {Dn : Ends} (k : SOut X.K X.mg W F H σ e O (.err x) e' Dn) : ErOut X.K X.mg W F H σ e O (.err x) e' :=
  fun x' cls d F' H' O' y t w => by cases y; exact k cls d F' H' σ O' t w
section
variable {X : Fm} {W : WX} {st : Stmt} {rest : List Stmt} {f g : Stm} {ex : Expr} {fe : Ev} {pos : Pos}
theorem sds_nil : SDs X W [] sSkip := ⟨_, fun _ => pss_nil, fun F H σ e O o e' Dn s h k => by cases h; exact k F H σ O (Stp.refl s)⟩
theorem sds_cons (h1 : SD X W st f) (h2 : SDs X W rest g) : SDs X W (st :: rest) (sSeq f g) := by
  obtain ⟨t1, p1, k1⟩ := h1
  obtain ⟨t2, p2, k2⟩ := h2
  refine ⟨_, fun i => pss_cons (p1 i) (p2 i), fun F H σ e O o e' Dn s h k => ?_⟩
  unfold sSeq at h
  cases hf : f e with
  | none => rw [hf] at h; cases h
  | some p =>
    obtain ⟨o1, e1⟩ := p
    rw [hf] at h
    cases o1 with
    | nx =>
      refine k1 F H σ e O .nx e1 _ s hf fun F1 H1 σ1 O1 t => ?_
      exact k2 F1 H1 σ1 e1 O1 o e' Dn t.sta h (k.later t)
    | brk => cases h; exact k1 F H σ e O _ _ _ s hf k
    | ct => cases h; exact k1 F H σ e O _ _ _ s hf k
    | ret r => cases h; exact k1 F H σ e O _ _ _ s hf k
    | err x => cases h; exact k1 F H σ e O _ _ _ s hf k
theorem sds_one (h1 : SD X W st f) : SDs X W [st] f := by
  obtain ⟨t1, p1, k1⟩ := h1
  exact ⟨_, fun i => pss_one (p1 i), k1⟩
/-- what is never reached here -/
def sNever : Stm := fun _ => none
theorem sd_never : SD X W st sNever := ⟨_, fun _ => ps_never, fun F H σ e O o e' Dn s h k => by cases h⟩
/-- an expression alone -/
def sExpr (fe : Ev) : Stm := fun e => match fe e with
  | none => none
  | some (.err x, e1) => some (.err x, e1)
  | some (_, e1) => some (.nx, e1)
theorem sExpr_cases {e : Env} {o : Out} {e' : Env} (h : sExpr fe e = some (o, e')) : (∃ x, fe e = some (.err x, e') ∧ o = .err x) ∨ ∃ r, fe e = some (r, e') ∧ (∀ x, r ≠ .err x) ∧ o = .nx := by
  unfold sExpr at h
  cases ha : fe e with
  | none => rw [ha] at h; cases h
  | some p =>
    obtain ⟨ra, e1⟩ := p
    rw [ha] at h
    cases ra with
    | err x => cases h; exact .inl ⟨x, rfl, rfl⟩
    | val d => cases h; exact .inr ⟨_, rfl, (fun _ z => nomatch z), rfl⟩
    | new xs => cases h; exact .inr ⟨_, rfl, (fun _ z => nomatch z), rfl⟩
    | slot i => cases h; exact .inr ⟨_, rfl, (fun _ z => nomatch z), rfl⟩
theorem sd_expr (he : PD X W ex fe) (hs : ∀ i, swapsWith ex none pos.line (X.C i).env = pure false := by exact fun _ => rfl) : SD X W (.Expr ex pos) (sExpr fe) := by
  obtain ⟨t, p, ke⟩ := he
  refine ⟨_, fun i => ps_expr (p i) (hs i), fun F H σ e O o e' Dn s h k => ?_⟩
  rcases sExpr_cases h with ⟨x, h1, rfl⟩ | ⟨r, h1, n1, rfl⟩
  · exact ke F H σ e O _ _ _ s h1 (fun v F' H' O' t q => q.elim) (er_out k)
  · exact ke F H σ e O _ _ _ s h1 (fun v F' H' O' t q => k F' H' σ O' t) (fun x _ _ _ _ _ y => absurd y (n1 x))
def sRet (fe : Ev) : Stm := fun e => match fe e with
  | none => none
  | some (.err x, e1) => some (.err x, e1)
  | some (r, e1) => some (.ret r, e1)
theorem sRet_cases {e : Env} {o : Out} {e' : Env} (h : sRet fe e = some (o, e')) : (∃ x, fe e = some (.err x, e') ∧ o = .err x) ∨ ∃ r, fe e = some (r, e') ∧ (∀ x, r ≠ .err x) ∧ o = .ret r := by
  unfold sRet at h
  cases ha : fe e with
  | none => rw [ha] at h; cases h
  | some p =>
    obtain ⟨ra, e1⟩ := p
    rw [ha] at h
    cases ra with
    | err x => cases h; exact .inl ⟨x, rfl, rfl⟩
    | val d => cases h; exact .inr ⟨_, rfl, (fun _ z => nomatch z), rfl⟩
    | new xs => cases h; exact .inr ⟨_, rfl, (fun _ z => nomatch z), rfl⟩
    | slot i => cases h; exact .inr ⟨_, rfl, (fun _ z => nomatch z), rfl⟩
theorem sd_ret (he : PD X W ex fe) : SD X W (.Return (some ex) pos) (sRet fe) := by
  obtain ⟨t, p, ke⟩ := he
  refine ⟨_, fun i => ps_ret (p i), fun F H σ e O o e' Dn s h k => ?_⟩
  rcases sRet_cases h with ⟨x, h1, rfl⟩ | ⟨r, h1, n1, rfl⟩
  · exact ke F H σ e O _ _ _ s h1 (fun v F' H' O' t q => q.elim) (er_out k)
  · exact ke F H σ e O _ _ _ s h1 (fun v F' H' O' t q => k v F' H' σ O' t q) (fun x _ _ _ _ _ y => absurd y (n1 x))
/-- if -/
def sIf (fc : Ev) (f g : Stm) : Stm := fun e => match fc e with
  | some (.err x, e1) => some (.err x, e1)
  | some (.val (.bool b), e1) => if b = true then f e1 else g e1
  | _ => none
theorem sIf_cases {fc : Ev} {e : Env} {o : Out} {e' : Env} (h : sIf fc f g e = some (o, e')) : (∃ x, fc e = some (.err x, e') ∧ o = .err x) ∨ ∃ b e1, fc e = some (.val (.bool b), e1) ∧ (if b = true then f e1 else g e1) = some (o, e') := by
  unfold sIf at h
  cases ha : fc e with
  | none => rw [ha] at h; cases h
  | some p =>
    obtain ⟨ra, e1⟩ := p
    rw [ha] at h
    cases ra with
    | err x => cases h; exact .inl ⟨x, rfl, rfl⟩
    | val d =>
      cases d with
      | bool b => exact .inr ⟨b, e1, rfl, h⟩
      | _ => cases h
    | new xs => cases h
    | slot i => cases h
theorem sd_if {c : Expr} {a b : List Stmt} {fc : Ev} (hc : TD X W c fc) (ha : SDs X W a f) (hb : SDs X W b g) : SD X W (.If c a b pos) (sIf fc f g) := by
  obtain ⟨tc, pc, kc⟩ := hc
  obtain ⟨t1, p1, k1⟩ := ha
  obtain ⟨t2, p2, k2⟩ := hb
  refine ⟨_, fun i => ps_if (pc i) (p1 i) (p2 i), fun F H σ e O o e' Dn s h k => ?_⟩
  rcases sIf_cases h with ⟨x, h1, rfl⟩ | ⟨b, e1, h1, h2⟩
  · exact kc F H σ e O _ _ _ s h1 (fun _ _ _ _ y => nomatch y) (fun _ y => nomatch y) (fun _ y => nomatch y) (fun _ y => nomatch y) (er_out k)
  · refine kc F H σ e O _ _ _ s h1 (fun b' F1 H1 O1 y t => ?_) (fun d y => (by cases y; exact ⟨b, rfl⟩)) (fun _ y => nomatch y) (fun _ y => nomatch y) (fun _ _ _ _ _ _ y => nomatch y)
    cases y
    cases b with
    | true =>
      refine iteT (k1 F1 H1 σ e1 O1 o e' Dn t.sta ?_ (k.later t))
      exact h2
    | false =>
      refine iteF (k2 F1 H1 σ e1 O1 o e' Dn t.sta ?_ (k.later t))
      exact h2
/-! ### x = e -/
def sSet (j : Nat) (fe : Ev) : Stm := fun e => match fe e with
  | none => none
  | some (.err x, e1) => some (.err x, e1)
  | some (.new xs, e1) => if noPin e1 j = true then some (.nx, e1.set j (.own false xs)) else none
  | some (r, e1) => match tk r e1 with
    | some (d, e2) => if noPin e2 j = true then some (.nx, e2.set j (.val d)) else none
    | none => none
theorem sSet_cases {j : Nat} {e : Env} {o : Out} {e' : Env} (h : sSet j fe e = some (o, e')) : (∃ x, fe e = some (.err x, e') ∧ o = .err x) ∨
    (∃ xs e1, fe e = some (.new xs, e1) ∧ noPin e1 j = true ∧ e' = e1.set j (.own false xs) ∧ o = .nx) ∨
    ∃ r e1 d e2, fe e = some (r, e1) ∧ (∀ x, r ≠ .err x) ∧ tk r e1 = some (d, e2) ∧ noPin e2 j = true ∧ e' = e2.set j (.val d) ∧ o = .nx := by
  unfold sSet at h
  cases ha : fe e with
  | none => rw [ha] at h; cases h
  | some p =>
    obtain ⟨ra, e1⟩ := p
    rw [ha] at h
    have fin : (∀ x, ra ≠ .err x) → (match tk ra e1 with
      | some (d, e2) => if noPin e2 j = true then some (Out.nx, e2.set j (.val d)) else none
      | none => none) = some (o, e') → ∃ r e1' d e2, some (ra, e1) = some (r, e1') ∧ (∀ x, r ≠ .err x) ∧ tk r e1' = some (d, e2) ∧ noPin e2 j = true ∧ e' = e2.set j (.val d) ∧ o = .nx := by
      intro hn h
      split at h
      · rename_i d e2 hd
        split at h
        · rename_i c
          cases h
          exact ⟨ra, e1, d, e2, rfl, hn, hd, c, rfl, rfl⟩
        · cases h
      · cases h
    cases ra with
    | err x => cases h; exact .inl ⟨x, rfl, rfl⟩
    | new xs =>
      simp only at h
      split at h
      · rename_i c
        cases h
        exact .inr (.inl ⟨xs, e1, rfl, c, rfl, rfl⟩)
      · cases h
    | val d => exact .inr (.inr (fin (fun _ z => nomatch z) h))
    | slot i => exact .inr (.inr (fin (fun _ z => nomatch z) h))
theorem sd_set {x : Str} {j : Nat} {pos' : Pos} (hN : ∀ i, (X.C i).N.Nodup) (hi : ∀ i, (X.C i).N[j]? = some x) (hx : ∀ i, Loc (X.C i).env.scope x) (he : PD X W ex fe)
    (hf : ∀ i, (X.C i).fn x = true ∨ (X.C i).env.scope.names.lookup x = some .local := by first | exact fun _ => .inl rfl | exact fun _ => .inr rfl)
    (hs : ∀ i, swapsWithSole [.Name x pos'] ex pos.line (X.C i).env = pure false := by exact fun _ => rfl) (hw : ∀ i, swappedStores [.Name x pos'] ex (X.C i).env = pure none := by exact fun _ => rfl) : SD X W (.Assign [.Name x pos'] ex pos) (sSet j fe) := by
  obtain ⟨t, p, ke⟩ := he
  refine ⟨_, fun i => ps_asg (p i) (pg_name (hN i) (hi i) (hx i) (hf i)) (hs i) (hw i), fun F H σ e O o e' Dn s h k => ?_⟩
  rcases sSet_cases h with ⟨x, h1, rfl⟩ | ⟨xs, e1, h1, c, rfl, rfl⟩ | ⟨r, e1, d, e2, h1, n1, hd, c, rfl, rfl⟩
  · exact ke F H σ e O _ _ _ s h1 (fun v F' H' O' t q => q.elim) (er_out k)
  · refine ke F H σ e O _ _ _ s h1 (fun v F1 H1 O1 t q => ?_) (fun _ _ _ _ _ _ y => nomatch y)
    obtain ⟨O2, t2⟩ := set_new t c q
    exact k _ _ _ _ t2
  · refine ke F H σ e O _ _ _ s h1 (fun v F1 H1 O1 t q => ?_) (fun x _ _ _ _ _ y => absurd y (n1 x))
    obtain ⟨F2, O2, t2, hd2, _⟩ := take_ok t q hd
    obtain ⟨O3, t3⟩ := set_val t2 c hd2
    exact k _ _ _ _ t3
end
end MR

set_option Elab.async false
set_option linter.all false
set_option maxRecDepth 100000
set_option maxHeartbeats 1000000
namespace MR
open PySem PySem.Spec PyProof.Rows L2
variable [Tq]

/-! ### what is walked -/
inductive IRes where
  | ok (items : List D) (gd : Option Nat) | err (x : Er)
abbrev Iv := Env → Option (IRes × Env)
/-- the list that is walked stands as it stood -/
def Gd (K : PySem.W.Frag) (σ : L2.St) (items : List D) : Option Nat → Hp → Hp → Prop
  | none, _, _ => True
  | some j, F, H => ∃ a vs, σ[j]? = some (some (.ref a)) ∧ H a = some (.lst vs) ∧ DpAll K F vs items
def ItOk (K : PySem.W.Frag) (J : It) (items : List D) (F : Hp) (σ : L2.St) (gd : Option Nat) : Prop :=
  ∀ (i : Nat) F' H', Ex F F' → Ex F' H' → Gd K σ items gd F' H' →
    (∀ d, items[i]? = some d → J.go i H' ∧ ∀ x H'', J.yld i H' x H'' → ∃ F'', Al F' H' F'' H'' ∧ Dp K F'' x d) ∧ (items.length ≤ i → J.stop i H')
def PID (X : Fm) (W : WX) (tg iter : Expr) (fi : Iv) : Prop :=
  ∃ wi : TI, (∀ i, PI (X.C i) tg iter wi) ∧ ∀ F H σ e O a e' (R : It → Hp → Prop), Sta X.K F H σ e O → fi e = some (a, e') →
    (∀ J items gd F' H' O', a = .ok items gd → Stp X.K F H σ e O F' H' σ e' O' → ItOk X.K J items F' σ gd → (∀ j, gd = some j → ∃ p, e'[j]? = some (.own p items)) → R J H') →
    (∀ x cls d F' H' O', a = .err x → Stp X.K F H σ e O F' H' σ e' O' → ErOk X.K X.mg F' H' x cls d → W cls d σ H') → wi σ H R
/-- a list or a tuple -/
def iSeq (K : PySem.W.Frag) (tl : TE) : TI := fun σ H R => tl σ H fun x H1 => ∃ a, x = .ref a ∧ (((∃ xs, SqL K H1 a xs) ∧ R (Itl K a) H1) ∨ ((∃ xs, SqT K H1 a xs) ∧ R (Itt K a) H1))
theorem pi_seq {X : Cx} {tg l : Expr} {tl : TE} (hl : PE X l tl) : PI X tg l (iSeq X.K tl) := ⟨fun pins s σ H R I h => by
  apply thn (hl.run pins s σ H _ I h)
  rintro v t ⟨x, G, J, rx, a, rfl, hq⟩
  cases rx
  have fresh : ∀ b ∈ [t.heap.objs.size], FpOk X pins G b := by
    intro b hb
    rw [List.mem_singleton.mp hb]
    exact J.fpOk (Nat.le_refl _) (J.hok.fresh (Nat.le_refl _))
  rcases hq with ⟨⟨xs, hq⟩, k⟩ | ⟨⟨xs, hq⟩, k⟩
  · obtain ⟨its, _, p, _⟩ := J.list hq
    apply wpAny_pyIter_list p.isList
    exact ⟨_, _, _, _, G, rfl, J.kept (t' := t.toks) fun b o z => Heap.get?_push_of_some _ z, turn_list a _, ⟨_, Heap.get?_push_size _ rfl, rfl, rfl⟩, fresh, k⟩
  · obtain ⟨its, _, p, _⟩ := J.tuple hq
    apply wpAny_pyIter_tuple (show t.heap.IsTuple a its.toArray from p)
    exact ⟨_, _, _, _, G, rfl, J.kept (t' := t.toks) fun b o z => Heap.get?_push_of_some _ z, turn_tuple a _, ⟨_, Heap.get?_push_size _ rfl, rfl, rfl⟩, fresh, k⟩⟩
section
variable {K : PySem.W.Frag} {F H : Hp} {σ : L2.St} {a : Addr} {vs : List V} {ds : List D}
theorem it_l (h1 : ∀ F' H', Ex F F' → Ex F' H' → Gd K σ ds gd F' H' → ∃ vs, SqL K H' a vs ∧ DpAll K F' vs ds) : ItOk K (Itl K a) ds F σ gd := by
  intro i F' H' u s g
  obtain ⟨vs, hq, hd⟩ := h1 F' H' u s g
  refine ⟨fun d hi => ?_, fun hi => ⟨vs, hq, by rw [dpa_len hd]; exact hi⟩⟩
  obtain ⟨v, e1, e2⟩ := dpa_get hd hi
  refine ⟨⟨vs, v, hq, e1⟩, fun x H'' y => ?_⟩
  obtain ⟨rfl, y⟩ := y
  have := y vs hq
  rw [e1] at this
  cases this
  exact ⟨F', Al.refl s, e2⟩
theorem it_t (h1 : ∀ F' H', Ex F F' → Ex F' H' → Gd K σ ds gd F' H' → ∃ vs, SqT K H' a vs ∧ DpAll K F' vs ds) : ItOk K (Itt K a) ds F σ gd := by
  intro i F' H' u s g
  obtain ⟨vs, hq, hd⟩ := h1 F' H' u s g
  refine ⟨fun d hi => ?_, fun hi => ⟨vs, hq, by rw [dpa_len hd]; exact hi⟩⟩
  obtain ⟨v, e1, e2⟩ := dpa_get hd hi
  refine ⟨⟨vs, v, hq, e1⟩, fun x H'' y => ?_⟩
  obtain ⟨rfl, y⟩ := y
  have := y vs hq
  rw [e1] at this
  cases this
  exact ⟨F', Al.refl s, e2⟩
end
def sSeqIt (fa : Ev) : Iv := fun e => match fa e with
  | some (.err x, e1) => some (.err x, e1)
  | some (.val (.list xs), e1) => some (.ok xs none, e1)
  | some (.val (.tuple xs), e1) => some (.ok xs none, e1)
  | some (.new xs, e1) => some (.ok xs none, e1)
  | some (.slot j, e1) => match e1[j]? with
    | some (.own _ xs) => some (.ok xs (some j), e1)
    | _ => none
  | _ => none
theorem pid_seq {X : Fm} {W : WX} {tg l : Expr} {fa : Ev} (ha : PD X W l fa) : PID X W tg l (sSeqIt fa) := by
  obtain ⟨tl, p, k⟩ := ha
  refine ⟨iSeq X.K tl, fun i => X.hK i ▸ pi_seq (p i), fun F H σ e O a e' R s h kk z => ?_⟩
  unfold sSeqIt at h
  split at h
  · rename_i x e1 h1
    cases h
    exact k F H σ e O _ _ _ s h1 (fun v F' H' O' t q => q.elim) fun x' cls d F' H' O' y t w => (by cases y; exact z _ cls d F' H' O' rfl t w)
  · rename_i xs e1 h1
    cases h
    refine k F H σ e O _ _ _ s h1 (fun v F1 H1 O1 t q => ?_) (fun _ _ _ _ _ _ y => nomatch y)
    cases q with
    | @lst A us _ h2 h3 =>
      exact ⟨A, rfl, .inl ⟨⟨us, Same.seq t.sta.ex h2.s⟩, kk _ xs none F1 H1 O1 rfl t (it_l fun F' H' u s' _ => ⟨us, Same.seq (u.trans s') h2.s, dpa_mono u _ _ h3⟩) (fun _ y => nomatch y)⟩⟩
  · rename_i xs e1 h1
    cases h
    refine k F H σ e O _ _ _ s h1 (fun v F1 H1 O1 t q => ?_) (fun _ _ _ _ _ _ y => nomatch y)
    cases q with
    | @tup A us _ h2 h3 =>
      exact ⟨A, rfl, .inr ⟨⟨us, (ex_f t.sta.ex h2).t⟩, kk _ xs none F1 H1 O1 rfl t (it_t fun F' H' u s' _ => ⟨us, (ex_f (u.trans s') h2).t, dpa_mono u _ _ h3⟩) (fun _ y => nomatch y)⟩⟩
  · rename_i xs e1 h1
    cases h
    refine k F H σ e O _ _ _ s h1 (settled fun v F1 H1 O1 t q => ?_) (fun _ _ _ _ _ _ y => nomatch y)
    cases q with
    | @lst A us _ h2 h3 =>
      exact ⟨A, rfl, .inl ⟨⟨us, Same.seq t.sta.ex h2.s⟩, kk _ xs none F1 H1 O1 rfl t (it_l fun F' H' u s' _ => ⟨us, Same.seq (u.trans s') h2.s, dpa_mono u _ _ h3⟩) (fun _ y => nomatch y)⟩⟩
  · rename_i j e1 h1
    split at h
    · rename_i pp xs hx
      cases h
      refine k F H σ e O _ _ _ s h1 (fun v F1 H1 O1 t q => ?_) (fun _ _ _ _ _ _ y => nomatch y)
      obtain ⟨A, us, rfl, h2, h3, h4, h5, h6⟩ := slot_at t.sta q hx
      refine ⟨A, rfl, .inl ⟨⟨us, SqL.of h3⟩, kk _ xs (some j) F1 H1 O1 rfl t (it_l fun F' H' u s' g => ?_) (fun _ y => (by cases y; exact ⟨pp, hx⟩))⟩⟩
      obtain ⟨A', us', g1, g2, g3⟩ := g
      rw [h2] at g1
      cases g1
      exact ⟨us', SqL.of g2, g3⟩
    · cases h
  · cases h
/-- range -/
def rgI (lo : Int) (n : Nat) : List D := (List.range n).map fun i : Nat => PyData.int (lo + (i : Int))
theorem it_rg {K : PySem.W.Frag} {F : Hp} {σ : L2.St} {lo : Int} {n : Nat} : ItOk K (Itr lo n) (rgI lo n) F σ none := by
  intro i F' H' u s g
  refine ⟨fun d hi => ?_, fun hi => (by simpa [rgI] using hi : n ≤ i)⟩
  unfold rgI at hi
  rw [List.getElem?_map] at hi
  cases q : (List.range n)[i]? with
  | none => rw [q] at hi; cases hi
  | some k =>
    rw [q] at hi
    cases hi
    obtain ⟨hl, e1⟩ := List.getElem?_eq_some_iff.mp q
    rw [List.getElem_range] at e1
    subst e1
    rw [List.length_range] at hl
    refine ⟨hl, fun x H'' y => ?_⟩
    obtain ⟨rfl, rfl⟩ := y
    exact ⟨F', Al.refl s, .int _⟩
def sRg (fs : List Ev) : Iv := fun e => match sArgs fs e with
  | some (.err x, e1) => some (.err x, e1)
  | some (.ok [.val (.int n)], e1) => if -(2 ^ 62) ≤ n ∧ n < 2 ^ 62 then some (.ok (rgI 0 n.toNat) none, e1) else none
  | some (.ok [.val (.int a), .val (.int b)], e1) => if -(2 ^ 62) ≤ a ∧ a < 2 ^ 62 ∧ -(2 ^ 62) ≤ b ∧ b < 2 ^ 62 then some (.ok (rgI a (b - a).toNat) none, e1) else none
  | _ => none
section
variable {X : Fm} {W : WX} {tg a b : Expr} {fa fb : Ev} {p pos : Pos}
theorem rs1 {K : PySem.W.Frag} {B F H : Hp} {σ : L2.St} {e : Env} {O : Nat → Addr → Prop} {i : Int} {vs : List V} (h : RsAll K B F H σ e O [.val (.int i)] vs) : vs = [.int i] := by
  cases h with
  | cons a t => cases t; cases a; rfl
theorem rs2 {K : PySem.W.Frag} {B F H : Hp} {σ : L2.St} {e : Env} {O : Nat → Addr → Prop} {i j : Int} {vs : List V} (h : RsAll K B F H σ e O [.val (.int i), .val (.int j)] vs) : vs = [.int i, .int j] := by
  cases h with
  | cons a t => cases a; rw [rs1 t]
theorem sArgs_len : ∀ {fs : List Ev} {e : Env} {rs : List Rs} {e' : Env}, sArgs fs e = some (.ok rs, e') → rs.length = fs.length
  | [], e, rs, e', h => by cases h; rfl
  | f :: fs, e, rs, e', h => by
    rcases sArgs_cons h with ⟨x, _, y⟩ | ⟨r, e1, _, _, ⟨x, _, y⟩ | ⟨rs', q, _, y⟩⟩
    · cases y
    · cases y
    · cases y
      rw [List.length_cons, List.length_cons, sArgs_len q]
theorem pid_rg1 (hg : ∀ i, Gl (X.C i) "range") (hm : ∀ i, (X.C i).mg "range" = none) (ha : PAD X W [a] [fa]) (hs : ∀ i, starEach [a] (X.C i).env = [(false, eval a (X.C i).env)] := by exact fun _ => rfl) : PID X W tg (.Call (.Name "range" p) [a] [] pos) (sRg [fa]) := by
  obtain ⟨t, pa, ka⟩ := ha
  refine ⟨_, fun i => pi_range1 (hg i) (hm i) (pa i) (hs i), fun F H σ e O o e' R s h k z => ?_⟩
  unfold sRg at h
  split at h
  · rename_i x e1 h1
    cases h
    exact ka F H σ e O _ _ _ s h1 (fun _ _ _ _ _ y => nomatch y) fun x' cls d F' H' O' y t w => (by cases y; exact z _ cls d F' H' O' rfl t w)
  · rename_i n e1 h1
    split at h
    · rename_i c
      cases h
      refine ka F H σ e O _ _ _ s h1 (fun rs vs F1 H1 O1 y t q => ?_) (fun _ _ _ _ _ _ y => nomatch y)
      cases y
      exact ⟨n, rs1 q, c.1, c.2, k _ _ _ F1 H1 O1 rfl t it_rg (fun _ y => nomatch y)⟩
    · cases h
  · rename_i i j e1 h1
    exact absurd (sArgs_len h1) (by simp)
  · cases h
end

/-! ### targets -/
abbrev Tgt := D → Env → Option Env
/-- all but the slots of js stay -/
def Off (js : List Nat) (σ σ' : L2.St) : Prop := σ'.length = σ.length ∧ ∀ i, i ∉ js → σ'[i]? = σ[i]?
theorem Off.trans {js ks : List Nat} {σ σ1 σ2 : L2.St} (a : Off js σ σ1) (b : Off ks σ1 σ2) : Off (js ++ ks) σ σ2 :=
  ⟨b.1.trans a.1, fun i h => by
    rw [List.mem_append, not_or] at h
    exact (b.2 i h.2).trans (a.2 i h.1)⟩
theorem Off.set (j : Nat) (σ : L2.St) (x : Option V) : Off [j] σ (σ.set j x) := ⟨List.length_set, fun i h => by
  rw [List.mem_singleton] at h
  exact List.getElem?_set_ne (Ne.symm h)⟩
/-- js: the slots that are set -/
def PGD (X : Fm) (tg : Expr) (gs : Tgt) (js : List Nat) : Prop :=
  ∃ g : TG, (∀ i, PG (X.C i) tg g) ∧ ∀ F H σ e O F1 H1 σ1 e1 O1 v d e' (Q : L2.St → Hp → Prop), Stp X.K F H σ e O F1 H1 σ1 e1 O1 → Dp X.K F1 v d → gs d e1 = some e' → (∀ σ' O', Stp X.K F H σ e O F1 H1 σ' e' O' → Off js σ1 σ' → Q σ' H1) → g v σ1 H1 Q
def gNm (j : Nat) : Tgt := fun d e => if noPin e j = true then some (e.set j (.val d)) else none
section
variable {X : Fm} {x : Str} {pos : Pos}
theorem pgd_name {j : Nat} (hN : ∀ i, (X.C i).N.Nodup) (hi : ∀ i, (X.C i).N[j]? = some x) (hx : ∀ i, Loc (X.C i).env.scope x)
    (hf : ∀ i, (X.C i).fn x = true ∨ (X.C i).env.scope.names.lookup x = some .local := by first | exact fun _ => .inl rfl | exact fun _ => .inr rfl) : PGD X (.Name x pos) (gNm j) [j] := by
  refine ⟨_, fun i => pg_name (hN i) (hi i) (hx i) (hf i), fun F H σ e O F1 H1 σ1 e1 O1 v d e' Q t hd h k => ?_⟩
  unfold gNm at h
  split at h
  · rename_i c
    cases h
    obtain ⟨O2, t2⟩ := set_val t c hd
    exact k _ O2 t2 (Off.set _ _ _)
  · cases h
/-- a, b = .. -/
def gTs : List Tgt → List D → Env → Option Env
  | [], [], e => some e
  | g :: gs, d :: ds, e => match g d e with
    | some e1 => gTs gs ds e1
    | none => none
  | _, _, _ => none
def PGsD (X : Fm) (ts : List Expr) (gs : List Tgt) (js : List Nat) : Prop :=
  ∃ g : TGs, (∀ i, PGs (X.C i) ts g) ∧ ∀ F H σ e O F1 H1 σ1 e1 O1 vs ds e' (Q : L2.St → Hp → Prop), Stp X.K F H σ e O F1 H1 σ1 e1 O1 → DpAll X.K F1 vs ds → gTs gs ds e1 = some e' → (∀ σ' O', Stp X.K F H σ e O F1 H1 σ' e' O' → Off js σ1 σ' → Q σ' H1) → g vs σ1 H1 Q
theorem pgsd_nil : PGsD X [] [] [] := ⟨_, fun _ => pgs_nil, fun F H σ e O F1 H1 σ1 e1 O1 vs ds e' Q t hd h k => by
  cases ds with
  | nil =>
    cases h
    cases hd
    exact ⟨rfl, k σ1 O1 t ⟨rfl, fun _ _ => rfl⟩⟩
  | cons d ds => cases h⟩
theorem pgsd_cons {ex : Expr} {es : List Expr} {g : Tgt} {gs : List Tgt} {js ks : List Nat} (h1 : PGD X ex g js) (h2 : PGsD X es gs ks)
    (hs : ∀ i, (assignEach (ex :: es) (X.C i).env).map (·.2) = assign ex (X.C i).env :: (assignEach es (X.C i).env).map (·.2) := by exact fun _ => rfl) : PGsD X (ex :: es) (g :: gs) (js ++ ks) := by
  obtain ⟨t1, p1, k1⟩ := h1
  obtain ⟨t2, p2, k2⟩ := h2
  refine ⟨_, fun i => pgs_cons (p1 i) (p2 i) (hs i), fun F H σ e O F1 H1 σ1 e1 O1 vs ds e' Q t hd h k => ?_⟩
  cases hd with
  | nil => cases h
  | @cons v vs d ds a b =>
    unfold gTs at h
    split at h
    · rename_i e2 hg
      refine ⟨v, vs, rfl, k1 F H σ e O F1 H1 σ1 e1 O1 v d e2 _ t a hg fun σ2 O2 t2 off => ?_⟩
      exact k2 F H σ e O F1 H1 σ2 e2 O2 vs ds e' Q t2 b h fun σ' O' t' off' => k σ' O' t' (off.trans off')
    · cases h
def gTupD (gs : List Tgt) : Tgt := fun d e => match d with
  | .tuple ds => if ds.length = gs.length then gTs gs ds e else none
  | _ => none
theorem pgd_tup {es : List Expr} {gs : List Tgt} {js : List Nat} {k : Nat} (hc : ∀ i, (X.C i).calm = true) (h : PGsD X es gs js)
    (hn : ∀ i, (assignEach es (X.C i).env).length = gs.length := by exact fun _ => rfl) (hst : ∀ i, (assignEach es (X.C i).env).findIdx? (·.1) = none := by exact fun _ => rfl) : PGD X (.Tuple es k pos) (gTupD gs) js := by
  obtain ⟨t1, p1, k1⟩ := h
  refine ⟨gTup X.K gs.length t1, fun i => X.hK i ▸ pg_tup (hc i) (p1 i) (hn i) (hst i), fun F H σ e O F1 H1 σ1 e1 O1 v d e' Q t hd h k => ?_⟩
  unfold gTupD at h
  split at h
  · rename_i ds
    split at h
    · rename_i c
      cases hd with
      | @tup A us _ h2 h3 => exact ⟨A, us, rfl, (ex_f t.sta.ex h2).t, (dpa_len h3).trans c, k1 F H σ e O F1 H1 σ1 e1 O1 us ds e' Q t h3 h k⟩
    · cases h
  · cases h
/-- target = e, by any target -/
def sAsg (g : Tgt) (fe : Ev) : Stm := fun e => match fe e with
  | none => none
  | some (.err x, e1) => some (.err x, e1)
  | some (r, e1) => match tk r e1 with
    | some (d, e2) => (g d e2).map fun e3 => (.nx, e3)
    | none => none
theorem sAsg_cases {g : Tgt} {fe : Ev} {e : Env} {o : Out} {e' : Env} (h : sAsg g fe e = some (o, e')) : (∃ x, fe e = some (.err x, e') ∧ o = .err x) ∨
    ∃ r e1 d e2, fe e = some (r, e1) ∧ (∀ x, r ≠ .err x) ∧ tk r e1 = some (d, e2) ∧ g d e2 = some e' ∧ o = .nx := by
  unfold sAsg at h
  cases ha : fe e with
  | none => rw [ha] at h; cases h
  | some p =>
    obtain ⟨ra, e1⟩ := p
    rw [ha] at h
    have fin : (∀ x, ra ≠ .err x) → (match tk ra e1 with
      | some (d, e2) => (g d e2).map fun e3 => (Out.nx, e3)
      | none => none) = some (o, e') → ∃ r e1' d e2, some (ra, e1) = some (r, e1') ∧ (∀ x, r ≠ .err x) ∧ tk r e1' = some (d, e2) ∧ g d e2 = some e' ∧ o = .nx := by
      intro hn h
      split at h
      · rename_i d e2 hd
        cases q : g d e2 with
        | none => rw [q] at h; cases h
        | some e3 => rw [q] at h; cases h; exact ⟨ra, e1, d, e2, rfl, hn, hd, q, rfl⟩
      · cases h
    cases ra with
    | err x => cases h; exact .inl ⟨x, rfl, rfl⟩
    | new xs => exact .inr (fin (fun _ z => nomatch z) h)
    | val d => exact .inr (fin (fun _ z => nomatch z) h)
    | slot i => exact .inr (fin (fun _ z => nomatch z) h)
theorem sd_asg {W : WX} {tg ex : Expr} {g : Tgt} {js : List Nat} {fe : Ev} (hg : PGD X tg g js) (he : PD X W ex fe) (hs : ∀ i, swapsWithSole [tg] ex pos.line (X.C i).env = pure false := by exact fun _ => rfl) (hw : ∀ i, swappedStores [tg] ex (X.C i).env = pure none := by exact fun _ => rfl)
    (h1 : ∀ i, (assignEach [tg] (X.C i).env).map (·.2) = [assign tg (X.C i).env] := by exact fun _ => rfl) : SD X W (.Assign [tg] ex pos) (sAsg g fe) := by
  obtain ⟨t, p, ke⟩ := he
  obtain ⟨tg', pg, kg⟩ := hg
  refine ⟨_, fun i => ps_asg (p i) (pg i) (hs i) (hw i) (h1 i), fun F H σ e O o e' Dn s h k => ?_⟩
  rcases sAsg_cases h with ⟨x, h1, rfl⟩ | ⟨r, e1, d, e2, h1, n1, hd, hg, rfl⟩
  · exact ke F H σ e O _ _ _ s h1 (fun v F' H' O' t q => q.elim) (er_out k)
  · refine ke F H σ e O _ _ _ s h1 (fun v F1 H1 O1 t q => ?_) (fun x _ _ _ _ _ y => absurd y (n1 x))
    obtain ⟨F2, O2, t2, hd2, up⟩ := take_ok t q hd
    -- the store speaks of the heap as it is: what is frozen stands in it
    refine kg F H σ e O F2 H1 σ e2 O2 v d e' _ t2 hd2 hg fun σ' O' t3 _ => ?_
    exact k _ _ _ _ t3
/-- a, b = e1, e2, both names local -/
def sPar (i j : Nat) (fs : List Ev) : Stm := fun e => match sTaken fs e with
  | none => none
  | some (.err x, e1) => some (.err x, e1)
  | some (.ok [a, b], e1) => if noPin e1 i = true ∧ noPin (e1.set i (.val a)) j = true then some (.nx, (e1.set i (.val a)).set j (.val b)) else none
  | _ => none
theorem sd_par {W : WX} {x y : Str} {i j : Nat} {a b : Expr} {fs : List Ev} {px py pt pt2 pos : Pos} {kt k2 : Nat} (hc : ∀ n, (X.C n).calm = true) (hN : ∀ n, (X.C n).N.Nodup) (hi : ∀ n, (X.C n).N[i]? = some x) (hj : ∀ n, (X.C n).N[j]? = some y) (hij : i ≠ j)
    (hx : ∀ n, (X.C n).env.scope.names.lookup x = some .local) (hy : ∀ n, (X.C n).env.scope.names.lookup y = some .local) (ha : PTD X W [a, b] fs)
    (hw : ∀ n, swappedStores [.Tuple [.Name x px, .Name y py] kt pt] (.Tuple [a, b] k2 pt2) (X.C n).env = pure (some [x, y]))
    (hs : ∀ n, swapsWithSole [.Tuple [.Name x px, .Name y py] kt pt] (.Tuple [a, b] k2 pt2) pos.line (X.C n).env = pure false := by exact fun _ => rfl) :
    SD X W (.Assign [.Tuple [.Name x px, .Name y py] kt pt] (.Tuple [a, b] k2 pt2) pos) (sPar i j fs) := by
  obtain ⟨t, pa, ka⟩ := ha
  refine ⟨_, fun n => ps_par (hc n) (hN n) (hi n) (hj n) hij (hx n) (hy n) (pa n) (hw n) (hs n), fun F H σ e O o e' Dn s h k => ?_⟩
  unfold sPar at h
  split at h
  · cases h
  · rename_i z e1 h1
    cases h
    exact ka F H σ e O _ _ _ s h1 (fun _ _ _ _ _ y => nomatch y) fun x' cls d F' H' O' y t w => (by cases y; exact k cls d F' H' σ O' t w)
  · rename_i da db e1 h1
    split at h
    · rename_i c
      cases h
      refine ka F H σ e O _ _ _ s h1 (fun ds vs F1 H1 O1 y t q => ?_) (fun _ _ _ _ _ _ y => nomatch y)
      cases y
      cases q with
      | cons q1 r =>
        cases r with
        | cons q2 r =>
          cases r
          obtain ⟨O2, t2⟩ := set_val t c.1 q1
          obtain ⟨O3, t3⟩ := set_val t2 c.2 q2
          exact ⟨_, _, rfl, k _ _ _ _ t3⟩
    · cases h
  · cases h
end
end MR

set_option Elab.async false
set_option linter.all false
set_option maxRecDepth 100000
set_option maxHeartbeats 1000000
namespace MR
open PySem PySem.Spec PyProof.Rows L2
variable [Tq]

/-! ### a slot is shut while its list is walked -/
theorem flag {K : PySem.W.Frag} {F H F1 H1 : Hp} {σ σ1 : L2.St} {e e1 : Env} {O O1 : Nat → Addr → Prop} {j : Nat} {p q : Bool} {xs : List D} (t : Stp K F H σ e O F1 H1 σ1 e1 O1) (h : e1[j]? = some (.own p xs)) (hq : (∃ ys, e[j]? = some (.own true ys)) → q = true) :
    Stp K F H σ e O F1 H1 σ1 (e1.set j (.own q xs)) O1 := by
  have hl : j < e1.length := (List.getElem?_eq_some_iff.mp h).1
  refine ⟨⟨t.sta.ex, by rw [List.length_set]; exact t.sta.len, fun i s z => ?_, fun i a z => by rw [List.length_set]; exact t.sta.out i a z, t.sta.sep, t.sta.tab⟩, (by rw [List.length_set]; exact t.same), t.up, t.new, t.keep, t.grow, t.own, fun i ys z => ?_⟩
  · by_cases hi : i = j
    · subst hi
      rw [List.getElem?_set_self hl] at z
      cases z
      obtain ⟨x, y1, y2⟩ := t.sta.slot i _ h
      exact ⟨x, y1, y2⟩
    · rw [List.getElem?_set_ne (Ne.symm hi)] at z
      exact t.sta.slot i s z
  · obtain ⟨⟨zs, z1⟩, z2, z3⟩ := t.pin i ys z
    by_cases hi : i = j
    · subst hi
      rw [hq ⟨ys, z⟩]
      exact ⟨⟨xs, List.getElem?_set_self hl⟩, z2, z3⟩
    · exact ⟨⟨zs, by rw [List.getElem?_set_ne (Ne.symm hi)]; exact z1⟩, z2, z3⟩
/-- the flag is put back: the state ahead had it so -/
theorem unflag {K : PySem.W.Frag} {F H F1 H1 : Hp} {σ σ1 : L2.St} {e e1 : Env} {O O1 : Nat → Addr → Prop} {j : Nat} {p : Bool} {xs ys : List D} (t : Stp K F H σ (e.set j (.own true xs)) O F1 H1 σ1 e1 O1) (h0 : e[j]? = some (.own p xs)) (h : e1[j]? = some (.own true ys)) :
    Stp K F H σ e O F1 H1 σ1 (e1.set j (.own p ys)) O1 := by
  have hl : j < e1.length := (List.getElem?_eq_some_iff.mp h).1
  have hl0 : j < e.length := (List.getElem?_eq_some_iff.mp h0).1
  refine ⟨⟨t.sta.ex, by rw [List.length_set]; exact t.sta.len, fun i s z => ?_, fun i a z => by rw [List.length_set]; exact t.sta.out i a z, t.sta.sep, t.sta.tab⟩, (by have z := t.same; rw [List.length_set] at z ⊢; exact z), t.up, t.new, t.keep, t.grow, t.own, fun i zs z => ?_⟩
  · by_cases hi : i = j
    · subst hi
      rw [List.getElem?_set_self hl] at z
      cases z
      obtain ⟨x, y1, y2⟩ := t.sta.slot i _ h
      exact ⟨x, y1, y2⟩
    · rw [List.getElem?_set_ne (Ne.symm hi)] at z
      exact t.sta.slot i s z
  · by_cases hi : i = j
    · subst hi
      rw [h0] at z
      cases z
      obtain ⟨_, z2, z3⟩ := t.pin i xs (List.getElem?_set_self hl0)
      exact ⟨⟨ys, List.getElem?_set_self hl⟩, z2, z3⟩
    · obtain ⟨⟨ws, z1⟩, z2, z3⟩ := t.pin i zs (by rw [List.getElem?_set_ne (Ne.symm hi)]; exact z)
      exact ⟨⟨ws, by rw [List.getElem?_set_ne (Ne.symm hi)]; exact z1⟩, z2, z3⟩

/-! ### for -/
/-- the turns; c: what has to stand behind each -/
def forL (g : Tgt) (c : Env → Bool) (b : Stm) : List D → Env → Option (Out × Env)
  | [], e => some (.nx, e)
  | d :: ds, e => match g d e with
    | none => none
    | some e1 => match b e1 with
      | some (.nx, e2) => if c e2 = true then forL g c b ds e2 else none
      | some (.ct, e2) => if c e2 = true then forL g c b ds e2 else none
      | some (.brk, e2) => some (.nx, e2)
      | r => r
noncomputable def slotIs (j : Nat) (xs : List D) (e : Env) : Bool := @decide (e[j]? = some (.own true xs)) (Classical.propDecidable _)
theorem slotIs_ok {j : Nat} {xs : List D} {e : Env} (h : slotIs j xs e = true) : e[j]? = some (.own true xs) := by
  exact @of_decide_eq_true _ (Classical.propDecidable _) h
theorem slotIs_of {j : Nat} {xs : List D} {e : Env} (h : e[j]? = some (.own true xs)) : slotIs j xs e = true := by
  exact @decide_eq_true _ (Classical.propDecidable _) h
/-- behind the loop -/
def opened (j : Nat) (p : Bool) : Option (Out × Env) → Option (Out × Env)
  | some (o, e) => match e[j]? with
    | some (.own true ys) => match o with
      | .ret (.slot k) => if k = j then none else some (o, e.set j (.own p ys))
      | _ => some (o, e.set j (.own p ys))
    | _ => none
  | none => none
noncomputable def sFor (fi : Iv) (g : Tgt) (b : Stm) : Stm := fun e => match fi e with
  | none => none
  | some (.err x, e1) => some (.err x, e1)
  | some (.ok items none, e1) => forL g (fun _ => true) b items e1
  | some (.ok items (some j), e1) => match e1[j]? with
    | some (.own p xs) => opened j p (forL g (slotIs j xs) b items (e1.set j (.own true xs)))
    | _ => none
section
variable {X : Fm} {W : WX} {tg iter : Expr} {body : List Stmt} {fi : Iv} {g : Tgt} {b : Stm} {pos : Pos}
/-- the turns of a loop, from a state on -/
theorem for_run {js : List Nat} {J : It} {items : List D} {gd : Option Nat} {c : Env → Bool} {tgt : TG} {tb : TS}
    (kg : ∀ F H σ e O F1 H1 σ1 e1 O1 v d e' (Q : L2.St → Hp → Prop), Stp X.K F H σ e O F1 H1 σ1 e1 O1 → Dp X.K F1 v d → g d e1 = some e' → (∀ σ' O', Stp X.K F H σ e O F1 H1 σ' e' O' → Off js σ1 σ' → Q σ' H1) → tgt v σ1 H1 Q)
    (kb : ∀ F H σ e O o e' Dn, Sta X.K F H σ e O → b e = some (o, e') → SOut X.K X.mg W F H σ e O o e' Dn → tb Dn σ H)
    {F H : Hp} {σ : L2.St} {e : Env} {O : Nat → Addr → Prop} {o : Out} {e' : Env} {Dn : Ends} (s : Sta X.K F H σ e O) (hJ : ItOk X.K J items F σ gd)
    (hG : ∀ F' H' σ' e' O', Stp X.K F H σ e O F' H' σ' e' O' → c e' = true → Gd X.K σ items gd F' H') (h : forL g c b items e = some (o, e')) (hc : c e = true) (k : SOut X.K X.mg W F H σ e O o e' Dn) :
    ∃ V : Nat → Nat → L2.St → Hp → Prop, (∃ m, V 0 m σ H) ∧ ∀ i m σ H, V i m σ H →
      (J.stop i H ∧ Dn.nx σ H) ∨ (J.go i H ∧ ∃ N : L2.St → Hp → Prop, (∀ σ' H', N σ' H' → ∃ m', m' < m ∧ V (i + 1) m' σ' H') ∧ ∀ x H', J.yld i H x H' → tgt x σ H' fun σ2 H2 => tb { Dn with nx := N, ct := N, bk := Dn.nx } σ2 H2) := by
  refine ⟨fun i m σ' H' => m = items.length - i ∧ i ≤ items.length ∧ ∃ F' e1 O', Stp X.K F H σ e O F' H' σ' e1 O' ∧ c e1 = true ∧ forL g c b (items.drop i) e1 = some (o, e'),
    ⟨items.length, rfl, Nat.zero_le _, F, e, O, Stp.refl s, hc, h⟩, ?_⟩
  rintro i m σ1 H1 ⟨rfl, hi, F1, e1, O1, t, c1, h1⟩
  have hj := hJ i F1 H1 t.up t.sta.ex (hG _ _ _ _ _ t c1)
  by_cases hlt : i < items.length
  · obtain ⟨go, yl⟩ := hj.1 items[i] (List.getElem?_eq_getElem hlt)
    refine .inr ⟨go, ?_⟩
    rw [List.drop_eq_getElem_cons hlt] at h1
    unfold forL at h1
    cases hg : g items[i] e1 with
    | none => rw [hg] at h1; cases h1
    | some e2 =>
      rw [hg] at h1
      simp only at h1
      refine ⟨fun σ' H' => ∃ F' e3 O', Stp X.K F H σ e O F' H' σ' e3 O' ∧ c e3 = true ∧ forL g c b (items.drop (i + 1)) e3 = some (o, e'), ?_, ?_⟩
      · rintro σ' H' ⟨F', e3, O', t', c', h'⟩
        exact ⟨items.length - (i + 1), by omega, rfl, hlt, F', e3, O', t', c', h'⟩
      · intro x H' y
        obtain ⟨F2, al, hd⟩ := yl x H' y
        refine kg F H σ e O F2 H' σ1 e1 O1 x items[i] e2 _ (t.trans (al.stp t.sta)) hd hg fun σ2 O2 t2 _ => ?_
        cases hb : b e2 with
        | none => rw [hb] at h1; cases h1
        | some q =>
          obtain ⟨ob, e3⟩ := q
          rw [hb] at h1
          refine kb F2 H' σ2 e2 O2 ob e3 _ t2.sta hb ?_
          cases ob with
          | nx =>
            simp only at h1
            split at h1
            · rename_i c3
              exact fun F' H' σ' O' t' => ⟨F', e3, O', t2.trans t', c3, h1⟩
            · cases h1
          | ct =>
            simp only at h1
            split at h1
            · rename_i c3
              exact fun F' H' σ' O' t' => ⟨F', e3, O', t2.trans t', c3, h1⟩
            · cases h1
          | brk => cases h1; exact fun F' H' σ' O' t' => k F' H' σ' O' (t2.trans t')
          | ret r => cases h1; exact SOut.later t2 k
          | err x => cases h1; exact SOut.later t2 k
  · refine .inl ⟨hj.2 (by omega), ?_⟩
    rw [List.drop_eq_nil_of_le (by omega)] at h1
    cases h1
    exact k F1 H1 σ1 O1 t
theorem opened_cases {j : Nat} {p : Bool} {r : Option (Out × Env)} {o : Out} {e' : Env} (h : opened j p r = some (o, e')) : ∃ e2 ys, r = some (o, e2) ∧ e2[j]? = some (.own true ys) ∧ e' = e2.set j (.own p ys) ∧ ∀ k, o = .ret (.slot k) → k ≠ j := by
  unfold opened at h
  split at h
  · rename_i o' e2
    split at h
    · rename_i ys hy
      split at h
      · rename_i k
        split at h
        · cases h
        · rename_i c
          cases h
          exact ⟨e2, ys, rfl, hy, rfl, fun k' z => by cases z; exact c⟩
      · rename_i hno
        cases h
        exact ⟨e2, ys, rfl, hy, rfl, fun k z => absurd z (hno k)⟩
    · cases h
  · cases h
theorem sd_for (hp : ∀ i, PassesOwn (model (X.C i).prog (X.C i).w) (X.C i).A (X.C i).env (X.C i).xe) (hc : ∀ i, (X.C i).calm = true) (hi : PID X W tg iter fi) {js : List Nat} (hg : PGD X tg g js) (hb : SDs X W body b)
    (hs : ∀ i x, foldedSetIterable iter (X.C i).env x = pure x := by intro _ _; rfl) : SD X W (.For tg iter body [] pos) (sFor fi g b) := by
  obtain ⟨wi, pi, ki⟩ := hi
  obtain ⟨tgt, pg, kg⟩ := hg
  obtain ⟨tb, pb, kb⟩ := hb
  refine ⟨_, fun i => ps_for (hp i) (hc i) (pi i) (pg i) (pb i) (hs i), fun F H σ e O o e' Dn s h k => ?_⟩
  unfold sFor at h
  split at h
  · cases h
  · rename_i x e1 h1
    cases h
    exact ki F H σ e O _ _ _ s h1 (fun _ _ _ _ _ _ y => nomatch y) fun x' cls d F' H' O' y t w => (by cases y; exact k cls d F' H' σ O' t w)
  · rename_i items e1 h1
    refine ki F H σ e O _ _ _ s h1 (fun J items' gd F1 H1 O1 y t hJ _ => ?_) (fun _ _ _ _ _ _ y => nomatch y)
    cases y
    exact for_run kg kb t.sta hJ (fun _ _ _ _ _ _ _ => True.intro) h rfl (k.later t)
  · rename_i items j e1 h1
    split at h
    · rename_i p xs hx
      refine ki F H σ e O _ _ _ s h1 (fun J items' gd F1 H1 O1 y t hJ hgd => ?_) (fun _ _ _ _ _ _ y => nomatch y)
      cases y
      obtain ⟨p', hp'⟩ := hgd j rfl
      rw [hx] at hp'
      cases hp'
      obtain ⟨e2, ys, h2, h3, rfl, h4⟩ := opened_cases h
      have hl : j < e1.length := (List.getElem?_eq_some_iff.mp hx).1
      have t' := flag (q := true) (Stp.refl t.sta) hx fun _ => rfl
      have hat : (e1.set j (.own true items))[j]? = some (.own true items) := List.getElem?_set_self hl
      refine for_run kg kb (c := slotIs j items) t'.sta hJ (fun F' H' σ' e' O' t2 c2 => ?_) h2 (slotIs_of hat) ?_
      · obtain ⟨x, q1, A, vs, rfl, q2, q3, q4, q5⟩ := t2.sta.slot j _ (slotIs_ok c2)
        rw [(t2.pin j items hat).2.1] at q1
        exact ⟨A, vs, q1, q2, q4⟩
      · -- behind the loop the flag is put back
        have back : ∀ {F' H' σ' O'}, Stp X.K F1 H1 σ (e1.set j (.own true items)) O1 F' H' σ' e2 O' → Stp X.K F H σ e O F' H' σ' (e2.set j (.own p ys)) O' := fun t2 => t.trans (unflag t2 hx h3)
        cases o with
        | nx => exact fun F' H' σ' O' t2 => k F' H' σ' O' (back t2)
        | brk => exact fun F' H' σ' O' t2 => k F' H' σ' O' (back t2)
        | ct => exact fun F' H' σ' O' t2 => k F' H' σ' O' (back t2)
        | ret r =>
          refine fun v F' H' σ' O' t2 q => k v F' H' σ' O' (back t2) ?_
          cases r with
          | val d => exact q
          | new zs =>
            obtain ⟨a, us, q1, q2, q3, q4, q5, q6⟩ := q
            exact ⟨a, us, q1, q2, q3, q4, q5, t.back q6⟩
          | slot i =>
            obtain ⟨pp, zs, q1, q2⟩ := q
            refine ⟨pp, zs, ?_, q2⟩
            rw [List.getElem?_set_ne (Ne.symm (h4 i rfl))]
            exact q1
          | err x => exact q
        | err x => exact fun cls d F' H' σ' O' t2 q => k cls d F' H' σ' O' (back t2) q
    · cases h

/-! ### while -/
/-- n: more turns than there can be -/
def whileN (fc : Ev) (b : Stm) : Nat → Env → Option (Out × Env)
  | 0, _ => none
  | n + 1, e => match fc e with
    | some (.err x, e1) => some (.err x, e1)
    | some (.val (.bool false), e1) => some (.nx, e1)
    | some (.val (.bool true), e1) => match b e1 with
      | some (.nx, e2) => whileN fc b n e2
      | some (.ct, e2) => whileN fc b n e2
      | some (.brk, e2) => some (.nx, e2)
      | r => r
    | _ => none
/-- as many turns as are wanted -/
noncomputable def sWhile (fc : Ev) (b : Stm) : Stm := fun e => @dite _ (∃ n r, whileN fc b n e = some r) (Classical.propDecidable _) (fun h => some (Classical.choose (Classical.choose_spec h))) (fun _ => none)
theorem whileN_mono {fc : Ev} {b : Stm} : ∀ {n m : Nat} {e : Env} {r : Out × Env}, whileN fc b n e = some r → n ≤ m → whileN fc b m e = some r
  | 0, _, _, _, h, _ => by cases h
  | n + 1, 0, _, _, _, hm => by omega
  | n + 1, m + 1, e, r, h, hm => by
    unfold whileN at h ⊢
    split at h
    · exact h
    · exact h
    · split at h
      · exact whileN_mono h (by omega)
      · exact whileN_mono h (by omega)
      · exact h
      · exact h
    · cases h
theorem sWhile_of {fc : Ev} {b : Stm} {n : Nat} {e : Env} {r : Out × Env} (h : whileN fc b n e = some r) : sWhile fc b e = some r := by
  have hx : ∃ n r, whileN fc b n e = some r := ⟨n, r, h⟩
  unfold sWhile
  rw [dif_pos hx]
  have q := Classical.choose_spec (Classical.choose_spec hx)
  have a := whileN_mono q (Nat.le_max_left (Classical.choose hx) n)
  have b' := whileN_mono h (Nat.le_max_right (Classical.choose hx) n)
  rw [a] at b'
  exact b'
theorem sWhile_n {fc : Ev} {b : Stm} {e : Env} {r : Out × Env} (h : sWhile fc b e = some r) : ∃ n, whileN fc b n e = some r := by
  unfold sWhile at h
  split at h
  · rename_i hx
    have q := Classical.choose_spec (Classical.choose_spec hx)
    cases h
    exact ⟨_, q⟩
  · cases h
theorem sd_while {c : Expr} {fc : Ev} (hp : ∀ i, PassesOwn (model (X.C i).prog (X.C i).w) (X.C i).A (X.C i).env (X.C i).xe) (hc : TD X W c fc) (hb : SDs X W body b) : SD X W (.While c body [] pos) (sWhile fc b) := by
  obtain ⟨tc, pc, kc⟩ := hc
  obtain ⟨tb, pb, kb⟩ := hb
  refine ⟨_, fun i => ps_while (hp i) (pc i) (pb i), fun F H σ e O o e' Dn s h k => ?_⟩
  obtain ⟨n, hn⟩ := sWhile_n h
  refine ⟨fun m σ' H' => ∃ F' e1 O', Stp X.K F H σ e O F' H' σ' e1 O' ∧ whileN fc b m e1 = some (o, e'), ⟨n, F, e, O, Stp.refl s, hn⟩, ?_⟩
  rintro m σ1 H1 ⟨F1, e1, O1, t, h1⟩
  cases m with
  | zero => cases h1
  | succ m =>
    unfold whileN at h1
    split at h1
    · rename_i x e2 h2
      cases h1
      exact kc F1 H1 σ1 e1 O1 _ _ _ t.sta h2 (fun _ _ _ _ y => nomatch y) (fun _ y => nomatch y) (fun _ y => nomatch y) (fun _ y => nomatch y) (er_out (SOut.later t k))
    · rename_i e2 h2
      cases h1
      refine kc F1 H1 σ1 e1 O1 _ _ _ t.sta h2 (fun b' F2 H2 O2 y t2 => ?_) (fun d y => (by cases y; exact ⟨false, rfl⟩)) (fun _ y => nomatch y) (fun _ y => nomatch y) (fun _ _ _ _ _ _ y => nomatch y)
      cases y
      exact iteF (k F2 H2 σ1 O2 (t.trans t2))
    · rename_i e2 h2
      refine kc F1 H1 σ1 e1 O1 _ _ _ t.sta h2 (fun b' F2 H2 O2 y t2 => ?_) (fun d y => (by cases y; exact ⟨true, rfl⟩)) (fun _ y => nomatch y) (fun _ y => nomatch y) (fun _ _ _ _ _ _ y => nomatch y)
      cases y
      have t12 := t.trans t2
      refine iteT ⟨fun σ' H' => ∃ F' e3 O', Stp X.K F H σ e O F' H' σ' e3 O' ∧ whileN fc b m e3 = some (o, e'), fun σ' H' hN => ⟨m, Nat.lt_succ_self m, hN⟩, ?_⟩
      cases hb : b e2 with
      | none => rw [hb] at h1; cases h1
      | some q =>
        obtain ⟨ob, e3⟩ := q
        rw [hb] at h1
        refine kb F2 H2 σ1 e2 O2 ob e3 _ t2.sta hb ?_
        cases ob with
        | nx => exact fun F' H' σ' O' t' => ⟨F', e3, O', t12.trans t', h1⟩
        | ct => exact fun F' H' σ' O' t' => ⟨F', e3, O', t12.trans t', h1⟩
        | brk => cases h1; exact fun F' H' σ' O' t' => k F' H' σ' O' (t12.trans t')
        | ret r => cases h1; exact SOut.later t12 k
        | err x => cases h1; exact SOut.later t12 k
    · cases h1
end
end MR

set_option Elab.async false
set_option linter.all false
set_option maxRecDepth 100000
set_option maxHeartbeats 1000000
namespace MR
open PySem PySem.Spec PyProof.Rows L2
variable [Tq]

/-! ### list comprehensions -/
/-- the contexts of a comprehension's block -/
def Fm.blk (X : Fm) (scope : Scope) : Fm where
  ι := X.ι × Shared × Hp × Addr × List (Str × Addr) × List Addr
  C := fun j => (X.C j.1).blk j.2.1 j.2.2.1 scope (compEnvC scope j.2.2.2.2.1 j.2.2.2.1 (X.C j.1).env) j.2.2.2.2.2
  K := X.K
  mg := X.mg
  hK := fun j => X.hK j.1
  hM := fun j => X.hM j.1
def W0 : WX := fun _ _ _ _ => False
def wipeE (e : Env) : List Nat → Env
  | [] => e
  | v :: vs => (wipeE e vs).set v .un
def noOwn (e : Env) : List Nat → Bool
  | [] => true
  | v :: vs => !isOwn e v && noOwn e vs
/-- the block's own names get back what they had -/
def unwipe (e0 e : Env) : List Nat → Env
  | [] => e
  | v :: vs => (unwipe e0 e vs).set v (e0.getD v .un)
section
variable {K : PySem.W.Frag} {F H F1 H1 : Hp} {σ σ1 : L2.St} {e e1 : Env} {O O1 : Nat → Addr → Prop}
theorem wipeE_get : ∀ {vs : List Nat} {e : Env} {i : Nat} {s : Sl}, (wipeE e vs)[i]? = some s → (i ∈ vs ∧ s = .un) ∨ (i ∉ vs ∧ e[i]? = some s)
  | [], e, i, s, h => .inr ⟨by simp, h⟩
  | v :: vs, e, i, s, h => by
    unfold wipeE at h
    by_cases hi : i = v
    · subst hi
      have hl := (List.getElem?_eq_some_iff.mp h).1
      rw [List.length_set] at hl
      rw [List.getElem?_set_self hl] at h
      cases h
      exact .inl ⟨by simp, rfl⟩
    · rw [List.getElem?_set_ne (Ne.symm hi)] at h
      rcases wipeE_get h with ⟨h1, h2⟩ | ⟨h1, h2⟩
      · exact .inl ⟨by simp [h1], h2⟩
      · exact .inr ⟨by simp [hi, h1], h2⟩
theorem wipeE_len : ∀ (vs : List Nat) (e : Env), (wipeE e vs).length = e.length
  | [], _ => rfl
  | v :: vs, e => by unfold wipeE; rw [List.length_set, wipeE_len vs e]
theorem wipe_get : ∀ {vs : List Nat} {σ : L2.St} {i : Nat}, i ∉ vs → (wipe σ vs)[i]? = σ[i]?
  | [], σ, i, _ => rfl
  | v :: vs, σ, i, h => by
    unfold wipe
    rw [List.mem_cons, not_or] at h
    rw [List.getElem?_set_ne (Ne.symm h.1), wipe_get h.2]
theorem wipe_at : ∀ {vs : List Nat} {σ : L2.St} {i : Nat}, i < σ.length → ∃ x, (wipe σ vs)[i]? = some x := fun {vs σ i} h => by
  have hl : i < (wipe σ vs).length := by rw [wipe_length]; exact h
  exact ⟨_, List.getElem?_eq_getElem hl⟩
theorem noOwn_ok : ∀ {vs : List Nat} {e : Env} {i : Nat} {p : Bool} {xs : List D}, noOwn e vs = true → e[i]? = some (.own p xs) → i ∉ vs
  | [], _, _, _, _, _, _ => by simp
  | v :: vs, e, i, p, xs, h, q => by
    unfold noOwn at h
    rw [Bool.and_eq_true] at h
    rw [List.mem_cons, not_or]
    refine ⟨fun z => ?_, noOwn_ok h.2 q⟩
    subst z
    have := h.1
    unfold isOwn at this
    rw [q] at this
    cases this
theorem own_slot {i : Nat} {a : Addr} (s : Sta K F H σ e O) (h : O i a) : ∃ p xs, e[i]? = some (.own p xs) := by
  have hi := s.out i a h
  obtain ⟨x, _, q⟩ := s.slot i _ (List.getElem?_eq_getElem hi)
  cases hs : e[i] with
  | un => rw [hs] at q; exact absurd h (q a)
  | val d => rw [hs] at q; exact absurd h (q.2 a)
  | own p xs => exact ⟨p, xs, by rw [List.getElem?_eq_getElem hi, hs]⟩
/-- into the block -/
theorem wiped {vs : List Nat} (t : Stp K F H σ e O F1 H1 σ1 e1 O1) (hn : noOwn e1 vs = true) : Sta K F1 H1 (wipe σ1 vs) (wipeE e1 vs) O1 := by
  refine ⟨t.sta.ex, by rw [wipe_length, wipeE_len]; exact t.sta.len, fun i s q => ?_, fun i a z => by rw [wipeE_len]; exact t.sta.out i a z, t.sta.sep, t.sta.tab⟩
  rcases wipeE_get q with ⟨h1, rfl⟩ | ⟨h1, h2⟩
  · have hl : i < σ1.length := by
      rw [t.sta.len, ← wipeE_len vs e1]
      exact (List.getElem?_eq_some_iff.mp q).1
    obtain ⟨x, hx⟩ := wipe_at (vs := vs) hl
    refine ⟨x, hx, fun a z => ?_⟩
    obtain ⟨p, xs, y⟩ := own_slot t.sta z
    exact noOwn_ok hn y h1
  · obtain ⟨x, q1, q2⟩ := t.sta.slot i s h2
    exact ⟨x, by rw [wipe_get h1]; exact q1, q2⟩
theorem unwipe_get : ∀ {vs : List Nat} {e0 e : Env} {i : Nat}, i ∉ vs → (unwipe e0 e vs)[i]? = e[i]?
  | [], _, _, _, _ => rfl
  | v :: vs, e0, e, i, h => by
    rw [List.mem_cons, not_or] at h
    unfold unwipe
    rw [List.getElem?_set_ne (Ne.symm h.1), unwipe_get h.2]
theorem unwipe_len : ∀ (vs : List Nat) (e0 e : Env), (unwipe e0 e vs).length = e.length
  | [], _, _ => rfl
  | v :: vs, e0, e => by unfold unwipe; rw [List.length_set, unwipe_len vs e0 e]
theorem unwipe_in : ∀ {vs : List Nat} {e0 e : Env} {i : Nat}, i ∈ vs → i < e.length → (unwipe e0 e vs)[i]? = some (e0.getD i .un)
  | v :: vs, e0, e, i, h, hl => by
    unfold unwipe
    by_cases hi : i = v
    · subst hi
      rw [List.getElem?_set_self (by rw [unwipe_len]; exact hl)]
    · rw [List.getElem?_set_ne (Ne.symm hi)]
      rcases List.mem_cons.mp h with z | z
      · exact absurd z hi
      · exact unwipe_in z hl
end
noncomputable def slotP (j : Nat) (p : Bool) (xs : List D) (e : Env) : Bool := @decide (e[j]? = some (.own p xs)) (Classical.propDecidable _)
theorem slotP_ok {j : Nat} {p : Bool} {xs : List D} {e : Env} (h : slotP j p xs e = true) : e[j]? = some (.own p xs) := @of_decide_eq_true _ (Classical.propDecidable _) h
/-- the turns; acc: what is made so far; c: what has to stand ahead of each -/
def lcL (c : Env → Bool) (g : Tgt) (ft fe : Ev) (vs : List Nat) : List D → Env → List D → Option (List D × Env)
  | [], e, acc => if c e = true then some (acc, e) else none
  | d :: ds, e, acc => if c e = true then (match g d e with
    | none => none
    | some e1 => match ft e1 with
      | some (.val (.bool false), e2) => if noOwn e2 vs = true then lcL c g ft fe vs ds (wipeE e2 vs) acc else none
      | some (.val (.bool true), e2) => match fe e2 with
        | some (.err _, _) => none
        | some (r, e3) => match tk r e3 with
          | some (y, e4) => if noOwn e4 vs = true then lcL c g ft fe vs ds (wipeE e4 vs) (acc ++ [y]) else none
          | none => none
        | none => none
      | _ => none) else none
noncomputable def sLc (fi : Iv) (g : Tgt) (ft fe : Ev) (vs : List Nat) : Ev := fun e => match fi e with
  | some (.err x, e1) => some (.err x, e1)
  | some (.ok items none, e1) => if noOwn e1 vs = true ∧ items.length ≤ 16777216 then (match lcL (fun _ => true) g ft fe vs items (wipeE e1 vs) [] with
      | some (acc, e2) => some (.new acc, unwipe e1 e2 vs)
      | none => none) else none
  | some (.ok items (some j), e1) => if noOwn e1 vs = true ∧ items.length ≤ 16777216 then (match e1[j]? with
      | some (.own p _) => (match lcL (slotP j p items) g ft fe vs items (wipeE e1 vs) [] with
        | some (acc, e2) => some (.new acc, unwipe e1 e2 vs)
        | none => none)
      | _ => none) else none
  | _ => none
section
variable {K : PySem.W.Frag} {F H F1 H1 F2 H2 : Hp} {σ σ1 : L2.St} {e e1 e2 : Env} {O O1 O2 : Nat → Addr → Prop}
/-- ahead of the block and behind it: the same slots outside -/
theorem unwiped {vs : List Nat} (t : Stp K F H σ e O F1 H1 σ e1 O1) (hn : noOwn e1 vs = true) (t2 : Stp K F1 H1 (wipe σ vs) (wipeE e1 vs) O1 F2 H2 (wipe σ vs) e2 O2) (he : ∃ e3, e2 = wipeE e3 vs ∧ noOwn e3 vs = true) :
    Stp K F H σ e O F2 H2 σ (unwipe e1 e2 vs) O2 := by
  obtain ⟨e3, he3, hn3⟩ := he
  have len2 : e2.length = σ.length := by rw [← t2.sta.len, wipe_length]
  have len1 : e1.length = σ.length := t.sta.len.symm
  have inside : ∀ i s, i ∈ vs → (unwipe e1 e2 vs)[i]? = some s → e1[i]? = some s := fun i s hi q => by
    have hl : i < e2.length := by
      rw [← unwipe_len vs e1 e2]
      exact (List.getElem?_eq_some_iff.mp q).1
    rw [unwipe_in hi hl] at q
    have hl1 : i < e1.length := by omega
    rw [List.getElem?_eq_getElem hl1]
    rw [List.getD_eq_getElem?_getD, List.getElem?_eq_getElem hl1] at q
    exact q
  have noO : ∀ i a, i ∈ vs → ¬ O2 i a := fun i a hi z => by
    obtain ⟨p, xs, q⟩ := own_slot t2.sta z
    rw [he3] at q
    rcases wipeE_get q with ⟨_, y⟩ | ⟨y, _⟩
    · cases y
    · exact y hi
  refine ⟨⟨t2.sta.ex, by rw [unwipe_len]; exact len2.symm, fun i s q => ?_, fun i a z => by rw [unwipe_len]; exact t2.sta.out i a z, t2.sta.sep, t2.sta.tab⟩, (by rw [unwipe_len, t2.same, wipeE_len]; exact t.same), t.up.trans t2.up, fun p o h n => ?_, ⟨fun b o h n tb => ?_, t.keep.2.trans t2.keep.2⟩, fun b h => t.grow b (t2.grow b h), fun i p z => ?_, fun j xs q => ?_⟩
  · by_cases hi : i ∈ vs
    · have q1 := inside i s hi q
      obtain ⟨x, y1, y2⟩ := t.sta.slot i s q1
      refine ⟨x, y1, ?_⟩
      cases s with
      | un => exact fun a => noO i a hi
      | val d =>
        obtain ⟨⟨w, e4, e5⟩, _⟩ := y2
        exact ⟨⟨w, e4, dp_mono t2.up _ _ e5⟩, fun a => noO i a hi⟩
      | own p xs => exact absurd hi (noOwn_ok hn q1)
    · rw [unwipe_get hi] at q
      obtain ⟨x, y1, y2⟩ := t2.sta.slot i s q
      exact ⟨x, by rw [← wipe_get hi]; exact y1, y2⟩
  · cases q : F1 p with
    | some u => exact t.new p u q n
    | none =>
      rcases t2.new p o h q with z | ⟨i, z⟩
      · exact .inl (t.back z)
      · rcases t.own i p z with z | z
        · exact .inr z
        · exact .inl z
  · refine t2.keep.1 b o (t.keep.1 b o h n tb) (fun i z => ?_) tb
    rcases t.own i b z with ⟨j, z⟩ | z
    · exact n j z
    · obtain ⟨ps, y⟩ := z o h
      exact tb ps y
  · rcases t2.own i p z with ⟨j, z⟩ | z
    · exact t.own j p z
    · exact .inr (t.back z)
  · obtain ⟨⟨ys, z1⟩, z2, z3⟩ := t.pin j xs q
    have hj : j ∉ vs := noOwn_ok hn z1
    have y1 : (wipeE e1 vs)[j]? = some (.own true ys) := by
      have hl : j < (wipeE e1 vs).length := by rw [wipeE_len]; exact (List.getElem?_eq_some_iff.mp z1).1
      rcases wipeE_get (List.getElem?_eq_getElem hl) with ⟨y, _⟩ | ⟨_, y⟩
      · exact absurd y hj
      · rw [List.getElem?_eq_getElem hl, ← y, z1]
    obtain ⟨⟨zs, w1⟩, w2, w3⟩ := t2.pin j ys y1
    exact ⟨⟨zs, by rw [unwipe_get hj]; exact w1⟩, rfl, fun a h => w3 a (z3 a h)⟩
end
section
variable {K : PySem.W.Frag} {F H F1 H1 F2 H2 : Hp} {σ τ σ1 : L2.St} {e e1 e2 : Env} {O O1 O2 : Nat → Addr → Prop}
theorem wipe_in : ∀ (τ : L2.St) (ws : List Nat) {n : Nat}, n ∈ ws → n < τ.length → (wipe τ ws)[n]? = some none := fun τ ws => by
  induction ws with
  | nil => intro n hm; cases hm
  | cons w ws ih =>
    intro n hm hl
    unfold wipe
    by_cases hw : n = w
    · subst hw
      rw [List.getElem?_set_self (by rw [wipe_length]; exact hl)]
    · rw [List.getElem?_set_ne (Ne.symm hw)]
      rcases List.mem_cons.mp hm with z | z
      · exact absurd z hw
      · exact ih z hl
theorem wipe_off {vs js : List Nat} (h : Off js τ σ1) (hs : ∀ j ∈ js, j ∈ vs) : wipe σ1 vs = wipe τ vs := by
  apply List.ext_getElem?
  intro n
  by_cases hm : n ∈ vs
  · by_cases hl : n < τ.length
    · rw [wipe_in σ1 vs hm (by rw [h.1]; exact hl), wipe_in τ vs hm hl]
    · rw [List.getElem?_eq_none (by rw [wipe_length, h.1]; omega), List.getElem?_eq_none (by rw [wipe_length]; omega)]
  · rw [wipe_get hm, wipe_get hm]
    exact h.2 n fun z => hm (hs n z)
theorem wipe_wipe (vs : List Nat) (σ : L2.St) : wipe (wipe σ vs) vs = wipe σ vs :=
  wipe_off (js := vs) ⟨wipe_length σ vs, fun i h => wipe_get h⟩ fun _ h => h
/-- a turn's names forgotten -/
theorem Stp.wipe {vs : List Nat} (t : Stp K F H σ e O F1 H1 σ1 e1 O1) (hn : noOwn e1 vs = true) : Stp K F H σ e O F1 H1 (wipe σ1 vs) (wipeE e1 vs) O1 := by
  refine ⟨wiped t hn, (by rw [wipeE_len]; exact t.same), t.up, t.new, t.keep, t.grow, t.own, fun j xs q => ?_⟩
  obtain ⟨⟨ys, z1⟩, z2, z3⟩ := t.pin j xs q
  have hj : j ∉ vs := noOwn_ok hn z1
  refine ⟨⟨ys, ?_⟩, by rw [wipe_get hj]; exact z2, z3⟩
  have hl : j < (wipeE e1 vs).length := by rw [wipeE_len]; exact (List.getElem?_eq_some_iff.mp z1).1
  rcases wipeE_get (List.getElem?_eq_getElem hl) with ⟨y, _⟩ | ⟨_, y⟩
  · exact absurd y hj
  · rw [List.getElem?_eq_getElem hl, ← y, z1]
/-- a list that nobody holds, newer than the start, is written -/
theorem Stp.bump {p : Addr} {us : List V} (t : Stp K F H σ e O F1 H1 σ1 e1 O1) (h0 : H p = none) (hF : F1 p = none) (hO : ∀ i, ¬ O1 i p) {ws : List V} (h1 : H1 p = some (.lst ws)) : Stp K F H σ e O F1 (upd H1 p (.lst us)) σ1 e1 O1 := by
  refine ⟨⟨fun b o q => ?_, t.sta.len, fun i s q => ?_, t.sta.out, t.sta.sep, t.sta.tab.kp (tk_upd h1 nofun)⟩, t.same, t.up, t.new, ⟨fun b o q n tb => ?_, t.keep.2.trans (tk_upd h1 nofun)⟩, fun b q => ?_, t.own, t.pin⟩
  · rw [upd_ne (ne_of_none q hF)]; exact t.sta.ex b o q
  · obtain ⟨x, y1, y2⟩ := t.sta.slot i s q
    refine ⟨x, y1, ?_⟩
    cases s with
    | un => exact y2
    | val d => exact y2
    | own pp xs =>
      obtain ⟨b, ws, e2, e3, e4, e5, e6⟩ := y2
      refine ⟨b, ws, e2, ?_, e4, e5, e6⟩
      rw [upd_ne]
      · exact e3
      · rintro rfl
        exact hO i ((e6 b).mpr rfl)
  · rw [upd_ne (ne_of_none q h0)]; exact t.keep.1 b o q n tb
  · by_cases hb : b = p
    · subst hb; exact q.no upd_same
    · exact t.grow b fun o y => q o (by rw [upd_ne hb]; exact y)
end
theorem lcL_end {c : Env → Bool} {g : Tgt} {ft fe : Ev} {vs : List Nat} : ∀ {ds : List D} {e : Env} {acc r : List D} {e' : Env}, lcL c g ft fe vs ds e acc = some (r, e') → c e' = true
  | [], e, acc, r, e', h => by
    unfold lcL at h
    split at h
    · rename_i hc; cases h; exact hc
    · cases h
  | d :: ds, e, acc, r, e', h => by
    unfold lcL at h
    split at h
    · split at h
      · cases h
      · split at h
        · split at h
          · exact lcL_end h
          · cases h
        · split at h
          · cases h
          · split at h
            · split at h
              · exact lcL_end h
              · cases h
            · cases h
          · cases h
        · cases h
    · cases h
section
variable {X : Fm} {W : WX} {tg iter elt : Expr} {ifs : List Expr} {scope : Scope} {fi : Iv} {g : Tgt} {ft fe : Ev} {vs : List Nat} {pos : Pos} {own : List (Str × Nat)}
/-- between the turns -/
def LcSt (K : PySem.W.Frag) (F H : Hp) (σ : L2.St) (e : Env) (O : Nat → Addr → Prop) (c : Env → Bool) (g : Tgt) (ft fe : Ev) (vs : List Nat) (items acc : List D) (e' : Env) (Dl : Addr) (i : Nat) (H' : Hp) : Prop :=
  ∃ F' e1 O' us a1, Stp K F H (wipe σ vs) (wipeE e vs) O F' H' (wipe σ vs) e1 O' ∧ H' Dl = some (.lst us) ∧ F' Dl = none ∧ DpAll K F' us a1 ∧ (∀ j, ¬ O' j Dl) ∧ us.length ≤ i ∧
    (∃ e3, e1 = wipeE e3 vs ∧ noOwn e3 vs = true) ∧ lcL c g ft fe vs (items.drop i) e1 a1 = some (acc, e')
theorem lc_run {js : List Nat} {J : It} {items : List D} {gd : Option Nat} {c : Env → Bool} {tgt : TG} {tt : TT} {te : TE}
    (kg : ∀ F H σ e O F1 H1 σ1 e1 O1 v d e' (Q : L2.St → Hp → Prop), Stp X.K F H σ e O F1 H1 σ1 e1 O1 → Dp X.K F1 v d → g d e1 = some e' → (∀ σ' O', Stp X.K F H σ e O F1 H1 σ' e' O' → Off js σ1 σ' → Q σ' H1) → tgt v σ1 H1 Q) (hjs : ∀ j ∈ js, j ∈ vs)
    (kt : ∀ F H σ e O r e' (Q : Bool → Hp → Prop), Sta X.K F H σ e O → ft e = some (r, e') → (∀ b F' H' O', r = .val (.bool b) → Stp X.K F H σ e O F' H' σ e' O' → Q b H') → (∀ d, r = .val d → ∃ b, d = .bool b) → (∀ xs, r ≠ .new xs) → (∀ i, r ≠ .slot i) → ErOut X.K X.mg W0 F H σ e O r e' → tt σ H Q)
    (ke : ∀ F H σ e O r e' Q, Sta X.K F H σ e O → fe e = some (r, e') → OkOut X.K F H σ e O r e' Q → ErOut X.K X.mg W0 F H σ e O r e' → te σ H Q)
    {F H : Hp} {σ : L2.St} {e : Env} {O : Nat → Addr → Prop} {acc : List D} {e' : Env} {Qd : VK} (s : Sta X.K F H (wipe σ vs) (wipeE e vs) O) (hn : noOwn e vs = true) (hz : items.length ≤ 16777216) (hJ : ItOk X.K J items F σ gd)
    (hG : ∀ F' H' e' O', Stp X.K F H (wipe σ vs) (wipeE e vs) O F' H' (wipe σ vs) e' O' → c e' = true → Gd X.K σ items gd F' H') (h : lcL c g ft fe vs items (wipeE e vs) [] = some (acc, e'))
    (hc : c e' = true)
    (k : ∀ Dl F' H' O' us, Stp X.K F H (wipe σ vs) (wipeE e vs) O F' H' (wipe σ vs) e' O' → H Dl = none → H' Dl = some (.lst us) → F' Dl = none → DpAll X.K F' us acc → (∀ i, ¬ O' i Dl) → (∃ e3, e' = wipeE e3 vs ∧ noOwn e3 vs = true) → Qd (.ref Dl) H') :
    ∀ Dl, H Dl = none → ∃ V : Nat → Nat → Hp → Prop, (∃ m, V 0 m (upd H Dl (.lst []))) ∧ ∀ i m H', V i m H' →
      (J.stop i H' ∧ Qd (.ref Dl) H') ∨ (J.go i H' ∧ ∃ Nx : Hp → Prop, (∀ H2, Nx H2 → ∃ m', m' < m ∧ V (i + 1) m' H2) ∧ ∀ x H2, J.yld i H' x H2 → tgt x (wipe σ vs) H2 fun σ2 H3 => wipe σ2 vs = wipe σ vs ∧
        tt σ2 H3 fun b H4 => if b = true then te σ2 H4 fun y H5 => ∃ acc, H5 Dl = some (.lst acc) ∧ acc.length < sizeLine ∧ Nx (upd H5 Dl (.lst (acc ++ [y]))) else Nx H4) := by
  intro Dl hD
  have hFD : F Dl = none := fresh_f s.ex hD
  refine ⟨fun i m H' => m = items.length - i ∧ i ≤ items.length ∧ LcSt X.K F H σ e O c g ft fe vs items acc e' Dl i H', ?_, ?_⟩
  · have al : Al F H F (upd H Dl (.lst [])) := Al.lst s.ex hD
    refine ⟨items.length, rfl, Nat.zero_le _, F, wipeE e vs, O, [], [], al.stp s, upd_same, hFD, .nil, fun j z => ?_, Nat.le_refl _, ⟨e, rfl, hn⟩, h⟩
    obtain ⟨p, xs, y⟩ := own_slot s z
    obtain ⟨x, _, b, us, _, q2, _, _, q5⟩ := s.slot j _ y
    rw [(q5 Dl).mp z, q2] at hD
    cases hD
  · rintro i m H1 ⟨rfl, hi, F1, e1, O1, us, a1, t, hL, hF1, hda, hO1, hul, ⟨e3, he3, hn3⟩, h1⟩
    by_cases hlt : i < items.length
    · rw [List.drop_eq_getElem_cons hlt] at h1
      unfold lcL at h1
      split at h1
      · rename_i c1
        have hj := hJ i F1 H1 t.up t.sta.ex (hG _ _ _ _ t c1)
        obtain ⟨go, yl⟩ := hj.1 items[i] (List.getElem?_eq_getElem hlt)
        refine .inr ⟨go, LcSt X.K F H σ e O c g ft fe vs items acc e' Dl (i + 1), fun H' q => ⟨items.length - (i + 1), by omega, rfl, hlt, q⟩, ?_⟩
        intro x H2 y
        obtain ⟨F2, al, hd⟩ := yl x H2 y
        have t2 := t.trans (al.stp t.sta)
        cases hg : g items[i] e1 with
        | none => rw [hg] at h1; cases h1
        | some e2 =>
          rw [hg] at h1
          simp only at h1
          refine kg F2 H2 (wipe σ vs) e1 O1 F2 H2 (wipe σ vs) e1 O1 x items[i] e2 _ (Stp.refl t2.sta) hd hg fun σ2 O2 t3 off => ?_
          have ww : wipe σ2 vs = wipe σ vs := (wipe_off off hjs).trans (wipe_wipe vs σ)
          refine ⟨ww, ?_⟩
          have g1 : H2 Dl = some (.lst us) := al.hh _ _ hL
          have g2 : F2 Dl = none := by
            cases q : F2 Dl with
            | none => rfl
            | some o =>
              have := al.new Dl o q hF1
              rw [hL] at this; cases this
          have g3 : ∀ j, ¬ O2 j Dl := fun j z => by
            rcases t3.own j Dl z with ⟨j', z'⟩ | z'
            · exact hO1 j' z'
            · exact z'.no g1
          -- what is known of the list that is made, at any later state
          have later : ∀ {F' H' e'' O'}, Stp X.K F2 H2 σ2 e2 O2 F' H' σ2 e'' O' → H' Dl = some (.lst us) ∧ F' Dl = none ∧ DpAll X.K F' us a1 ∧ ∀ j, ¬ O' j Dl := by
            intro F' H' e'' O' t'
            refine ⟨t'.keep.1 _ _ g1 g3 nofun, ?_, dpa_mono (al.up.trans t'.up) _ _ hda, fun j z => ?_⟩
            · cases q : F' Dl with
              | none => rfl
              | some o =>
                rcases t'.new Dl o q g2 with z | ⟨j, z⟩
                · exact z.no g1
                · exact absurd z (g3 j)
            · rcases t'.own j Dl z with ⟨j', z'⟩ | z'
              · exact g3 j' z'
              · exact z'.no g1
          -- the test
          cases ht : ft e2 with
          | none => rw [ht] at h1; cases h1
          | some q =>
            obtain ⟨rt, e4⟩ := q
            rw [ht] at h1
            cases rt with
            | val d =>
              cases d with
              | bool b =>
                refine kt F2 H2 σ2 e2 O2 _ _ _ t3.sta ht (fun b' F4 H4 O4 y t4 => ?_) (fun d y => (by cases y; exact ⟨b, rfl⟩)) (fun _ y => nomatch y) (fun _ y => nomatch y) (fun _ _ _ _ _ _ y => nomatch y)
                cases y
                cases b with
                | false =>
                  simp only at h1
                  split at h1
                  · rename_i hn4
                    obtain ⟨l1, l2, l3, l4⟩ := later t4
                    have t5 := ((t2.trans t3).trans t4).wipe hn4
                    rw [ww] at t5
                    exact iteF ⟨F4, wipeE e4 vs, O4, us, a1, t5, l1, l2, l3, l4, by omega, ⟨e4, rfl, hn4⟩, h1⟩
                  · cases h1
                | true =>
                  simp only at h1
                  refine iteT ?_
                  cases he : fe e4 with
                  | none => rw [he] at h1; cases h1
                  | some q =>
                    obtain ⟨re, e5⟩ := q
                    rw [he] at h1
                    have fin : (∀ x, re ≠ .err x) → (match tk re e5 with
                      | some (y, e4) => if noOwn e4 vs = true then lcL c g ft fe vs (items.drop (i + 1)) (wipeE e4 vs) (a1 ++ [y]) else none
                      | none => none) = some (acc, e') → te σ2 H4 fun y H5 => ∃ acc_1, H5 Dl = some (.lst acc_1) ∧ acc_1.length < sizeLine ∧ LcSt X.K F H σ e O c g ft fe vs items acc e' Dl (i + 1) (upd H5 Dl (.lst (acc_1 ++ [y]))) := by
                      intro hne h1
                      split at h1
                      · rename_i y e6 hk
                        split at h1
                        · rename_i hn6
                          refine ke F4 H4 σ2 e4 O4 _ _ _ t4.sta he (fun v F5 H5 O5 t5 q5 => ?_) (fun x _ _ _ _ _ y => absurd y (hne x))
                          obtain ⟨F6, O6, t6, hd6, _⟩ := take_ok t5 q5 hk
                          obtain ⟨l1, l2, l3, l4⟩ := later (t4.trans t6)
                          refine ⟨us, l1, by rw [sizeLine_eq]; omega, ?_⟩
                          have t7 := (((t2.trans t3).trans t4).trans t6).wipe hn6
                          rw [ww] at t7
                          exact ⟨F6, wipeE e6 vs, O6, us ++ [v], a1 ++ [y], t7.bump hD l2 l4 l1, upd_same, l2, dpa_app l3 (.cons hd6 .nil), l4, by rw [List.length_append]; simpa using hul, ⟨e6, rfl, hn6⟩, h1⟩
                        · cases h1
                      · cases h1
                    cases re with
                    | err x => cases h1
                    | val d => exact fin (fun _ z => nomatch z) h1
                    | new xs => exact fin (fun _ z => nomatch z) h1
                    | slot j => exact fin (fun _ z => nomatch z) h1
              | _ => cases h1
            | _ => cases h1
      · cases h1
    · rw [List.drop_eq_nil_of_le (by omega)] at h1
      unfold lcL at h1
      split at h1
      · rename_i hc
        cases h1
        have hj := hJ i F1 H1 t.up t.sta.ex (hG _ _ _ _ t hc)
        exact .inl ⟨hj.2 (by omega), k Dl F1 H1 O1 us t hD hL hF1 hda hO1 ⟨e3, he3, hn3⟩⟩
      · cases h1
/-- the tests of a comprehension -/
def TsD (X : Fm) (ifs : List Expr) (f : Ev) : Prop :=
  ∃ t : TT, (∀ i, PTs (X.C i) ifs t) ∧ ∀ F H σ e O r e' (Q : Bool → Hp → Prop), Sta X.K F H σ e O → f e = some (r, e') →
    (∀ b F' H' O', r = .val (.bool b) → Stp X.K F H σ e O F' H' σ e' O' → Q b H') → (∀ d, r = .val d → ∃ b, d = .bool b) → (∀ xs, r ≠ .new xs) → (∀ i, r ≠ .slot i) → ErOut X.K X.mg W0 F H σ e O r e' → t σ H Q
theorem tsd_nil : TsD X [] (sC (.bool true)) := ⟨_, fun _ => pts_nil, fun F H σ e O r e' Q s h k _ _ _ _ => by
  cases h
  exact k true F H O rfl (Stp.refl s)⟩
theorem tsd_one {c : Expr} {f : Ev} (h : TD X W0 c f) : TsD X [c] f := by
  obtain ⟨t, p, k⟩ := h
  exact ⟨t, fun i => pts_one (p i), k⟩
theorem lc_all {wi : TI} {tgt : TG} {tt : TT} {te : TE} {js : List Nat}
    (ki : ∀ F H σ e O a e' (R : It → Hp → Prop), Sta X.K F H σ e O → fi e = some (a, e') →
      (∀ J items gd F' H' O', a = .ok items gd → Stp X.K F H σ e O F' H' σ e' O' → ItOk X.K J items F' σ gd → (∀ j, gd = some j → ∃ p, e'[j]? = some (.own p items)) → R J H') →
      (∀ x cls d F' H' O', a = .err x → Stp X.K F H σ e O F' H' σ e' O' → ErOk X.K X.mg F' H' x cls d → W cls d σ H') → wi σ H R)
    (kg : ∀ F H σ e O F1 H1 σ1 e1 O1 v d e' (Q : L2.St → Hp → Prop), Stp X.K F H σ e O F1 H1 σ1 e1 O1 → Dp X.K F1 v d → g d e1 = some e' → (∀ σ' O', Stp X.K F H σ e O F1 H1 σ' e' O' → Off js σ1 σ' → Q σ' H1) → tgt v σ1 H1 Q) (hjs : ∀ j ∈ js, j ∈ vs)
    (kt : ∀ F H σ e O r e' (Q : Bool → Hp → Prop), Sta X.K F H σ e O → ft e = some (r, e') → (∀ b F' H' O', r = .val (.bool b) → Stp X.K F H σ e O F' H' σ e' O' → Q b H') → (∀ d, r = .val d → ∃ b, d = .bool b) → (∀ xs, r ≠ .new xs) → (∀ i, r ≠ .slot i) → ErOut X.K X.mg W0 F H σ e O r e' → tt σ H Q)
    (ke : ∀ F H σ e O r e' Q, Sta X.K F H σ e O → fe e = some (r, e') → OkOut X.K F H σ e O r e' Q → ErOut X.K X.mg W0 F H σ e O r e' → te σ H Q)
    {F H : Hp} {σ : L2.St} {e : Env} {O : Nat → Addr → Prop} {r : Rs} {e' : Env} {Q : VK} (s : Sta X.K F H σ e O) (h : sLc fi g ft fe vs e = some (r, e')) (k : OkOut X.K F H σ e O r e' Q) (z : ErOut X.K X.mg W F H σ e O r e') :
    tLc wi tgt tt te vs σ H Q := by
  unfold sLc at h
  split at h
  · rename_i x e1 h1
    cases h
    exact ki F H σ e O _ _ _ s h1 (fun _ _ _ _ _ _ y => nomatch y) fun x' cls d F' H' O' y t w => (by cases y; exact z _ cls d F' H' O' rfl t w)
  · rename_i items e1 h1
    split at h
    · rename_i c
      split at h
      · rename_i acc e2 h2
        cases h
        refine ki F H σ e O _ _ _ s h1 (fun J items' gd F1 H1 O1 y t hJ _ => ?_) (fun _ _ _ _ _ _ y => nomatch y)
        cases y
        refine lc_run kg hjs kt ke (wiped t c.1) c.1 c.2 hJ (fun _ _ _ _ _ _ => True.intro) h2 rfl fun Dl F2 H2 O2 us t2 q1 q2 q3 q4 q5 q6 => ?_
        exact k _ F2 H2 O2 (unwiped t c.1 t2 q6) ⟨Dl, us, rfl, q2, q3, q4, q5, t.back q1⟩
      · cases h
    · cases h
  · rename_i items j e1 h1
    split at h
    · rename_i c
      split at h
      · rename_i pp xs hx
        split at h
        · rename_i acc e2 h2
          cases h
          refine ki F H σ e O _ _ _ s h1 (fun J items' gd F1 H1 O1 y t hJ hgd => ?_) (fun _ _ _ _ _ _ y => nomatch y)
          cases y
          obtain ⟨p', hp'⟩ := hgd j rfl
          rw [hx] at hp'
          cases hp'
          have hj : j ∉ vs := noOwn_ok c.1 hx
          refine lc_run kg hjs kt ke (wiped t c.1) c.1 c.2 hJ (fun F' H' e' O' t2 c2 => ?_) h2 ?_ fun Dl F2 H2 O2 us t2 q1 q2 q3 q4 q5 q6 => ?_
          · obtain ⟨x, q1, A, vs', rfl, q2, q3, q4, q5⟩ := t2.sta.slot j _ (slotP_ok c2)
            rw [wipe_get hj] at q1
            exact ⟨A, vs', q1, q2, q4⟩
          · exact lcL_end h2
          · exact k _ F2 H2 O2 (unwiped t c.1 t2 q6) ⟨Dl, us, rfl, q2, q3, q4, q5, t.back q1⟩
        · cases h
      · cases h
    · cases h
  · cases h
theorem pd_lc {js : List Nat} (hc : ∀ i, (X.C i).calm = true) (hN : ∀ i, (X.C i).N.Nodup) (hi : PID X W tg iter fi) (ok : ∀ i, BlkOk (X.C i).N (X.C i).env.scope scope own) (hv : own.map (·.2) = vs) (hg : PGD (X.blk scope) tg g js) (hjs : ∀ j ∈ js, j ∈ vs)
    (ht : TsD (X.blk scope) ifs ft) (he : PD (X.blk scope) W0 elt fe) (hs : ∀ i x, foldedSetIterable iter (X.C i).env x = pure x := by intro _ _; rfl) : PD X W (.ListComp elt [⟨tg, iter, ifs, 0⟩] scope pos) (sLc fi g ft fe vs) := by
  obtain ⟨wi, pi, ki⟩ := hi
  obtain ⟨tgt, pg, kg⟩ := hg
  obtain ⟨tt, pt, kt⟩ := ht
  obtain ⟨te, pe, ke⟩ := he
  subst hv
  exact ⟨_, fun i => pe_lc (hc i) (hN i) (pi i) (ok i) (fun s H C cl fp => pg (i, s, H, C, cl, fp)) (fun s H C cl fp => pt (i, s, H, C, cl, fp)) (fun s H C cl fp => pe (i, s, H, C, cl, fp)) (hs i),
    fun F H σ e O r e' Q s h k z => lc_all ki kg hjs kt ke s h k z⟩
end
end MR

set_option Elab.async false
set_option linter.all false
set_option maxRecDepth 100000
set_option maxHeartbeats 1000000
namespace MR
open PySem PySem.Spec PyProof.Rows L2
variable [Tq]

/-! ### a slot's own list is changed -/
section
variable {K : PySem.W.Frag} {F H F1 H1 : Hp} {σ σ1 : L2.St} {e e1 : Env} {O O1 : Nat → Addr → Prop}
theorem put_own {i : Nat} {p : Bool} {xs ys : List D} {a : Addr} {ws : List V} (t : Stp K F H σ e O F1 H1 σ1 e1 O1) (h : e1[i]? = some (.own p xs)) (ha : σ1[i]? = some (some (.ref a))) (hd : DpAll K F1 ws ys) :
    Stp K F H σ e O F1 (upd H1 a (.lst ws)) σ1 (e1.set i (.own p ys)) O1 := by
  have hl : i < e1.length := (List.getElem?_eq_some_iff.mp h).1
  obtain ⟨x, q1, A, vs, rfl, q2, q3, q4, q5⟩ := t.sta.slot i _ h
  rw [ha] at q1
  cases q1
  refine ⟨⟨fun b o q => ?_, by rw [List.length_set]; exact t.sta.len, fun j s q => ?_, fun j b z => by rw [List.length_set]; exact t.sta.out j b z, t.sta.sep, t.sta.tab.kp (tk_upd q2 nofun)⟩, (by rw [List.length_set]; exact t.same), t.up, t.new, ⟨fun b o q n tb => ?_, t.keep.2.trans (tk_upd q2 nofun)⟩, fun b q => ?_, t.own, fun j zs q => ?_⟩
  · rw [upd_ne (ne_of_none q q3)]; exact t.sta.ex b o q
  · by_cases hj : j = i
    · subst hj
      rw [List.getElem?_set_self hl] at q
      cases q
      exact ⟨_, ha, a, ws, rfl, upd_same, q3, hd, q5⟩
    · rw [List.getElem?_set_ne (Ne.symm hj)] at q
      obtain ⟨y, y1, y2⟩ := t.sta.slot j s q
      refine ⟨y, y1, ?_⟩
      cases s with
      | un => exact y2
      | val d => exact y2
      | own pp zs =>
        obtain ⟨b, us, e2, e3, e4, e5, e6⟩ := y2
        refine ⟨b, us, e2, ?_, e4, e5, e6⟩
        rw [upd_ne]
        · exact e3
        · rintro rfl
          exact hj (t.sta.sep j i b ((e6 b).mpr rfl) ((q5 b).mpr rfl))
  · have hb : b ≠ a := by
      rintro rfl
      rcases t.own i b ((q5 b).mpr rfl) with ⟨j, z⟩ | z
      · exact n j z
      · obtain ⟨ps, y⟩ := z _ q
        exact tb ps y
    rw [upd_ne hb]
    exact t.keep.1 b o q n tb
  · by_cases hb : b = a
    · subst hb; exact q.no upd_same
    · exact t.grow b fun o y => q o (by rw [upd_ne hb]; exact y)
  · obtain ⟨⟨us, z1⟩, z2, z3⟩ := t.pin j zs q
    by_cases hj : j = i
    · subst hj
      rw [h] at z1
      cases z1
      exact ⟨⟨ys, List.getElem?_set_self hl⟩, z2, z3⟩
    · exact ⟨⟨us, by rw [List.getElem?_set_ne (Ne.symm hj)]; exact z1⟩, z2, z3⟩
end
/-- a method that changes a list: what it holds, the arguments; what is given, what it then holds -/
def MutG (K : PySem.W.Frag) (r : V → List V → Hp → VK → Prop) (g : List D → List D → Option (D × List D)) : Prop :=
  ∀ F H a vs xs us ds d ys Q, Ex F H → F a = none → H a = some (.lst vs) → DpAll K F vs xs → DpAll K F us ds → g xs ds = some (d, ys) → (∀ v ws, DpAll K F ws ys → Dp K F v d → Q v (upd H a (.lst ws))) → r (.ref a) us H Q
def sMut (g : List D → List D → Option (D × List D)) (i : Nat) (fs : List Ev) : Ev := fun e => match e[i]? with
  | some (.own _ _) => match sTaken fs e with
    | none => none
    | some (.err x, e1) => some (.err x, e1)
    | some (.ok ds, e1) => match e1[i]? with
      | some (.own p xs) => (g xs ds).map fun q => (.val q.1, e1.set i (.own p q.2))
      | _ => none
  | _ => none
section
variable {X : Fm} {W : WX} {o ex : Expr} {es : List Expr} {fs : List Ev} {i : Nat} {name : Str} {apos cpos : Pos} {id : String} {R : V → List V → Hp → VK → Prop} {g : List D → List D → Option (D × List D)}
theorem mut_run {t : TA} (hG : MutG X.K R g)
    (ka : ∀ F H σ e O a e' (Q : List V → Hp → Prop), Sta X.K F H σ e O → sTaken fs e = some (a, e') →
      (∀ ds vs F' H' O', a = .ok ds → Stp X.K F H σ e O F' H' σ e' O' → DpAll X.K F' vs ds → Q vs H') →
      (∀ x cls d F' H' O', a = .err x → Stp X.K F H σ e O F' H' σ e' O' → ErOk X.K X.mg F' H' x cls d → W cls d σ H') → t σ H Q)
    {F H : Hp} {σ : L2.St} {e : Env} {O : Nat → Addr → Prop} {r : Rs} {e' : Env} {Q : VK} (s : Sta X.K F H σ e O) (h : sMut g i fs e = some (r, e')) (k : OkOut X.K F H σ e O r e' Q) (z : ErOut X.K X.mg W F H σ e O r e') :
    (fun σ H Q => tVar i σ H fun x H1 => tyV X.K "list" x H1 ∧ t σ H1 fun xs H2 => R x xs H2 Q) σ H Q := by
  unfold sMut at h
  split at h
  · rename_i p0 xs0 hx0
    obtain ⟨x, q1, a, vs, rfl, q2, q3, q4, q5⟩ := s.slot i _ hx0
    refine ⟨_, q1, .inl ⟨rfl, vs, SqL.of q2⟩, ?_⟩
    split at h
    · cases h
    · rename_i x e1 h1
      cases h
      exact ka F H σ e O _ _ _ s h1 (fun _ _ _ _ _ y => nomatch y) fun x' cls d F' H' O' y t w => (by cases y; exact z _ cls d F' H' O' rfl t w)
    · rename_i ds e1 h1
      refine ka F H σ e O _ _ _ s h1 (fun ds' us F1 H1 O1 y t q => ?_) (fun _ _ _ _ _ _ y => nomatch y)
      cases y
      split at h
      · rename_i p xs hx
        cases hg : g xs ds with
        | none => rw [hg] at h; cases h
        | some q =>
          obtain ⟨d, ys⟩ := q
          rw [hg] at h
          cases h
          obtain ⟨x, w1, A, us', rfl, w2, w3, w4, w5⟩ := t.sta.slot i _ hx
          rw [q1] at w1
          cases w1
          exact hG F1 H1 a us' xs us ds d ys Q t.sta.ex w3 w2 w4 q hg fun v ws hw hv => k v F1 _ O1 (put_own t hx q1 hw) hv
      · cases h
  · cases h
theorem pd_mut (slot : Slot "list" name id) (hty : typeOf (.builtin id) = pure (.type "method_descriptor")) (hm : ∀ i, MtR (X.C i) id R) (hG : MutG X.K R g) (ho : ∀ j, PE (X.C j) o (tVar i)) (ha : PTD X W (ex :: es) fs)
    (hbase : ∀ i, attributeBase o name (X.C i).env (eval o (X.C i).env) = eval o (X.C i).env := by exact fun _ => rfl)
    (hfew : ∀ i, ((backTo cpos (starEach (ex :: es) (X.C i).env)).all (fun x => !x.1) && (backToKw cpos (keywordEach [] (X.C i).env)).all (fun x => x.1.isSome)
      && decide ((ex :: es).length + ([] : List Keyword).length + (if ([] : List Keyword).isEmpty then 0 else 1) < 30)) = true := by exact fun _ => rfl)
    (hline : (apos.endLine == cpos.line) = true := by rfl) (hs : ∀ i, starEach (ex :: es) (X.C i).env = (false, eval ex (X.C i).env) :: starEach es (X.C i).env := by exact fun _ => rfl) (hplain : ∀ i, (backTo cpos (starEach es (X.C i).env)).any (·.1) = false := by exact fun _ => rfl) :
    PD X W (.Call (.Attribute o name apos) (ex :: es) [] cpos) (sMut g i fs) := by
  obtain ⟨t, pa, ka⟩ := ha
  exact ⟨_, fun j => X.hK j ▸ pe_bm PySem.F.plainAttrs_list slot hty (hm j) (ho j) (pa j) (hbase j) (hfew j) hline (hs j) (hplain j), fun F H σ e O r e' Q s h k z => mut_run hG ka s h k z⟩
end
def gApp (xs ds : List D) : Option (D × List D) := match ds with
  | [d] => if xs.length < 16777216 then some (.none, xs ++ [d]) else none
  | _ => none
def gPopAt (xs ds : List D) : Option (D × List D) := match ds with
  | [.int i] => if -(2 ^ 63) ≤ i ∧ i < 2 ^ 63 then (match seqIndex? i xs.length with
    | some k => (xs[k]?).map fun d => (d, xs.eraseIdx k)
    | none => none) else none
  | _ => none
section
variable {K : PySem.W.Frag}
theorem mg_app : MutG K rAppend gApp := by
  intro F H a vs xs us ds d ys Q s hF hH hv hu hg k
  unfold gApp at hg
  split at hg
  · split at hg
    · rename_i c
      cases hg
      cases hu with
      | cons q1 r =>
        cases r
        exact ⟨a, vs, _, rfl, rfl, hH, by rw [dpa_len hv, sizeLine_eq]; exact c, k _ _ (dpa_app hv (.cons q1 .nil)) .non⟩
    · cases hg
  · cases hg
theorem mg_popAt : MutG K rPopAt gPopAt := by
  intro F H a vs xs us ds d ys Q s hF hH hv hu hg k
  unfold gPopAt at hg
  split at hg
  · rename_i i
    split at hg
    · rename_i c
      split at hg
      · rename_i n hn
        cases hx : xs[n]? with
        | none => rw [hx] at hg; cases hg
        | some y =>
          rw [hx] at hg
          cases hg
          cases hu with
          | cons q1 r =>
            cases r
            cases q1
            obtain ⟨v, e1, e2⟩ := dpa_get hv hx
            exact ⟨a, vs, i, n, v, rfl, rfl, hH, c.1, c.2, by rw [dpa_len hv]; exact hn, e1, k _ _ (dpa_erase n hv) e2⟩
      · cases hg
    · cases hg
  · cases hg
end
/-! ### xs[i] = e -/
def sSetIx (j : Nat) (fi fe : Ev) : Stm := fun e => match fe e with
  | none => none
  | some (.err x, e1) => some (.err x, e1)
  | some (r, e1) => match tk r e1 with
    | none => none
    | some (d, e2) => match e2[j]? with
      | some (.own _ _) => match fi e2 with
        | some (.err x, e3) => some (.err x, e3)
        | some (.val (.int i), e3) => match e3[j]? with
          | some (.own p xs) => match ixN xs.length i with
            | some n => some (.nx, e3.set j (.own p (xs.set n d)))
            | none => none
          | _ => none
        | _ => none
      | _ => none
theorem sSetIx_cases {j : Nat} {fi fe : Ev} {e : Env} {o : Out} {e' : Env} (h : sSetIx j fi fe e = some (o, e')) : (∃ x, fe e = some (.err x, e') ∧ o = .err x) ∨
    ∃ r e1 d e2 p0 xs0, fe e = some (r, e1) ∧ (∀ x, r ≠ .err x) ∧ tk r e1 = some (d, e2) ∧ e2[j]? = some (.own p0 xs0) ∧ ((∃ x, fi e2 = some (.err x, e') ∧ o = .err x) ∨
      ∃ i e3 p xs n, fi e2 = some (.val (.int i), e3) ∧ e3[j]? = some (.own p xs) ∧ ixN xs.length i = some n ∧ o = .nx ∧ e' = e3.set j (.own p (xs.set n d))) := by
  unfold sSetIx at h
  cases ha : fe e with
  | none => rw [ha] at h; cases h
  | some p =>
    obtain ⟨ra, e1⟩ := p
    rw [ha] at h
    have fin : (∀ x, ra ≠ .err x) → (match tk ra e1 with
      | none => none
      | some (d, e2) => match e2[j]? with
        | some (.own _ _) => match fi e2 with
          | some (.err x, e3) => some (Out.err x, e3)
          | some (.val (.int i), e3) => match e3[j]? with
            | some (.own p xs) => match ixN xs.length i with
              | some n => some (Out.nx, e3.set j (.own p (xs.set n d)))
              | none => none
            | _ => none
          | _ => none
        | _ => none) = some (o, e') → ∃ r e1' d e2 p0 xs0, some (ra, e1) = some (r, e1') ∧ (∀ x, r ≠ .err x) ∧ tk r e1' = some (d, e2) ∧ e2[j]? = some (.own p0 xs0) ∧ ((∃ x, fi e2 = some (.err x, e') ∧ o = .err x) ∨
      ∃ i e3 p xs n, fi e2 = some (.val (.int i), e3) ∧ e3[j]? = some (.own p xs) ∧ ixN xs.length i = some n ∧ o = .nx ∧ e' = e3.set j (.own p (xs.set n d))) := by
      intro hn h
      split at h
      · cases h
      · rename_i d e2 hk
        split at h
        · rename_i p0 xs0 hx0
          refine ⟨ra, e1, d, e2, p0, xs0, rfl, hn, hk, hx0, ?_⟩
          split at h
          · rename_i x e3 hf
            cases h
            exact .inl ⟨x, hf, rfl⟩
          · rename_i i e3 hf
            split at h
            · rename_i p xs hx
              split at h
              · rename_i n hn
                cases h
                exact .inr ⟨i, e3, p, xs, n, hf, hx, hn, rfl, rfl⟩
              · cases h
            · cases h
          · cases h
        · cases h
    cases ra with
    | err x => cases h; exact .inl ⟨x, rfl, rfl⟩
    | new xs => exact .inr (fin (fun _ z => nomatch z) h)
    | val d => exact .inr (fin (fun _ z => nomatch z) h)
    | slot i => exact .inr (fin (fun _ z => nomatch z) h)
section
variable {X : Fm} {W : WX}
theorem sd_setIx {o i ex : Expr} {j : Nat} {fi fe : Ev} {tp pos : Pos} (ho : ∀ n, PE (X.C n) o (tVar j)) (hi : PD X W i fi) (he : PD X W ex fe)
    (hs : ∀ n, swapsWithSole [.Subscript o i tp] ex pos.line (X.C n).env = pure false := by exact fun _ => rfl) (hw : ∀ n, swappedStores [.Subscript o i tp] ex (X.C n).env = pure none := by exact fun _ => rfl)
    (h1 : ∀ n, (assignEach [.Subscript o i tp] (X.C n).env).map (·.2) = [assign (.Subscript o i tp) (X.C n).env] := by exact fun _ => rfl)
    (ha : ∀ n v, assign (.Subscript o i tp) (X.C n).env v = (do
      let ov ← holding [v] (eval o (X.C n).env)
      let iv ← holding [v, ov] (eval i (X.C n).env)
      standAt tp
      holding [v, ov, iv] (setItem ov iv v)
      release [v, ov, iv] []) := by exact fun _ _ => rfl) : SD X W (.Assign [.Subscript o i tp] ex pos) (sSetIx j fi fe) := by
  obtain ⟨t, p, ke⟩ := he
  obtain ⟨ti, pi, ki⟩ := hi
  refine ⟨_, fun n => ps_asg (p n) (pg_sub (ho n) (pi n) set_list (ha n)) (hs n) (hw n) (h1 n), fun F H σ e O oo e' Dn s h k => ?_⟩
  rcases sSetIx_cases h with ⟨x, h1, rfl⟩ | ⟨r, e1, d, e2, p0, xs0, h1, n1, hd, hx0, h2⟩
  · exact ke F H σ e O _ _ _ s h1 (fun v F' H' O' t q => q.elim) (er_out k)
  · refine ke F H σ e O _ _ _ s h1 (fun v F1 H1 O1 t q => ?_) (fun x _ _ _ _ _ y => absurd y (n1 x))
    obtain ⟨F2, O2, t2, hd2, _⟩ := take_ok t q hd
    obtain ⟨x, q1, a, vs, rfl, q2, q3, q4, q5⟩ := t2.sta.slot j _ hx0
    refine ⟨_, q1, ?_⟩
    rcases h2 with ⟨x, h2, rfl⟩ | ⟨i, e3, p, xs, n, h2, hx, hn, rfl, rfl⟩
    · exact ki F2 H1 σ e2 O2 _ _ _ t2.sta h2 (fun v F' H' O' t q => q.elim) (ErOut.later t2 (er_out k))
    · refine ki F2 H1 σ e2 O2 _ _ _ t2.sta h2 (fun w F3 H3 O3 t3 q3 => ?_) (fun _ _ _ _ _ _ y => nomatch y)
      cases q3
      have t4 := t2.trans t3
      obtain ⟨x, w1, A, us, rfl, w2, w3, w4, w5⟩ := t4.sta.slot j _ hx
      rw [q1] at w1
      cases w1
      exact ⟨a, us, i, n, rfl, rfl, w2, by rw [dpa_len w4]; exact hn, k _ _ _ _ (put_own t4 hx q1 (dpa_set n w4 (dp_mono t3.up _ _ hd2)))⟩
/-! ### x op= e -/
def sAug (j : Nat) (g : D → D → Option Rs) (fe : Ev) : Stm := fun e => match e[j]? with
  | some (.val a) => match fe e with
    | some (.err x, e1) => some (.err x, e1)
    | some (r, e1) => match vw (settle r) e1 with
      | some b => match g a b with
        | some (.val d) => if noPin e1 j = true then some (.nx, e1.set j (.val d)) else none
        | _ => none
      | none => none
    | none => none
  | _ => none
theorem sAug_cases {j : Nat} {g : D → D → Option Rs} {fe : Ev} {e : Env} {o : Out} {e' : Env} (h : sAug j g fe e = some (o, e')) : ∃ a, e[j]? = some (.val a) ∧ ((∃ x, fe e = some (.err x, e') ∧ o = .err x) ∨
    ∃ r e1 b d, fe e = some (r, e1) ∧ (∀ x, r ≠ .err x) ∧ vw (settle r) e1 = some b ∧ g a b = some (.val d) ∧ noPin e1 j = true ∧ e' = e1.set j (.val d) ∧ o = .nx) := by
  unfold sAug at h
  split at h
  · rename_i a ha
    refine ⟨a, ha, ?_⟩
    cases hf : fe e with
    | none => rw [hf] at h; cases h
    | some p =>
      obtain ⟨ra, e1⟩ := p
      rw [hf] at h
      have fin : (∀ x, ra ≠ .err x) → (match vw (settle ra) e1 with
        | some b => match g a b with
          | some (.val d) => if noPin e1 j = true then some (Out.nx, e1.set j (.val d)) else none
          | _ => none
        | none => none) = some (o, e') → ∃ r e1' b d, some (ra, e1) = some (r, e1') ∧ (∀ x, r ≠ .err x) ∧ vw (settle r) e1' = some b ∧ g a b = some (.val d) ∧ noPin e1' j = true ∧ e' = e1'.set j (.val d) ∧ o = .nx := by
        intro hn h
        split at h
        · rename_i b hb
          split at h
          · rename_i d hd
            split at h
            · rename_i c
              cases h
              exact ⟨ra, e1, b, d, rfl, hn, hb, hd, c, rfl, rfl⟩
            · cases h
          · cases h
        · cases h
      cases ra with
      | err x => cases h; exact .inl ⟨x, rfl, rfl⟩
      | new xs => exact .inr (fin (fun _ z => nomatch z) h)
      | val d => exact .inr (fin (fun _ z => nomatch z) h)
      | slot i => exact .inr (fin (fun _ z => nomatch z) h)
  · cases h
theorem sd_aug {x : Str} {j : Nat} {ex : Expr} {fe : Ev} {op : Operator} {R : R2} {g : D → D → Option Rs} {pos' pos : Pos} (hN : ∀ i, (X.C i).N.Nodup) (hi : ∀ i, (X.C i).N[j]? = some x) (hx : ∀ i, Loc (X.C i).env.scope x) (he : PDs X W ex fe)
    (ho : ∀ i, OpR (X.C i) (inplaceOp op) R) (hg : OpG X.K R g) (hf : ∀ i, (X.C i).fn x = true ∨ (X.C i).env.scope.names.lookup x = some .local := by first | exact fun _ => .inl rfl | exact fun _ => .inr rfl) : SD X W (.AugAssign (.Name x pos') op ex pos) (sAug j g fe) := by
  obtain ⟨t, p, ke⟩ := he
  refine ⟨_, fun i => ps_aug (hN i) (hi i) (hx i) (p i) (ho i) (hf i), fun F H σ e O oo e' Dn s h k => ?_⟩
  obtain ⟨a, ha, h2⟩ := sAug_cases h
  obtain ⟨x, q1, ⟨v, rfl, q2⟩, q3⟩ := s.slot j _ ha
  refine ⟨v, q1, ?_⟩
  rcases h2 with ⟨x, h1, rfl⟩ | ⟨r, e1, b, d, h1, n1, hb, hd, c, rfl, rfl⟩
  · exact ke F H σ e O _ _ _ s h1 (fun v F' H' O' t q => q.elim) (er_out k)
  · refine ke F H σ e O _ _ _ s h1 (fun w F1 H1 O1 t q => ?_) (fun x _ _ _ _ _ y => absurd y (n1 x))
    refine hg F1 H1 v w a b _ _ t.sta.ex (Vw.of t.sta.ex (dp_mono t.up _ _ q2)) (vw_vw t.sta q hb) hd fun u F2 H2 al q3 => ?_
    obtain ⟨O3, t3⟩ := set_val (t.trans (al.stp t.sta)) c q3
    exact k _ _ _ _ t3
end
end MR

set_option Elab.async false
set_option linter.all false
set_option maxRecDepth 100000
set_option maxHeartbeats 1000000
namespace MR
open PySem PySem.Spec PyProof.Rows L2
variable [Tq]

/-! ### defs -/
def argsOk (args : List Sl) : Prop := ∀ s ∈ args, (∃ d, s = .val d) ∨ ∃ xs, s = .own true xs
/-- the promise of a def that is the function φ -/
def spOf (K : PySem.W.Frag) (mg : Str → Option Value) (n : Nat) (φ : FnSem) : Sp := fun vs H Q E => ∃ F args O r outs, vs.length = n ∧ Sta K F H (vs.map some) args O ∧ argsOk args ∧ φ args = some (r, outs) ∧
  (∀ v F' H' O', Stp K F H (vs.map some) args O F' H' (vs.map some) outs O' → RvOk K F H F' H' r v → Q v H') ∧
  (∀ x cls d F' H' O', r = .err x → Stp K F H (vs.map some) args O F' H' (vs.map some) outs O' → ErOk K mg F' H' x cls d → E cls d H')
def outsOf (args e' : List Sl) : List Sl := List.zipWith (fun a b => match a with
  | .own true _ => b
  | a => a) args e'
def sDef (n : Nat) (body : Stm) : FnSem := fun args => match body (args ++ List.replicate (n - args.length) .un) with
  | some (.nx, e') => some (.val .none, outsOf args e')
  | some (.ret (.val d), e') => some (.val d, outsOf args e')
  | some (.ret (.new xs), e') => some (.new xs, outsOf args e')
  | some (.ret (.slot i), e') => match e'[i]? with
    | some (.own false xs) => some (.new xs, outsOf args e')
    | _ => none
  | some (.err x, e') => some (.err x, outsOf args e')
  | _ => none
section
variable {K : PySem.W.Frag} {F H F1 H1 : Hp} {σ σ1 : L2.St} {e e1 : Env} {O O1 : Nat → Addr → Prop}
theorem args_len {vs : List V} {args : List Sl} (s : Sta K F H (vs.map some) args O) : args.length = vs.length := by
  have := s.len
  rw [List.length_map] at this
  exact this.symm
/-- the state at a def's entry -/
theorem entry {N : List Str} {vs : List V} {args : List Sl} (s : Sta K F H (vs.map some) args O) (hl : vs.length ≤ N.length) : Sta K F H (L2.start N vs) (args ++ List.replicate (N.length - args.length) .un) O := by
  have len := args_len s
  refine ⟨s.ex, ?_, fun i sl q => ?_, fun i a z => by rw [List.length_append]; exact Nat.lt_of_lt_of_le (s.out i a z) (Nat.le_add_right _ _), s.sep, s.tab⟩
  · unfold L2.start
    rw [List.length_append, List.length_append, List.length_map, List.length_replicate, List.length_replicate, len]
  · unfold L2.start
    by_cases hi : i < args.length
    · rw [List.getElem?_append_left hi] at q
      obtain ⟨x, q1, q2⟩ := s.slot i sl q
      exact ⟨x, by rw [List.getElem?_append_left (by rw [List.length_map]; omega)]; exact q1, q2⟩
    · rw [List.getElem?_append_right (by omega)] at q
      obtain ⟨h1, h2⟩ := List.getElem?_eq_some_iff.mp q
      rw [List.length_replicate] at h1
      rw [List.getElem_replicate] at h2
      subst h2
      refine ⟨none, ?_, fun a z => hi (s.out i a z)⟩
      rw [List.getElem?_append_right (by rw [List.length_map]; omega), List.length_map, ← len]
      rw [List.getElem?_eq_getElem (by rw [List.length_replicate]; exact h1), List.getElem_replicate]
theorem entry_at {N : List Str} {args : List Sl} {i : Nat} {sl : Sl} (h : args[i]? = some sl) : (args ++ List.replicate (N.length - args.length) Sl.un)[i]? = some sl := by
  rw [List.getElem?_append_left (List.getElem?_eq_some_iff.mp h).1]
  exact h
theorem outs_get {args e1 : List Sl} {i : Nat} {s : Sl} (h : (outsOf args e1)[i]? = some s) : ∃ a b, args[i]? = some a ∧ e1[i]? = some b ∧ s = (match a with | .own true _ => b | a => a) := by
  unfold outsOf at h
  rw [List.getElem?_zipWith] at h
  cases ha : args[i]? with
  | none => rw [ha] at h; cases h
  | some a =>
    cases hb : e1[i]? with
    | none => rw [ha, hb] at h; cases h
    | some b =>
      rw [ha, hb] at h
      exact ⟨a, b, rfl, rfl, (Option.some.inj h).symm⟩
/-- the state behind it, as the caller sees it -/
theorem leave {N : List Str} {vs : List V} {args : List Sl} (s : Sta K F H (vs.map some) args O) (ha : argsOk args) (hl : vs.length ≤ N.length)
    (t : Stp K F H (L2.start N vs) (args ++ List.replicate (N.length - args.length) .un) O F1 H1 σ1 e1 O1) : Stp K F H (vs.map some) args O F1 H1 (vs.map some) (outsOf args e1) O := by
  have len := args_len s
  have len1 : e1.length = N.length := by
    rw [t.same, List.length_append, List.length_replicate]
    omega
  have lenO : (outsOf args e1).length = args.length := by
    unfold outsOf
    rw [List.length_zipWith]
    omega
  have at_ : ∀ i, i < args.length → (L2.start N vs)[i]? = (vs.map some)[i]? := fun i hi => by
    unfold L2.start
    rw [List.getElem?_append_left (by rw [List.length_map]; omega)]
  have pin : ∀ i xs, args[i]? = some (.own true xs) → (∃ ys, e1[i]? = some (.own true ys)) ∧ σ1[i]? = (vs.map some)[i]? ∧ ∀ a, O i a → O1 i a := fun i xs h => by
    obtain ⟨z1, z2, z3⟩ := t.pin i xs (entry_at h)
    exact ⟨z1, by rw [z2, at_ i (List.getElem?_eq_some_iff.mp h).1], z3⟩
  refine ⟨⟨t.sta.ex, by rw [List.length_map, lenO, len], fun i sl q => ?_, fun i a z => by rw [lenO]; exact s.out i a z, s.sep, t.sta.tab⟩, by rw [lenO], t.up, t.new, t.keep, t.grow, fun i p z => .inl ⟨i, z⟩, fun i xs q => ?_⟩
  · obtain ⟨a, b, h1, h2, rfl⟩ := outs_get q
    obtain ⟨x, q1, q2⟩ := s.slot i a h1
    refine ⟨x, q1, ?_⟩
    rcases ha a (List.mem_of_getElem? h1) with ⟨d, rfl⟩ | ⟨xs, rfl⟩
    · obtain ⟨⟨w, e4, e5⟩, e6⟩ := q2
      exact ⟨⟨w, e4, dp_mono t.up _ _ e5⟩, e6⟩
    · obtain ⟨⟨ys, z1⟩, z2, z3⟩ := pin i xs h1
      rw [z1] at h2
      cases h2
      obtain ⟨A, us, rfl, e4, e5, e6, e7⟩ := q2
      obtain ⟨x', w1, A', us', rfl, w2, w3, w4, w5⟩ := t.sta.slot i _ z1
      rw [z2, q1] at w1
      cases w1
      exact ⟨A, us', rfl, w2, w3, w4, e7⟩
  · obtain ⟨⟨ys, z1⟩, z2, z3⟩ := pin i xs q
    refine ⟨⟨ys, ?_⟩, rfl, fun a h => h⟩
    unfold outsOf
    rw [List.getElem?_zipWith, q, z1]
/-- a list that a def gives: no one of the caller's -/
theorem given {N : List Str} {vs : List V} {args : List Sl} {i : Nat} {xs : List D} {v : V} (s : Sta K F H (vs.map some) args O) (ha : argsOk args)
    (t : Stp K F H (L2.start N vs) (args ++ List.replicate (N.length - args.length) .un) O F1 H1 σ1 e1 O1) (h : e1[i]? = some (.own false xs)) (hv : σ1[i]? = some (some v)) : RvOk K F H F1 H1 (.new xs) v := by
  obtain ⟨x, q1, A, us, rfl, q2, q3, q4, q5⟩ := t.sta.slot i _ h
  rw [hv] at q1
  cases q1
  refine ⟨A, us, rfl, q2, q3, q4, ?_⟩
  rcases t.own i A ((q5 A).mpr rfl) with ⟨j, z⟩ | z
  · have hj := s.out j A z
    rcases ha args[j] (List.getElem_mem hj) with ⟨d, hd⟩ | ⟨ys, hy⟩
    · obtain ⟨x, _, q⟩ := s.slot j _ (List.getElem?_eq_getElem hj)
      rw [hd] at q
      exact absurd z (q.2 A)
    · have hy' : args[j]? = some (.own true ys) := by rw [List.getElem?_eq_getElem hj, hy]
      obtain ⟨⟨zs, z1⟩, _, z3⟩ := t.pin j ys (entry_at hy')
      have e := t.sta.sep i j A ((q5 A).mpr rfl) (z3 A z)
      subst e
      rw [h] at z1
      cases z1
  · exact z
end
/-- the contexts of a def's body -/
def Fm.one (X : Cx) : Fm := ⟨Unit, fun _ => X, X.K, X.mg, fun _ => rfl, fun _ => rfl⟩
section
variable {P : Program} {w : World} {K : PySem.W.Frag} {mg : Str → Option Value} {base : Heap}
/-- a def whose body is told by a function keeps its promise -/
theorem fn_ok {x qual : Str} {st : Stmt} {f : Addr} {fd : FuncData} {N ps : List Str} {k : Nat} {body : Stm} (Fu : Fun K x qual st f fd) (S : FnScope N ps (defScope st)) (hps : ps.length ≤ N.length)
    (hb : ∀ (cdv : Value) (A : Around) (outer : List PySem.Env) (s : Shared) (H : Hp) (E : XK), Room k (A.deeper (envOfC qual (defScope st) s.heap.objs.size f cdv)) →
      SDs (Fm.one (cxOf (L2.CX P w) P w K mg base N qual (defScope st) f cdv A outer s H E)) (fun cls d _ H => E cls d H) (defBody st) body) :
    FnOk P w K mg base (L2.CX P w) (k + 1) f fd ps (spOf K mg ps.length (sDef N.length body)) := by
  refine Fu.okX S (fun vs H Q E h => ?_) (fun cdv A outer s H vs Q E hr h => ?_)
  · obtain ⟨F, args, O, r, outs, hl, _⟩ := h
    exact hl
  · obtain ⟨t, p, k⟩ := hb cdv A outer s H E hr
    obtain ⟨F, args, O, r, outs, hl, sta, hargs, hφ, hq, he⟩ := h
    have hlN : vs.length ≤ N.length := by omega
    refine ⟨t, p (), ?_⟩
    have s0 := entry (N := N) sta hlN
    unfold sDef at hφ
    split at hφ
    · rename_i e' h1
      cases hφ
      exact k F H _ _ O .nx e' _ s0 h1 fun F' H' σ' O' t' => hq .non F' H' O (leave sta hargs hlN t') .non
    · rename_i d e' h1
      cases hφ
      exact k F H _ _ O (.ret (.val d)) e' _ s0 h1 fun v F' H' σ' O' t' q => hq v F' H' O (leave sta hargs hlN t') q
    · rename_i xs e' h1
      cases hφ
      refine k F H _ _ O (.ret (.new xs)) e' _ s0 h1 fun v F' H' σ' O' t' q => hq v F' H' O (leave sta hargs hlN t') ?_
      obtain ⟨a, us, q1, q2, q3, q4, q5, q6⟩ := q
      exact ⟨a, us, q1, q2, q3, q4, q6⟩
    · rename_i i e' h1
      split at hφ
      · rename_i xs hx
        cases hφ
        refine k F H _ _ O (.ret (.slot i)) e' _ s0 h1 fun v F' H' σ' O' t' q => hq v F' H' O (leave sta hargs hlN t') ?_
        obtain ⟨p', ys, _, q2⟩ := q
        exact given sta hargs t' hx q2
      · cases hφ
    · rename_i x e' h1
      cases hφ
      exact k F H _ _ O (.err x) e' _ s0 h1 fun cls d F' H' σ' O' t' q => he x cls d F' H' O rfl (leave sta hargs hlN t') q
    · cases hφ
end

/-! ### calls of defs -/
def argSl : Rs → Env → Option Sl
  | .val d, _ => some (.val d)
  | .slot i, e => match e[i]? with
    | some (.own _ xs) => some (.own true xs)
    | _ => none
  | _, _ => none
def argSls : List Rs → Env → Option (List Sl)
  | [], _ => some []
  | r :: rs, e => match argSl r e, argSls rs e with
    | some s, some ss => some (s :: ss)
    | _, _ => none
/-- no slot is given twice -/
def noSlot (i : Nat) : List Rs → Bool
  | [] => true
  | .slot j :: rs => j != i && noSlot i rs
  | _ :: rs => noSlot i rs
def slotsApart : List Rs → Bool
  | [] => true
  | .slot i :: rs => noSlot i rs && slotsApart rs
  | _ :: rs => slotsApart rs
def writeBack : List Rs → List Sl → Env → Env
  | .slot i :: rs, .own _ ys :: outs, e => writeBack rs outs (match e[i]? with
    | some (.own p _) => e.set i (.own p ys)
    | _ => e)
  | _ :: rs, _ :: outs, e => writeBack rs outs e
  | _, _, e => e
def sCall (φ : FnSem) (fs : List Ev) : Ev := fun e => match sArgs fs e with
  | none => none
  | some (.err x, e1) => some (.err x, e1)
  | some (.ok rs, e1) => if slotsApart rs = true then (match argSls rs e1 with
    | some args => match φ args with
      | some (.slot _, _) => none
      | some (r, outs) => some (r, writeBack rs outs e1)
      | none => none
    | none => none) else none
section
variable {K : PySem.W.Frag} {B F H F1 H1 : Hp} {σ σ1 : L2.St} {e e1 : Env} {O O1 : Nat → Addr → Prop}
theorem noSlot_at : ∀ {rs : List Rs} {i j : Nat}, noSlot i rs = true → rs[j]? ≠ some (.slot i)
  | [], i, j, _ => by simp
  | r :: rs, i, 0, h => by
    intro z
    cases z
    unfold noSlot at h
    simp at h
  | r :: rs, i, j + 1, h => by
    have : noSlot i rs = true := by
      cases r with
      | slot k => unfold noSlot at h; rw [Bool.and_eq_true] at h; exact h.2
      | val d => exact h
      | new xs => exact h
      | err x => exact h
    show rs[j]? ≠ some (Rs.slot i)
    exact noSlot_at this
theorem slots_inj : ∀ {rs : List Rs} {i j k : Nat}, slotsApart rs = true → rs[j]? = some (.slot i) → rs[k]? = some (.slot i) → j = k
  | [], i, j, k, _, h, _ => by simp at h
  | r :: rs, i, 0, 0, _, _, _ => rfl
  | r :: rs, i, 0, k + 1, h, h1, h2 => by
    cases h1
    unfold slotsApart at h
    rw [Bool.and_eq_true] at h
    have h2 : rs[k]? = some (Rs.slot i) := h2
    exact absurd h2 (noSlot_at h.1)
  | r :: rs, i, j + 1, 0, h, h1, h2 => by
    cases h2
    unfold slotsApart at h
    rw [Bool.and_eq_true] at h
    have h1 : rs[j]? = some (Rs.slot i) := h1
    exact absurd h1 (noSlot_at h.1)
  | r :: rs, i, j + 1, k + 1, h, h1, h2 => by
    have : slotsApart rs = true := by
      cases r with
      | slot k => unfold slotsApart at h; rw [Bool.and_eq_true] at h; exact h.2
      | val d => exact h
      | new xs => exact h
      | err x => exact h
    rw [slots_inj (j := j) (k := k) this h1 h2]
theorem rsAll_get : ∀ {rs : List Rs} {vs : List V} {j : Nat} {r : Rs}, RsAll K B F H σ e O rs vs → rs[j]? = some r → ∃ v, vs[j]? = some v ∧ RsOk K B F H σ e O r v
  | _, _, j, r, .nil, h => by simp at h
  | _, _, 0, r, .cons a t, h => by cases h; exact ⟨_, rfl, a⟩
  | _, _, j + 1, r, .cons a t, h => rsAll_get (j := j) t h
theorem rsAll_len : ∀ {rs : List Rs} {vs : List V}, RsAll K B F H σ e O rs vs → rs.length = vs.length
  | _, _, .nil => rfl
  | _, _, .cons a t => by rw [List.length_cons, List.length_cons, rsAll_len t]
theorem argSls_get : ∀ {rs : List Rs} {e : Env} {args : List Sl} {j : Nat} {s : Sl}, argSls rs e = some args → args[j]? = some s → ∃ r, rs[j]? = some r ∧ argSl r e = some s
  | [], e, args, j, s, h, q => by cases h; simp at q
  | r :: rs, e, args, j, s, h, q => by
    unfold argSls at h
    split at h
    · rename_i s' ss h1 h2
      cases h
      cases j with
      | zero => cases q; exact ⟨r, rfl, h1⟩
      | succ j => exact argSls_get (j := j) h2 q
    · cases h
theorem argSls_len : ∀ {rs : List Rs} {e : Env} {args : List Sl}, argSls rs e = some args → args.length = rs.length
  | [], e, args, h => by cases h; rfl
  | r :: rs, e, args, h => by
    unfold argSls at h
    split at h
    · rename_i s' ss h1 h2
      cases h
      rw [List.length_cons, List.length_cons, argSls_len h2]
    · cases h
theorem argSl_slot {r : Rs} {s : Sl} (h : argSl r e = some s) : (∃ d, r = .val d ∧ s = .val d) ∨ ∃ i p xs, r = .slot i ∧ e[i]? = some (.own p xs) ∧ s = .own true xs := by
  cases r with
  | val d => cases h; exact .inl ⟨d, rfl, rfl⟩
  | slot i =>
    unfold argSl at h
    simp only at h
    split at h
    · rename_i p xs hx
      cases h
      exact .inr ⟨i, p, xs, rfl, hx, rfl⟩
    · cases h
  | new xs => cases h
  | err x => cases h
/-- what stands in the caller's slots behind the call -/
theorem back_len : ∀ {rs : List Rs} {outs : List Sl} {e : Env}, (writeBack rs outs e).length = e.length
  | [], _, _ => by unfold writeBack; rfl
  | r :: rs, [], e => by cases r <;> (unfold writeBack; rfl)
  | r :: rs, o :: outs, e => by
    cases r with
    | slot i =>
      cases o with
      | own p ys =>
        unfold writeBack
        rw [back_len]
        split
        · rw [List.length_set]
        · rfl
      | un => unfold writeBack; exact back_len
      | val d => unfold writeBack; exact back_len
    | val d => cases o <;> (unfold writeBack; exact back_len)
    | new xs => cases o <;> (unfold writeBack; exact back_len)
    | err x => cases o <;> (unfold writeBack; exact back_len)
theorem back_off : ∀ {rs : List Rs} {outs : List Sl} {e : Env} {i : Nat}, (∀ (j : Nat), rs[j]? ≠ some (Rs.slot i)) → (writeBack rs outs e)[i]? = e[i]?
  | [], _, _, _, _ => by unfold writeBack; rfl
  | r :: rs, [], e, i, _ => by cases r <;> (unfold writeBack; rfl)
  | r :: rs, o :: outs, e, i, h => by
    have hr : ∀ (j : Nat), rs[j]? ≠ some (Rs.slot i) := fun j z => h (j + 1) z
    cases r with
    | slot k =>
      have hk : k ≠ i := fun z => h 0 (by rw [z]; rfl)
      cases o with
      | own p ys =>
        unfold writeBack
        rw [back_off hr]
        split
        · rw [List.getElem?_set_ne hk]
        · rfl
      | un => unfold writeBack; exact back_off hr
      | val d => unfold writeBack; exact back_off hr
    | val d => cases o <;> (unfold writeBack; exact back_off hr)
    | new xs => cases o <;> (unfold writeBack; exact back_off hr)
    | err x => cases o <;> (unfold writeBack; exact back_off hr)
theorem back_at : ∀ {rs : List Rs} {outs : List Sl} {e : Env} {i j : Nat} {p q : Bool} {xs ys : List D}, slotsApart rs = true → rs[j]? = some (.slot i) → outs[j]? = some (.own q ys) → e[i]? = some (.own p xs) → (writeBack rs outs e)[i]? = some (.own p ys)
  | [], _, _, _, _, _, _, _, _, _, h, _, _ => by simp at h
  | r :: rs, [], e, i, j, _, _, _, _, _, _, h, _ => by simp at h
  | r :: rs, o :: outs, e, i, 0, p, q, xs, ys, hs, h1, h2, h3 => by
    cases h1
    cases h2
    unfold slotsApart at hs
    rw [Bool.and_eq_true] at hs
    unfold writeBack
    rw [back_off fun j => noSlot_at hs.1, h3]
    exact List.getElem?_set_self (List.getElem?_eq_some_iff.mp h3).1
  | r :: rs, o :: outs, e, i, j + 1, p, q, xs, ys, hs, h1, h2, h3 => by
    have hr : slotsApart rs = true := by
      cases r with
      | slot k => unfold slotsApart at hs; rw [Bool.and_eq_true] at hs; exact hs.2
      | val d => exact hs
      | new xs => exact hs
      | err x => exact hs
    have h1' : rs[j]? = some (Rs.slot i) := h1
    have h2' : outs[j]? = some (.own q ys) := h2
    cases r with
    | slot k =>
      have hk : k ≠ i := fun z => by
        unfold slotsApart at hs
        rw [Bool.and_eq_true] at hs
        subst z
        exact noSlot_at hs.1 h1'
      cases o with
      | own pp zs =>
        unfold writeBack
        refine back_at (xs := xs) hr h1' h2' ?_
        split
        · rw [List.getElem?_set_ne hk]; exact h3
        · exact h3
      | un => unfold writeBack; exact back_at hr h1' h2' h3
      | val d => unfold writeBack; exact back_at hr h1' h2' h3
    | val d => cases o <;> (unfold writeBack; exact back_at hr h1' h2' h3)
    | new xs => cases o <;> (unfold writeBack; exact back_at hr h1' h2' h3)
    | err x => cases o <;> (unfold writeBack; exact back_at hr h1' h2' h3)
/-- what the callee holds -/
def Oc (rs : List Rs) (O : Nat → Addr → Prop) : Nat → Addr → Prop := fun j a => ∃ i, rs[j]? = some (Rs.slot i) ∧ O i a
theorem call_in {rs : List Rs} {vs : List V} {args : List Sl} (s : Sta K F H σ e O) (h : RsAll K B F H σ e O rs vs) (hs : slotsApart rs = true) (ha : argSls rs e = some args) : Sta K F H (vs.map some) args (Oc rs O) ∧ argsOk args := by
  have len : args.length = vs.length := (argSls_len ha).trans (rsAll_len h)
  refine ⟨⟨s.ex, by rw [List.length_map, len], fun j sl q => ?_, fun j a z => ?_, fun j k a z y => ?_, s.tab⟩, fun sl hm => ?_⟩
  · obtain ⟨r, h1, h2⟩ := argSls_get ha q
    obtain ⟨v, h3, h4⟩ := rsAll_get h h1
    refine ⟨some v, by rw [List.getElem?_map, h3]; rfl, ?_⟩
    rcases argSl_slot h2 with ⟨d, rfl, rfl⟩ | ⟨i, p, xs, rfl, hx, rfl⟩
    · refine ⟨⟨v, rfl, h4⟩, fun a z => ?_⟩
      obtain ⟨i, z1, _⟩ := z
      rw [h1] at z1
      cases z1
    · obtain ⟨a, us, rfl, q1, q2, q3, q4, q5⟩ := slot_at s h4 hx
      refine ⟨a, us, rfl, q2, q3, q4, fun b => ⟨fun z => ?_, fun z => ⟨i, h1, (q5 b).mpr z⟩⟩⟩
      obtain ⟨i', z1, z2⟩ := z
      rw [h1] at z1
      cases z1
      exact (q5 b).mp z2
  · obtain ⟨i, z1, _⟩ := z
    rw [argSls_len ha]
    exact (List.getElem?_eq_some_iff.mp z1).1
  · obtain ⟨i, z1, z2⟩ := z
    obtain ⟨i', y1, y2⟩ := y
    have e := s.sep i i' a z2 y2
    subst e
    exact slots_inj hs z1 y1
  · obtain ⟨j, hj⟩ := List.getElem?_of_mem hm
    obtain ⟨r, h1, h2⟩ := argSls_get ha hj
    rcases argSl_slot h2 with ⟨d, rfl, rfl⟩ | ⟨i, p, xs, rfl, hx, rfl⟩
    · exact .inl ⟨d, rfl⟩
    · exact .inr ⟨xs, rfl⟩
theorem call_out {rs : List Rs} {vs : List V} {args outs : List Sl} (s : Sta K F H σ e O) (h : RsAll K B F H σ e O rs vs) (hs : slotsApart rs = true) (ha : argSls rs e = some args)
    (t : Stp K F H (vs.map some) args (Oc rs O) F1 H1 (vs.map some) outs O1) : Stp K F H σ e O F1 H1 σ (writeBack rs outs e) O := by
  have pas : ∀ i : Nat, (∀ (j : Nat), rs[j]? ≠ some (Rs.slot i)) ∨ ∃ j : Nat, rs[j]? = some (Rs.slot i) := fun i => by
    by_cases z : ∃ j : Nat, rs[j]? = some (Rs.slot i)
    · exact .inr z
    · exact .inl fun j y => z ⟨j, y⟩
  -- a slot that was given
  have gave : ∀ (i j : Nat), rs[j]? = some (Rs.slot i) → ∃ p xs ys, e[i]? = some (.own p xs) ∧ (writeBack rs outs e)[i]? = some (.own p ys) ∧ SlOk K F1 H1 (.own p ys) (σ[i]?.getD none) (O i) ∧ ∃ x, σ[i]? = some x := by
    intro i j hj
    have hjl : j < args.length := by rw [argSls_len ha]; exact (List.getElem?_eq_some_iff.mp hj).1
    obtain ⟨r, h1, h2⟩ := argSls_get ha (List.getElem?_eq_getElem hjl)
    rw [hj] at h1
    cases h1
    rcases argSl_slot h2 with ⟨d, z, _⟩ | ⟨i', p, xs, z, hx, ho⟩
    · cases z
    · cases z
      have hargs : args[j]? = some (.own true xs) := by rw [List.getElem?_eq_getElem hjl, ho]
      obtain ⟨⟨ys, y1⟩, _, y3⟩ := t.pin j xs hargs
      obtain ⟨v, h3, h4⟩ := rsAll_get h hj
      obtain ⟨a, us, rfl, q1, q2, q3, q4, q5⟩ := slot_at s h4 hx
      obtain ⟨x, w1, A, us', rfl, w2, w3, w4, w5⟩ := t.sta.slot j _ y1
      rw [List.getElem?_map, h3] at w1
      cases w1
      exact ⟨p, xs, ys, hx, back_at hs hj y1 hx, ⟨a, us', by rw [q1]; rfl, w2, w3, w4, q5⟩, _, q1⟩
  refine ⟨⟨t.sta.ex, by rw [back_len]; exact s.len, fun i sl q => ?_, fun i a z => by rw [back_len]; exact s.out i a z, s.sep, t.sta.tab⟩, back_len, t.up, fun p o q n => ?_, ⟨fun b o q n => t.keep.1 b o q fun j z => ?_, t.keep.2⟩, t.grow, fun i p z => .inl ⟨i, z⟩, fun i xs q => ?_⟩
  · rcases pas i with hi | ⟨j, hj⟩
    · rw [back_off hi] at q
      obtain ⟨x, q1, q2⟩ := s.slot i sl q
      refine ⟨x, q1, ?_⟩
      cases sl with
      | un => exact q2
      | val d =>
        obtain ⟨⟨w, e4, e5⟩, e6⟩ := q2
        exact ⟨⟨w, e4, dp_mono t.up _ _ e5⟩, e6⟩
      | own p ys =>
        obtain ⟨b, us, e2, e3, e4, e5, e6⟩ := q2
        have no : ∀ j, ¬ Oc rs O j b := fun j z => by
          obtain ⟨i', z1, z2⟩ := z
          have e := s.sep i' i b z2 ((e6 b).mpr rfl)
          subst e
          exact hi j z1
        refine ⟨b, us, e2, t.keep.1 b _ e3 no nofun, ?_, dpa_mono t.up _ _ e5, e6⟩
        cases y : F1 b with
        | none => rfl
        | some o =>
          rcases t.new b o y e4 with z | ⟨j, z⟩
          · exact z.no e3
          · exact absurd z (no j)
    · obtain ⟨p, xs, ys, _, g2, g3, x, g4⟩ := gave i j hj
      rw [g2] at q
      cases q
      refine ⟨x, g4, ?_⟩
      rw [g4] at g3
      exact g3
  · rcases t.new p o q n with z | ⟨j, i, _, z⟩
    · exact .inl z
    · exact .inr ⟨i, z⟩
  · obtain ⟨i, _, z⟩ := z
    exact n i z
  · rcases pas i with hi | ⟨j, hj⟩
    · exact ⟨⟨xs, by rw [back_off hi]; exact q⟩, rfl, fun _ h => h⟩
    · obtain ⟨p, xs', ys, g1, g2, _⟩ := gave i j hj
      rw [q] at g1
      cases g1
      exact ⟨⟨ys, g2⟩, rfl, fun _ h => h⟩
end
section
variable {X : Fm} {W : WX} {x : Str} {ex : Expr} {es : List Expr} {fs : List Ev} {p pos : Pos} {φ : FnSem} {f : Addr} {fd : FuncData} {ps : List Str} {n k : Nat}
theorem call_run {t : TA} (hn : fs.length = n)
    (ka : ∀ F H σ e O a e' (Q : List V → Hp → Prop), Sta X.K F H σ e O → sArgs fs e = some (a, e') →
      (∀ rs vs F' H' O', a = .ok rs → Stp X.K F H σ e O F' H' σ e' O' → RsAll X.K H F' H' σ e' O' rs vs → Q vs H') →
      (∀ x cls d F' H' O', a = .err x → Stp X.K F H σ e O F' H' σ e' O' → ErOk X.K X.mg F' H' x cls d → W cls d σ H') → t σ H Q)
    {F H : Hp} {σ : L2.St} {e : Env} {O : Nat → Addr → Prop} {r : Rs} {e' : Env} {Q : VK} (s : Sta X.K F H σ e O) (h : sCall φ fs e = some (r, e')) (kk : OkOut X.K F H σ e O r e' Q) (z : ErOut X.K X.mg W F H σ e O r e') :
    tCallS (spOf X.K X.mg n φ) (WE W) t σ H Q := by
  unfold sCall at h
  split at h
  · cases h
  · rename_i x e1 h1
    cases h
    exact ka F H σ e O _ _ _ s h1 (fun _ _ _ _ _ y => nomatch y) fun x' cls d F' H' O' y t w => (by cases y; exact z _ cls d F' H' O' rfl t w)
  · rename_i rs e1 h1
    split at h
    · rename_i hsl
      split at h
      · rename_i args ha
        split at h
        · cases h
        · rename_i r' outs hns hφ
          cases h
          refine ka F H σ e O _ _ _ s h1 (fun rs' vs F1 H1 O1 y t q => ?_) (fun _ _ _ _ _ _ y => nomatch y)
          cases y
          obtain ⟨c1, c2⟩ := call_in t.sta q hsl ha
          refine ⟨F1, args, Oc rs O1, r, outs, by rw [← rsAll_len q, sArgs_len h1, hn], c1, c2, hφ, fun v F' H' O' t' rv => ?_, fun x cls d F' H' O' y t' w => ?_⟩
          · refine kk v F' H' O1 (t.trans (call_out t.sta q hsl ha t')) ?_
            cases r with
            | val d => exact rv
            | new xs =>
              obtain ⟨a, us, q1, q2, q3, q4, q5⟩ := rv
              refine ⟨a, us, q1, q2, q3, q4, fun i z => ?_, t.back q5⟩
              obtain ⟨pp, ys, y⟩ := own_slot t.sta z
              obtain ⟨w1, _, b, ws, _, w2, _, _, w5⟩ := t.sta.slot i _ y
              rw [(w5 a).mp z] at q5
              exact q5.no w2
            | slot i => exact absurd rfl (hns i)
            | err x => exact rv.elim
          · exact z x cls d F' H' O1 y (t.trans (call_out t.sta q hsl ha t')) w
        · cases h
      · cases h
    · cases h
theorem pd_call (hn : fs.length = n) (G : ∀ i, FnOk (X.C i).prog (X.C i).w (X.C i).K (X.C i).mg (X.C i).base (L2.CX (X.C i).prog (X.C i).w) k f fd ps (spOf X.K X.mg n φ)) (hr : ∀ i, Room k (X.C i).A) (hg : ∀ i, Gl (X.C i) x) (hm : ∀ i, (X.C i).mg x = some (.ref f))
    (hk : ∀ i, PySem.W.keepIn (X.C i).K (.ref f) = true) (hb : ∀ i, Binds (X.C i).K fd ps []) (tk : ∀ i, Takes (X.C i) W) (ha : PAD X W (ex :: es) fs)
    (hdb : (x == ("__debug__" : Str)) = false := by decide) (he : ∀ i, starEach (ex :: es) (X.C i).env = (false, eval ex (X.C i).env) :: starEach es (X.C i).env := by exact fun _ => rfl) (hpl : ∀ i, (backTo pos (starEach es (X.C i).env)).any (·.1) = false := by exact fun _ => rfl) :
    PD X W (.Call (.Name x p) (ex :: es) [] pos) (sCall φ fs) := by
  obtain ⟨t, pa, ka⟩ := ha
  exact ⟨_, fun i => pe_callS (G i) (hr i) (hg i) (hm i) (hk i) (hb i) (fun σ => passAt (tk i) σ) (pa i) hdb (he i) (hpl i), fun F H σ e O r e' Q s h kk z => call_run hn ka s h kk z⟩
end
end MR

set_option Elab.async false
set_option linter.all false
set_option maxRecDepth 100000
set_option maxHeartbeats 2000000
namespace MR
open PySem PySem.Spec PyProof.Rows L2
variable [Tq]

/-! ### isinstance(e, T), T a built-in type -/
def tyD : D → String
  | .none => "NoneType"
  | .bool _ => "bool"
  | .int _ => "int"
  | .str _ => "str"
  | .list _ => "list"
  | .tuple _ => "tuple"
  | .dict _ => "dict"
def noDict : D → Bool
  | .dict _ => false
  | _ => true
theorem ty_dp {K : PySem.W.Frag} {H : Hp} {v : V} {d : D} (hn : noDict d = true) (h : Dp K H v d) : TyX K H v (.type (tyD d)) := by
  cases h with
  | non => exact .base .non
  | bl b => exact .base (.bl b)
  | int i => exact .base (.int i)
  | str x => exact .base (.str x)
  | lst h1 h2 =>
    rcases h1.s with (h1 | ⟨o, h1⟩) | ⟨o, its, n, h1, h2, _⟩
    · exact .base (.lst h1)
    · exact .base (.frz h1)
    · exact .kList h1 h2
  | tup h1 h2 =>
    rcases h1 with ⟨o, _, h1⟩ | ⟨o, its, n, _, h1, h2, _⟩
    · exact .fTuple h1
    · exact .kTuple h1 h2
  | exc0 => cases hn
  | exc _ _ => cases hn
def gIsT (T : String) (d : D) : Option Rs := if noDict d = true then (kitB (tyD d) T).map fun b => .val (.bool b) else none
def sIsi (T : String) (fa : Ev) : Ev := sUn (gIsT T) fa
theorem pd_isi {X : Fm} {W : WX} {e : Expr} {fa : Ev} {T : String} {Tn : Str} {p p2 pos : Pos} (hg : ∀ i, Gl (X.C i) "isinstance") (hm : ∀ i, (X.C i).mg "isinstance" = none) (hT : ∀ i, Gl (X.C i) Tn) (hmT : ∀ i, (X.C i).mg Tn = none) (hvT : bootBuiltins Tn = some (.type T)) (ha : PDs X W e fa)
    (hnT : Tn ≠ "__name__" := by decide) (hdT : (Tn == ("__debug__" : Str)) = false := by decide)
    (he : ∀ i, starEach [e, .Name Tn p2] (X.C i).env = (false, eval e (X.C i).env) :: starEach [.Name Tn p2] (X.C i).env := by exact fun _ => rfl) (he2 : ∀ i, starEach [.Name Tn p2] (X.C i).env = (false, eval (.Name Tn p2) (X.C i).env) :: starEach [] (X.C i).env := by exact fun _ => rfl)
    (hpl : ∀ i, (backTo pos (starEach [.Name Tn p2] (X.C i).env)).any (·.1) = false := by exact fun _ => rfl) (hv : bootBuiltins "isinstance" = some (.builtin "isinstance") := by decide +kernel) :
    PD X W (.Call (.Name "isinstance" p) [e, .Name Tn p2] [] pos) (sIsi T fa) := by
  obtain ⟨t, pa, ka⟩ := ha
  refine ⟨_, fun i => pe_callB (call_isi (X := X.C i)) (hg i) (hm i) hv (pa_cons (pa i) (pa_cons (pe_bltn (v := .ty T) (hT i) (hmT i) hvT rfl hnT hdT) pa_nil (hs := he2 i)) (hs := he i)) (by decide) (by decide) (he i) (hpl i) |> fun q => X.hK i ▸ q, fun F H σ e O r e' Q s h k z => ?_⟩
  refine bnd_run ka s h z fun ra e1 n1 h2 v F1 H1 O1 t1 q1 => ?_
  obtain ⟨d, hd, hgg, rfl⟩ := sUn_k (g := gIsT T) h2
  unfold gIsT at hgg
  split at hgg
  rotate_left
  · cases hgg
  rename_i hnd
  cases hk : kitB (tyD d) T with
  | none => rw [hk] at hgg; cases hgg
  | some b =>
    rw [hk] at hgg
    cases hgg
    exact ⟨v, .ty T, .type (tyD d), .type T, b, rfl, .ty T, ty_dp hnd ((vw_vw t1.sta q1 hd).dp t1.sta.ex), kit_ty hk, k _ _ _ _ t1 (.bl b)⟩

/-! ### list + list, both of the def's own making -/
def vwL : Rs → Env → Option (List D)
  | .new xs, _ => some xs
  | .val (.list xs), _ => some xs
  | .slot i, e => match e[i]? with
    | some (.own _ xs) => some xs
    | _ => none
  | _, _ => none
def sCat (fa fb : Ev) : Ev := bnd fa fun ra e1 => bnd fb (fun rb e2 => match vwL ra e2, vwL rb e2 with
  | some xs, some ys => if xs.length + ys.length ≤ 16777216 then some (.new (xs ++ ys), e2) else none
  | _, _ => none) e1
/-- as bnd_run, the result as it is -/
theorem bnd_raw {X : Fm} {W : WX} {ta : TE} {fa : Ev} {k : Rs → Env → Option (Rs × Env)} (ka : ∀ F H σ e O r e' Q, Sta X.K F H σ e O → fa e = some (r, e') → OkOut X.K F H σ e O r e' Q → ErOut X.K X.mg W F H σ e O r e' → ta σ H Q)
    {F H : Hp} {σ : L2.St} {e : Env} {O : Nat → Addr → Prop} {r : Rs} {e' : Env} {P : VK} (s : Sta X.K F H σ e O)
    (h : bnd fa k e = some (r, e')) (z : ErOut X.K X.mg W F H σ e O r e')
    (go : ∀ ra e1, (∀ x, ra ≠ .err x) → k ra e1 = some (r, e') → ∀ v F1 H1 O1, Stp X.K F H σ e O F1 H1 σ e1 O1 → RsOk X.K H F1 H1 σ e1 O1 ra v → P v H1) : ta σ H P := by
  rcases bnd_cases h with ⟨x, h1, rfl⟩ | ⟨ra, e1, h1, n1, h2⟩
  · exact ka F H σ e O _ _ _ s h1 (fun v F' H' O' t q => q.elim) z
  · exact ka F H σ e O _ _ _ s h1 (fun v F1 H1 O1 t q => go ra e1 n1 h2 v F1 H1 O1 t q) (fun x _ _ _ _ _ y => absurd y (n1 x))
theorem vwL_at {K : PySem.W.Frag} {B F H : Hp} {σ : L2.St} {e : Env} {O : Nat → Addr → Prop} {r : Rs} {v : V} {xs : List D} (s : Sta K F H σ e O) (h : RsOk K B F H σ e O r v) (q : vwL r e = some xs) : ∃ a vs, v = .ref a ∧ SqL K H a vs ∧ DpAll K F vs xs := by
  cases r with
  | new ys =>
    cases q
    obtain ⟨a, vs, rfl, h1, h2, h3, _⟩ := h
    exact ⟨a, vs, rfl, SqL.of h1, h3⟩
  | slot i =>
    unfold vwL at q
    simp only at q
    split at q
    · rename_i p ys hx
      cases q
      obtain ⟨a, vs, rfl, h1, h2, h3, h4, h5⟩ := slot_at s h hx
      exact ⟨a, vs, rfl, SqL.of h2, h4⟩
    · cases q
  | val d =>
    cases d with
    | list ds =>
      cases q
      cases h with
      | lst h1 h2 => exact ⟨_, _, rfl, Same.seq s.ex h1.s, h2⟩
    | _ => cases q
  | err x => cases q
/-- a + b of lists, which may be locked -/
def rCatQ (K : PySem.W.Frag) : R2 := fun x y H Q => ∃ a b us ws, x = .ref a ∧ y = .ref b ∧ SqL K H a us ∧ SqL K H b ws ∧ us.length + ws.length ≤ sizeLine ∧ ∀ p, H p = none → Q (.ref p) (upd H p (.lst (us ++ ws)))
theorem op_catQ {X : Cx} : OpR X (binaryOp .Add) (rCatQ X.K) := by
  rintro pins s σ H x y v u Q I rx ry ⟨a, b, us, ws, rfl, rfl, ha, hb, hz, q⟩
  cases rx
  cases ry
  obtain ⟨i1, r1, ⟨⟨c1, d1, dt1, l1⟩, n1, o1, e1, e2, e3⟩, _⟩ := I.list ha
  obtain ⟨i2, r2, ⟨⟨c2, d2, dt2, l2⟩, n2, o2, e4, e5, e6⟩, _⟩ := I.list hb
  simp only at e1 e2 e3 e4 e5 e6
  subst e1 e2 e3 e4 e5 e6
  have k1 := r1.length
  have k2 := r2.length
  refine concat_meets ⟨_, o1, rfl⟩ ⟨_, o2, rfl⟩ noFill_list_add seq_list_add PySem.F.slot_list_add PySem.F.entry_list_add (PySem.F.args_list_add_2 _ _) (list_addW a b i1.toArray i2.toArray n1 n2 none none l1 l2 (by rw [List.size_toArray, List.size_toArray]; omega)) ⟨o1, o2, ?_⟩
  rw [show i1.toArray ++ i2.toArray = (i1 ++ i2).toArray by simp]
  exact ⟨.ref _, _, I.lnew (t' := s.toks) (r1.append r2) (by rw [List.length_append]; omega), rfl, q _ I.fresh⟩
theorem pd_cat {X : Fm} {W : WX} {a b : Expr} {fa fb : Ev} {pos : Pos} (ha : PD X W a fa) (hb : PD X W b fb) : PD X W (.BinOp a .Add b pos) (sCat fa fb) := by
  obtain ⟨ta, pa, ka⟩ := ha
  obtain ⟨tb, pb, kb⟩ := hb
  refine ⟨_, fun i => pe_op (show OpR (X.C i) (binaryOp .Add) (rCatQ X.K) from X.hK i ▸ op_catQ) (pa i) (pb i), fun F H σ e O r e' Q s h k z => ?_⟩
  refine bnd_raw ka s h z fun ra e1 n1 h2 v F1 H1 O1 t1 q1 => ?_
  refine bnd_raw kb t1.sta h2 (z.later t1) fun rb e2 n2 h3 w F2 H2 O2 t2 q2 => ?_
  split at h3
  · rename_i xs ys hx hy
    split at h3
    · rename_i c
      cases h3
      have q1' : RsOk X.K H F2 H2 σ e' O2 ra v := q1.later t2 fun i p zs y _ => by
        rw [y] at hx
        unfold vwL at hx
        simp only at hx
        split at hx
        · rename_i p' ws hh; exact ⟨p', ws, hh⟩
        · cases hx
      obtain ⟨p1, us, rfl, g1, g2⟩ := vwL_at t2.sta q1' hx
      obtain ⟨p2, ws, rfl, g3, g4⟩ := vwL_at t2.sta q2 hy
      exact ⟨p1, p2, us, ws, rfl, rfl, g1, g3, by rw [dpa_len g2, dpa_len g4, sizeLine_eq]; exact c, rv_lst t2.sta.ex (OkOut.rv (t1.trans t2) k) (dpa_app g2 g4)⟩
    · cases h3
  · cases h3

/-! ### sum of a list, of a tuple -/
section
variable {prog : Program} {w : World} {A : Around} {E : Value → Shared → Prop} {s : Shared}
end
end MR

set_option Elab.async false
set_option linter.all false
set_option maxRecDepth 100000
set_option maxHeartbeats 2000000
namespace MR
open PySem PySem.Spec PyProof.Rows L2
variable [Tq]
/-! ### enumerate of a list or a tuple -/
theorem enumerate_made {v : Value} {o : Obj} {G : Heap → Prop} (B : Begins v o G) :
    Meets (Builtin.«enumerate.__new__» ⟨[.type "enumerate", v], []⟩) (fun _ R s => G s.heap ∧
      R (.ok (.ret (.ref (s.heap.push o).objs.size))) { s with heap := (s.heap.push o).push { cls := .type "enumerate", data := .fields #[.none, .bool false, .ref s.heap.objs.size, rawInt 0, .none, .none] } }) := by
  refine .of_wp fun prog w A R s h => ?_
  rcases s with ⟨hp, g, d, tk, os⟩
  rcases h with ⟨hG, h⟩
  have sub := sub_enumerate
  have it : ∀ {A' : Around} {E : Value → Shared → Prop} {Q : Value → Shared → Prop}, Q (.ref hp.objs.size) ⟨hp.push o, g, d, tk, os⟩ → wpAny (model prog w) A' (pyIter v) Q E ⟨hp, g, d, tk, os⟩ := fun q => B.iter _ _ _ _ ⟨hp, g, d, tk, os⟩ _ hG q
  wp_walk using it
  apply wpAny_stack_any
  intro st
  apply wpAny_pure
  split
  · rename_i c _ _ _ _ _
    cases (c == Value.type "enumerate") <;> (wp_walk using it; exact ⟨_, rfl, h⟩)
  · wp_walk using it
    exact ⟨_, rfl, h⟩
section
variable {prog : Program} {w : World} {A : Around} {E : Value → Shared → Prop} {s : Shared}
theorem enumerate_call {v : Value} {o : Obj} {G : Heap → Prop} {Q : Value → Shared → Prop} (B : Begins v o G) (hG : G s.heap)
    (h : ∀ h', IsEnum h' (s.heap.objs.size + 1) s.heap.objs.size 0 .none → h'.get? s.heap.objs.size = some o → (∀ b u, s.heap.get? b = some u → h'.get? b = some u) → Q (.ref (s.heap.objs.size + 1)) { s with heap := h' }) :
    wpAny (model prog w) A (call (.type "enumerate") [v]) Q E s := by
  refine callType_new F.called_enumerate (by decide) (F.typeCall_enumerate_1 _) (F.newCall_enumerate_1 _) (fun ob => F.args_object_init_2 ob _) F.entry_enumerate_new (enumerate_made B) ⟨hG, ?_⟩
  have z : (s.heap.push o).objs.size = s.heap.objs.size + 1 := Heap.size_push ..
  show _ ∧ _
  rw [z]
  have e : IsEnum ((s.heap.push o).push { cls := .type "enumerate", data := .fields #[.none, .bool false, .ref s.heap.objs.size, rawInt 0, .none, .none] }) (s.heap.objs.size + 1) s.heap.objs.size 0 .none := by
    have q := Heap.get?_push_size (s.heap.push o) (o := { cls := .type "enumerate", data := .fields #[.none, .bool false, .ref s.heap.objs.size, rawInt 0, .none, .none] }) rfl
    rw [z] at q
    exact q
  exact ⟨⟨_, e, rfl⟩, h _ e (Heap.get?_push_of_some _ (Heap.get?_push_size _ B.free)) fun b u x => Heap.get?_push_of_some _ (Heap.get?_push_of_some _ x)⟩
end
/-- the items of the tuple at a, each in a new pair with its number -/
def IteT (K : PySem.W.Frag) (a : Addr) : It :=
  ⟨fun i H => ∃ (xs : List V) (x : V), SqT K H a xs ∧ xs[i]? = some x, fun i H v H' => ∃ T x o, o.dict = none ∧ v = .ref T ∧ H T = none ∧ H' = upd H T (.frz o (.tup [.int (i : Nat), x])) ∧ ∀ xs, SqT K H a xs → xs[i]? = some x, fun i H => ∃ xs : List V, SqT K H a xs ∧ xs.length ≤ i⟩
/-- the same of a list -/
def IteL (K : PySem.W.Frag) (a : Addr) : It :=
  ⟨fun i H => ∃ (xs : List V) (x : V), SqL K H a xs ∧ xs[i]? = some x, fun i H v H' => ∃ T x o, o.dict = none ∧ v = .ref T ∧ H T = none ∧ H' = upd H T (.frz o (.tup [.int (i : Nat), x])) ∧ ∀ xs, SqL K H a xs → xs[i]? = some x, fun i H => ∃ xs : List V, SqL K H a xs ∧ xs.length ≤ i⟩
theorem Draws.item1 {prog : Program} {w : World} {A : Around} {E : Value → Shared → Prop} {s : Shared} {e it t : Addr} {i : Nat} {items : Array Value} {x old : Value} {Q : Option Value → Shared → Prop}
    (he : IsEnum s.heap e it ((i : Nat) : Int) old) (hit : s.heap.IsTupleIter it t i) (ht : s.heap.IsTuple t items) (hx : items[i]? = some x) (hne : e ≠ it) (hnt : t ≠ it) (het : e ≠ t) (hh : A.handled = none)
    (hQ : ∀ h' tk, IsEnumOut h' e it ((i : Int) + 1) x s.heap.objs.size → h'.IsTupleIter it t (i + 1) → h'.get? s.heap.objs.size = some { cls := .type "tuple", data := .seq #[.int i tk, x] } →
      (∀ b o, b ≠ e → b ≠ it → s.heap.get? b = some o → h'.get? b = some o) → Q (some (.ref s.heap.objs.size)) { s with heap := h', toks := tk + 1 }) : wpAny (model prog w) A (pyNext (.ref e)) Q E s := by
  have hi : i < items.size := (Array.getElem?_eq_some_iff.mp hx).1
  refine wpAny_pyNext_enum_itemC (Draws.tuple (A := A.in1) hh it t hnt items) he ⟨hit, ht⟩ hi hne (fun hm => ?_) fun y h' tk hP a b c d k => ?_
  · have : e = it ∨ e = t := by simpa using hm
    rcases this with z | z
    · exact hne z
    · exact het z
  · have hP : items[i]? = some y := hP
    rw [hx] at hP
    cases hP
    exact hQ h' tk a b.1 c k
theorem enum_done {prog : Program} {w : World} {A : Around} {E : Value → Shared → Prop} {s : Shared} {e it t : Addr} {i : Nat} {items : Array Value} {old : Value} {Q : Option Value → Shared → Prop}
    (he : IsEnum s.heap e it ((i : Nat) : Int) old) (hit : s.heap.IsTupleIter it t i) (ht : s.heap.IsTuple t items) (hx : items[i]? = none) (hnt : t ≠ it) (hh : A.handled = none)
    (hQ : ∀ h', Heap.ExtBut it s.heap h' → Q none { s with heap := h' }) : wpAny (model prog w) A (pyNext (.ref e)) Q E s := by
  have hT : s.TypeIs (.ref e) "enumerate" := ⟨_, he, rfl⟩
  unfold pyNext
  refine wpAny_bind (wpAny_attempt (wpAny_callSpecial?_slot (name := Str.ofString "__next__") hT F.slot_enumerate_next (wpAny_call_entry F.slot_enumerate_next hT F.entry_enumerate_next ?_ (F.args_enumerate_next_1 _))))
  show wpAny _ _ (field (.ref e) 2 >>= _) _ _ _
  refine wpAny_bind (wpAny_field he rfl (x := .ref it) rfl (wpAny_bind (wpAny_nextOf_tuple_end hh hit ht hx fun h' x eb hx' => ?_)))
  obtain ⟨o, ho, hc⟩ := hx'
  exact wpAny_bind (wpAny_isInstance (T := "StopIteration") (b := true) ⟨o, ho, hc⟩ isSubtype_stop (wpAny_pure (hQ _ eb)))
theorem turn_enumT {P : Program} {w : World} {K : PySem.W.Frag} {elts : List Expr} {kk : Nat} {tpos : Pos} (a e it : Addr) :
    Turn P w K (.Tuple elts kk tpos) (IteT K a) [e, it] e (fun i h => (∃ old, IsEnum h e it ((i : Nat) : Int) old) ∧ h.IsTupleIter it a i ∧ e ≠ it) where
  mem := List.mem_cons_self
  obj := by
    rintro i h ⟨⟨old, he⟩, ⟨o, ho, hc, hd⟩, _⟩ b hb
    have hb : b = e ∨ b = it := by simpa using hb
    rcases hb with rfl | rfl
    · exact ⟨_, he, fun v q => nomatch q⟩
    · exact ⟨o, ho, fun v q => by rw [hd] at q; cases q⟩
  keep := by
    rintro i h h' ⟨⟨old, he⟩, hi, hne⟩ k
    exact ⟨⟨old, k e List.mem_cons_self _ he⟩, hi.at fun o q => k it (by simp) o q, hne⟩
  item := by
    rintro X rfl rfl rfl hc i pins s σ H E I hf ⟨⟨old, he⟩, hit, hne⟩ ⟨xs, x, hq, hx⟩
    obtain ⟨its, rv, p, hz⟩ := I.tuple hq
    obtain ⟨u, hu, ru⟩ := rv.get hx
    have hel : e < s.heap.objs.size := Heap.lt_size he
    have hil : it < s.heap.objs.size := by obtain ⟨_, q, _⟩ := hit; exact Heap.lt_size q
    have hea : e ≠ a := by
      rintro rfl
      obtain ⟨o, q1, q2, _⟩ := p
      rw [he] at q1
      cases q1
      injection q2 with q2
      exact absurd q2 (by decide)
    have hta : a ≠ it := by
      rintro rfl
      obtain ⟨o, q1, q2, _⟩ := p
      obtain ⟨o', q3, q4, _⟩ := hit
      rw [q1] at q3
      cases q3
      rw [q2] at q4
      injection q4 with q4
      exact absurd q4 (by decide)
    refine Draws.item1 he hit (show s.heap.IsTuple a its.toArray from p) (x := u) (by simpa using hu) hne hta hea (I.ok.hd hc) fun h' tk ho hit' hT hk => ?_
    refine ⟨_, rfl, wpAny_letOwnedTupleGo_enum (s := { s with heap := h', toks := tk + 1 }) ho fun h'' he' sb => ?_⟩
    have hT2 : h''.get? s.heap.objs.size = some { cls := .type "tuple", data := .seq #[.int i tk, u] } := (sb.2 _ (Nat.ne_of_gt hel)).trans hT
    have new : ObjOk X.prog X.w (upd H s.heap.objs.size (.frz (tobj [.int i tk, u]) (.tup [.int (i : Nat), x]))) h'' s.heap.objs.size (.frz (tobj [.int i tk, u]) (.tup [.int (i : Nat), x])) :=
      ⟨hT2, Nat.le_trans (show 2 ≤ 16777216 by decide) (Nat.le_of_eq sizeLine_eq.symm), [.int i tk, u], .cons ⟨_, rfl⟩ (.cons ru .nil), ⟨_, hT2, rfl, _, rfl⟩⟩
    have J : Inv X pins σ (upd H s.heap.objs.size (.frz (tobj [.int i tk, u]) (.tup [.int (i : Nat), x]))) { s with heap := h'', toks := tk + 1 } :=
      I.turnedNew (ch := [e, it]) (fun b ob hb q => (sb.2 b (fun z => hb (by simp [z]))).trans (hk b ob (fun z => hb (by simp [z])) (fun z => hb (by simp [z])) q)) hf (Nat.le_refl _) new
    refine ⟨.ref s.heap.objs.size, _, J, rfl, ⟨_, x, tobj [.int i tk, u], rfl, rfl, I.hok.fresh (Nat.le_refl _), rfl, fun ys hy => by rw [I.tuple_inj hy hq]; exact hx⟩, ⟨⟨u, ?_⟩, hit'.at fun o q => (sb.2 it (Ne.symm hne)).trans q, hne⟩, fun b hb => ?_⟩
    · rw [show ((i + 1 : Nat) : Int) = (i : Int) + 1 by omega]
      exact he'
    · have lt : b < s.heap.objs.size := by
        have hb : b = e ∨ b = it := by simpa using hb
        rcases hb with rfl | rfl
        · exact hel
        · exact hil
      rw [upd_ne (Nat.ne_of_lt lt)]
      exact (hf b hb).1
  done := by
    rintro X rfl rfl rfl hc i pins s σ H E I hf ⟨⟨old, he⟩, hit, hne⟩ ⟨xs, hq, hx⟩
    obtain ⟨its, rv, p, hz⟩ := I.tuple hq
    have hta : a ≠ it := by
      rintro rfl
      obtain ⟨o, q1, q2, _⟩ := p
      obtain ⟨o', q3, q4, _⟩ := hit
      rw [q1] at q3
      cases q3
      rw [q2] at q4
      injection q4 with q4
      exact absurd q4 (by decide)
    obtain ⟨f0, f1, f2, f3, f4, f5⟩ := hf it (by simp)
    have hl := rv.length
    have hu : its.toArray[i]? = none := by simp; omega
    refine enum_done he hit (show s.heap.IsTuple a its.toArray from p) hu hta (I.ok.hd hc) fun h' eb => ⟨rfl, I.turned (t' := s.toks) (fun b o hb q => eb b o hb q) f0 f1 f3 f4 f5⟩
  self := by
    rintro A i s Q E ⟨⟨_, he⟩, _⟩ h
    exact wpAny_pyIter_enum he h
theorem turn_enumL {P : Program} {w : World} {K : PySem.W.Frag} {elts : List Expr} {kk : Nat} {tpos : Pos} (a e it : Addr) :
    Turn P w K (.Tuple elts kk tpos) (IteL K a) [e, it] e (fun i h => (∃ old, IsEnum h e it ((i : Nat) : Int) old) ∧ h.IsListIter it a i ∧ e ≠ it) where
  mem := List.mem_cons_self
  obj := by
    rintro i h ⟨⟨old, he⟩, ⟨o, ho, hc, hd⟩, _⟩ b hb
    have hb : b = e ∨ b = it := by simpa using hb
    rcases hb with rfl | rfl
    · exact ⟨_, he, fun v q => nomatch q⟩
    · exact ⟨o, ho, fun v q => by rw [hd] at q; cases q⟩
  keep := by
    rintro i h h' ⟨⟨old, he⟩, hi, hne⟩ k
    exact ⟨⟨old, k e List.mem_cons_self _ he⟩, hi.at fun o q => k it (by simp) o q, hne⟩
  item := by
    rintro X rfl rfl rfl hc i pins s σ H E I hf ⟨⟨old, he⟩, hit, hne⟩ ⟨xs, x, hq, hx⟩
    obtain ⟨its, rv, p, hz⟩ := I.list hq
    obtain ⟨u, hu, ru⟩ := rv.get hx
    have lo : ∀ b ∈ [e, it], b < s.heap.objs.size := by
      intro b hb
      have hb : b = e ∨ b = it := by simpa using hb
      rcases hb with rfl | rfl
      · exact Heap.lt_size he
      · obtain ⟨_, q, _⟩ := hit
        exact Heap.lt_size q
    refine wpAny_pyNext_enum_item he hit p.isList (x := u) (by simpa using hu) hne fun h' ho hit' hT hsz hk => ?_
    refine ⟨_, rfl, wpAny_letOwnedTupleGo_enum (s := { s with heap := h', toks := s.toks + 1 }) ho fun h2 he' sb => ?_⟩
    have hT2 : h2.get? s.heap.objs.size = some (tobj [.int i s.toks, u]) := (sb.2 _ (Nat.ne_of_gt (lo e (by simp)))).trans hT
    have new : ObjOk X.prog X.w (upd H s.heap.objs.size (.frz (tobj [.int i s.toks, u]) (.tup [.int (i : Nat), x]))) h2 s.heap.objs.size (.frz (tobj [.int i s.toks, u]) (.tup [.int (i : Nat), x])) :=
      ⟨hT2, Nat.le_trans (show 2 ≤ 16777216 by decide) (Nat.le_of_eq sizeLine_eq.symm), [.int i s.toks, u], .cons ⟨_, rfl⟩ (.cons ru .nil), ⟨_, hT2, rfl, _, rfl⟩⟩
    have J : Inv X pins σ (upd H s.heap.objs.size (.frz (tobj [.int i s.toks, u]) (.tup [.int (i : Nat), x]))) { s with heap := h2, toks := s.toks + 1 } :=
      I.turnedNew (ch := [e, it]) (fun b ob hb q => (sb.2 b (fun z => hb (by simp [z]))).trans (hk b ob (fun z => hb (by simp [z])) (fun z => hb (by simp [z])) q)) hf (Nat.le_refl _) new
    refine ⟨.ref s.heap.objs.size, _, J, rfl, ⟨_, x, tobj [.int i s.toks, u], rfl, rfl, I.hok.fresh (Nat.le_refl _), rfl, fun ys hy => by rw [I.list_inj hy hq]; exact hx⟩, ⟨⟨u, ?_⟩, hit'.at fun o q => (sb.2 it (Ne.symm hne)).trans q, hne⟩, fun b hb => ?_⟩
    · rw [show ((i + 1 : Nat) : Int) = (i : Int) + 1 by omega]
      exact he'
    · rw [upd_ne (Nat.ne_of_lt (lo b hb))]
      exact (hf b hb).1
  done := by
    rintro X rfl rfl rfl hc i pins s σ H E I hf ⟨⟨old, he⟩, hit, hne⟩ ⟨xs, hq, hx⟩
    obtain ⟨its, rv, p, hz⟩ := I.list hq
    obtain ⟨f0, f1, f2, f3, f4, f5⟩ := hf it (by simp)
    have hl := rv.length
    exact wpAny_pyNext_enum_end (I.ok.hd hc) he hit p.isList (by simp; omega) fun h' eb => ⟨rfl, I.turned (t' := s.toks) (fun b o hb q => eb b o hb q) f0 f1 f3 f4 f5⟩
  self := by
    rintro A i s Q E ⟨⟨_, he⟩, _⟩ h
    exact wpAny_pyIter_enum he h
/-- enumerate(e), e a list or a tuple -/
def iEnumA (K : PySem.W.Frag) (ta : TA) : TI := fun σ H R => ta σ H fun vs H1 => ∃ a, vs = [.ref a] ∧ (((∃ xs, SqL K H1 a xs) ∧ R (IteL K a) H1) ∨ ((∃ xs, SqT K H1 a xs) ∧ R (IteT K a) H1))
theorem pi_enumA {X : Cx} {e : Expr} {ta : TA} {p pos tpos : Pos} {elts : List Expr} {kk : Nat} (hg : Gl X "enumerate") (hm : X.mg "enumerate" = none) (ha : PA X [e] ta) (hs : starEach [e] X.env = [(false, eval e X.env)] := by rfl) :
    PI X (.Tuple elts kk tpos) (.Call (.Name "enumerate" p) [e] [] pos) (iEnumA X.K ta) := by
  refine ⟨fun pins s σ H R I h => Call_ (ld_blt I hg hm boot_enumerate (PyProof.Rows.callWith_type1 (thn (ha.run pos pins s σ H _ I h) ?_) hs rfl))⟩
  rintro us t ⟨vs, G, J, r, a, rfl, hq⟩
  rw [Vals.ref1 r]
  have fresh : ∀ b ∈ [t.heap.objs.size + 1, t.heap.objs.size], FpOk X pins G b := by
    intro b hb
    have le : t.heap.objs.size ≤ b := by
      have hb : b = t.heap.objs.size + 1 ∨ b = t.heap.objs.size := by simpa using hb
      rcases hb with rfl | rfl
      · exact Nat.le_succ _
      · exact Nat.le_refl _
    exact J.fpOk le (J.hok.fresh le)
  rcases hq with ⟨⟨xs, hq⟩, k⟩ | ⟨⟨xs, hq⟩, k⟩
  · obtain ⟨its, _, q, _⟩ := J.list hq
    refine enumerate_call (begins_list a its.toArray) q.isList fun h' he ho hk => wpAny_pyIter_enum he ?_
    exact ⟨_, _, _, _, G, rfl, J.kept (t' := t.toks) hk, turn_enumL a (t.heap.objs.size + 1) t.heap.objs.size, ⟨⟨_, he⟩, ⟨_, ho, rfl, rfl⟩, Nat.succ_ne_self _⟩, fresh, k⟩
  · obtain ⟨its, _, q, _⟩ := J.tuple hq
    refine enumerate_call (begins_tuple a its.toArray) (show t.heap.IsTuple a its.toArray from q) fun h' he ho hk => wpAny_pyIter_enum he ?_
    exact ⟨_, _, _, _, G, rfl, J.kept (t' := t.toks) hk, turn_enumT a (t.heap.objs.size + 1) t.heap.objs.size, ⟨⟨_, he⟩, ⟨_, ho, rfl, rfl⟩, Nat.succ_ne_self _⟩, fresh, k⟩
/-- the pairs -/
def numbered (i : Nat) : List D → List D
  | [] => []
  | d :: ds => .tuple [.int (i : Int), d] :: numbered (i + 1) ds
theorem numbered_get : ∀ {ds : List D} {i j : Nat} {d : D}, (numbered i ds)[j]? = some d → ∃ c, ds[j]? = some c ∧ d = .tuple [.int ((i + j : Nat) : Int), c]
  | [], i, j, d, h => by unfold numbered at h; simp at h
  | c :: ds, i, 0, d, h => by unfold numbered at h; cases h; exact ⟨c, rfl, rfl⟩
  | c :: ds, i, j + 1, d, h => by
    unfold numbered at h
    obtain ⟨c', h1, h2⟩ := numbered_get (ds := ds) (i := i + 1) (j := j) h
    exact ⟨c', h1, by rw [h2]; congr 3; omega⟩
theorem numbered_len : ∀ (ds : List D) (i : Nat), (numbered i ds).length = ds.length
  | [], _ => rfl
  | _ :: ds, i => by unfold numbered; rw [List.length_cons, List.length_cons, numbered_len ds]
def sEnum (fa : Ev) : Iv := fun e => match sArgs [fa] e with
  | some (.err x, e1) => some (.err x, e1)
  | some (.ok [.val (.list xs)], e1) => some (.ok (numbered 0 xs) none, e1)
  | some (.ok [.val (.tuple xs)], e1) => some (.ok (numbered 0 xs) none, e1)
  | _ => none
section
variable {K : PySem.W.Frag} {F H : Hp} {σ : L2.St} {a : Addr} {vs : List V} {ds : List D}
theorem enum_item {H' F' : Hp} {i : Nat} {d : D} {T : Addr} {v : V} {o : Obj} (ho : o.dict = none) (s : Ex F' H') (hd : DpAll K F' vs ds) (hi : (numbered 0 ds)[i]? = some d) (hT : H' T = none) (hv : vs[i]? = some v) : ∃ F'', Al F' H' F'' (upd H' T (.frz o (.tup [.int (i : Nat), v]))) ∧ Dp K F'' (.ref T) d := by
  obtain ⟨c, h1, rfl⟩ := numbered_get hi
  obtain ⟨w, h2, h3⟩ := dpa_get hd h1
  rw [hv] at h2
  cases h2
  refine ⟨_, Al.tup s hT, .tup (.inl ⟨o, ho, upd_same⟩) ?_⟩
  have u : Ex F' (upd F' T (.frz o (.tup [.int (i : Nat), v]))) := Ex.new (fresh_f s hT)
  rw [Nat.zero_add]
  exact .cons (.int _) (.cons (dp_mono u _ _ h3) .nil)
theorem it_enumL (h1 : ∀ F' H', Ex F F' → Ex F' H' → ∃ vs, SqL K H' a vs ∧ DpAll K F' vs ds) : ItOk K (IteL K a) (numbered 0 ds) F σ none := by
  intro i F' H' u s g
  obtain ⟨vs, hq, hd⟩ := h1 F' H' u s
  refine ⟨fun d hi => ?_, fun hi => ⟨vs, hq, by rw [dpa_len hd]; rw [numbered_len] at hi; exact hi⟩⟩
  obtain ⟨c, y1, _⟩ := numbered_get hi
  obtain ⟨v, e1, e2⟩ := dpa_get hd y1
  refine ⟨⟨vs, v, hq, e1⟩, fun x H'' y => ?_⟩
  obtain ⟨T, w, o, ho, rfl, hT, rfl, y⟩ := y
  have q := y vs hq
  exact enum_item ho s hd hi hT q
theorem it_enumT (h1 : ∀ F' H', Ex F F' → Ex F' H' → ∃ vs, SqT K H' a vs ∧ DpAll K F' vs ds) : ItOk K (IteT K a) (numbered 0 ds) F σ none := by
  intro i F' H' u s g
  obtain ⟨vs, hq, hd⟩ := h1 F' H' u s
  refine ⟨fun d hi => ?_, fun hi => ⟨vs, hq, by rw [dpa_len hd]; rw [numbered_len] at hi; exact hi⟩⟩
  obtain ⟨c, y1, _⟩ := numbered_get hi
  obtain ⟨v, e1, e2⟩ := dpa_get hd y1
  refine ⟨⟨vs, v, hq, e1⟩, fun x H'' y => ?_⟩
  obtain ⟨T, w, o, ho, rfl, hT, rfl, y⟩ := y
  have q := y vs hq
  exact enum_item ho s hd hi hT q
end
theorem pid_enum {X : Fm} {W : WX} {e : Expr} {fa : Ev} {p pos tpos : Pos} {elts : List Expr} {kk : Nat} (hg : ∀ i, Gl (X.C i) "enumerate") (hm : ∀ i, (X.C i).mg "enumerate" = none) (ha : PAD X W [e] [fa]) (hs : ∀ i, starEach [e] (X.C i).env = [(false, eval e (X.C i).env)] := by exact fun _ => rfl) :
    PID X W (.Tuple elts kk tpos) (.Call (.Name "enumerate" p) [e] [] pos) (sEnum fa) := by
  obtain ⟨t, pa, ka⟩ := ha
  refine ⟨iEnumA X.K t, fun i => X.hK i ▸ pi_enumA (hg i) (hm i) (pa i) (hs i), fun F H σ e O o e' R s h k z => ?_⟩
  unfold sEnum at h
  split at h
  · rename_i x e1 h1
    cases h
    exact ka F H σ e O _ _ _ s h1 (fun _ _ _ _ _ y => nomatch y) fun x' cls d F' H' O' y t w => (by cases y; exact z _ cls d F' H' O' rfl t w)
  · rename_i xs e1 h1
    cases h
    refine ka F H σ e O _ _ _ s h1 (fun rs vs F1 H1 O1 y t q => ?_) (fun _ _ _ _ _ _ y => nomatch y)
    cases y
    cases q with
    | cons q r =>
      cases r
      cases q with
      | @lst A us _ h2 h3 => exact ⟨A, rfl, .inl ⟨⟨us, Same.seq t.sta.ex h2.s⟩, k _ _ none F1 H1 O1 rfl t (it_enumL fun F' H' u s' => ⟨us, Same.seq (u.trans s') h2.s, dpa_mono u _ _ h3⟩) (fun _ y => nomatch y)⟩⟩
  · rename_i xs e1 h1
    cases h
    refine ka F H σ e O _ _ _ s h1 (fun rs vs F1 H1 O1 y t q => ?_) (fun _ _ _ _ _ _ y => nomatch y)
    cases y
    cases q with
    | cons q r =>
      cases r
      cases q with
      | @tup A us _ h2 h3 => exact ⟨A, rfl, .inr ⟨⟨us, (ex_f t.sta.ex h2).t⟩, k _ _ none F1 H1 O1 rfl t (it_enumT fun F' H' u s' => ⟨us, (ex_f (u.trans s') h2).t, dpa_mono u _ _ h3⟩) (fun _ y => nomatch y)⟩⟩
  · cases h
end MR

set_option Elab.async false
set_option linter.all false
set_option maxRecDepth 100000
set_option maxHeartbeats 2000000
namespace MR
open PySem PySem.Spec PyProof.Rows L2
variable [Tq]
/-! ### the built-ins by name, the defs by what they are -/
section
variable {X : Fm} {W : WX} {e e2 : Expr} {fs : List Ev} {p pos : Pos}
theorem pd_len (hg : ∀ i, Gl (X.C i) "len") (hm : ∀ i, (X.C i).mg "len" = none) (ha : PAD X W [e] fs) (he : ∀ i, starEach [e] (X.C i).env = (false, eval e (X.C i).env) :: starEach [] (X.C i).env := by exact fun _ => rfl) (hpl : ∀ i, (backTo pos (starEach [] (X.C i).env)).any (·.1) = false := by exact fun _ => rfl) : PD X W (.Call (.Name "len" p) [e] [] pos) (sFn gLen fs) :=
  pd_callB (R := fun xs H Q => ∃ x n, xs = [x] ∧ LenV X.K x H n ∧ Q (.int n) H) (fun i => X.hK i ▸ call_len) fg_len hg hm (by decide +kernel) ha (by decide) (by decide) he hpl
theorem pd_abs (hg : ∀ i, Gl (X.C i) "abs") (hm : ∀ i, (X.C i).mg "abs" = none) (ha : PAD X W [e] fs) (he : ∀ i, starEach [e] (X.C i).env = (false, eval e (X.C i).env) :: starEach [] (X.C i).env := by exact fun _ => rfl) (hpl : ∀ i, (backTo pos (starEach [] (X.C i).env)).any (·.1) = false := by exact fun _ => rfl) : PD X W (.Call (.Name "abs" p) [e] [] pos) (sFn gAbs fs) :=
  pd_callB (fun i => call_abs) fg_abs hg hm (by decide +kernel) ha (by decide) (by decide) he hpl
theorem pd_tupleOf (hg : ∀ i, Gl (X.C i) "tuple") (hm : ∀ i, (X.C i).mg "tuple" = none) (ha : PAD X W [e] fs) (he : ∀ i, starEach [e] (X.C i).env = (false, eval e (X.C i).env) :: starEach [] (X.C i).env := by exact fun _ => rfl) (hpl : ∀ i, (backTo pos (starEach [] (X.C i).env)).any (·.1) = false := by exact fun _ => rfl) : PD X W (.Call (.Name "tuple" p) [e] [] pos) (sFn gTuple fs) :=
  pd_callTy (R := rTupOf X.K) (fun i => X.hK i ▸ cr_tupOf) fg_tuple hg hm (by decide +kernel) ha (by decide) (by decide) he hpl
theorem pd_listOf (hg : ∀ i, Gl (X.C i) "list") (hm : ∀ i, (X.C i).mg "list" = none) (ha : PAD X W [e] fs) (he : ∀ i, starEach [e] (X.C i).env = (false, eval e (X.C i).env) :: starEach [] (X.C i).env := by exact fun _ => rfl) (hpl : ∀ i, (backTo pos (starEach [] (X.C i).env)).any (·.1) = false := by exact fun _ => rfl) : PD X W (.Call (.Name "list" p) [e] [] pos) (sFn gList fs) :=
  pd_callTy (R := fun xs H Q => ∃ p ys, xs = [.ref p] ∧ (SqL X.K H p ys ∨ SqT X.K H p ys) ∧ ∀ l, H l = none → Q (.ref l) (upd H l (.lst ys))) (fun i => X.hK i ▸ call_list_of) fg_list hg hm (by decide +kernel) ha (by decide) (by decide) he hpl
theorem pd_gcd (hg : ∀ i, Gl (X.C i) "gcd") (hm : ∀ i, (X.C i).mg "gcd" = some (.builtin "math.gcd")) (ha : PAD X W [e, e2] fs) (he : ∀ i, starEach [e, e2] (X.C i).env = (false, eval e (X.C i).env) :: starEach [e2] (X.C i).env := by exact fun _ => rfl) (hpl : ∀ i, (backTo pos (starEach [e2] (X.C i).env)).any (·.1) = false := by exact fun _ => rfl) : PD X W (.Call (.Name "gcd" p) [e, e2] [] pos) (sFn gGcd fs) :=
  pd_callM (fun i => cr_gcd) fg_gcd hg hm ha (by decide) he hpl
end
/-! operators -/
section
variable {X : Fm} {W : WX} {a b : Expr} {fa fb : Ev} {pos : Pos}
theorem pd_add (ha : PDs X W a fa) (hb : PDs X W b fb) : PD X W (.BinOp a .Add b pos) (sOp gAdd fa fb) := pd_bin (R := fun x y H Q => rI0 (fun i j => .int (i + j)) x y H Q ∨ rCatF X.K x y H Q) (fun i => X.hK i ▸ op_addA) og_add ha hb
theorem pd_sub (ha : PDs X W a fa) (hb : PDs X W b fb) : PD X W (.BinOp a .Sub b pos) (sOp gSub fa fb) := pd_bin (fun i => op_sub) og_sub ha hb
theorem pd_mul (ha : PDs X W a fa) (hb : PDs X W b fb) : PD X W (.BinOp a .Mult b pos) (sOp gMul fa fb) := pd_bin (fun i => op_mul) og_mul ha hb
theorem pd_div (ha : PDs X W a fa) (hb : PDs X W b fb) : PD X W (.BinOp a .FloorDiv b pos) (sOp gDiv fa fb) := pd_bin (fun i => op_fdivW) og_div ha hb
theorem pd_mod (ha : PDs X W a fa) (hb : PDs X W b fb) : PD X W (.BinOp a .Mod b pos) (sOp gMod fa fb) := pd_bin (fun i => op_mod) og_mod ha hb
theorem pd_pow (ha : PDs X W a fa) (hb : PDs X W b fb) : PD X W (.BinOp a .Pow b pos) (sOp gPow fa fb) := pd_bin (fun i => op_pow) og_pow ha hb
theorem pd_neg (ha : PDs X W a fa) : PD X W (.UnaryOp .USub a pos) (sUn gNeg fa) := pd_un (fun i => un_neg) ug_neg ha
theorem td_lt (ha : PDs X W a fa) (hb : PDs X W b fb) : TD X W (.Compare a [.Lt] [b] pos) (sOp gLt fa fb) := td_cmp (fun i => op_lt) og_lt ha hb (nomark _)
theorem td_gt (ha : PDs X W a fa) (hb : PDs X W b fb) : TD X W (.Compare a [.Gt] [b] pos) (sOp gGt fa fb) := td_cmp (fun i => op_gt) og_gt ha hb (nomark _)
theorem td_ge (ha : PDs X W a fa) (hb : PDs X W b fb) : TD X W (.Compare a [.GtE] [b] pos) (sOp gGe fa fb) := td_cmp (fun i => op_ge) og_ge ha hb (nomark _)
/-- room for a comparison of data -/
def EqRoom (X : Fm) : Prop := ∀ i, (X.C i).A.units + 64 < cLine
theorem td_eq (hu : EqRoom X) (ha : PDs X W a fa) (hb : PDs X W b fb) : TD X W (.Compare a [.Eq] [b] pos) (sOp gEq fa fb) := td_cmp (R := rEqD X.K) (fun i => X.hK i ▸ op_eqD (hu i)) og_eq ha hb (nomark _)
theorem td_ne (hu : EqRoom X) (ha : PDs X W a fa) (hb : PDs X W b fb) : TD X W (.Compare a [.NotEq] [b] pos) (sOp gNe fa fb) := td_cmp (R := rNeD X.K) (fun i => X.hK i ▸ op_neD (hu i)) og_ne ha hb (nomark _)
theorem td_isnot (ha : PDs X W a fa) (hb : PDs X W b fb) : TD X W (.Compare a [.IsNot] [b] pos) (sOp gNotN fa fb) := td_cmp (fun i => op_notN) og_notN ha hb (nomark _)
theorem td_in (ha : PDs X W a fa) (hb : PDs X W b fb) (hm : behindInMarks .In b = false := by rfl) : TD X W (.Compare a [.In] [b] pos) (sOp (gInF false) fa fb) := td_cmp (R := rIn X.K false) (fun i => X.hK i ▸ op_in_seq) og_inF ha hb hm
/-- a written tuple times an int -/
def gRepT : D → D → Option Rs
  | .tuple a, .int k => if a ≠ [] ∧ 0 ≤ k ∧ k ≤ 1000 ∧ a.length ≤ 1000 then some (.val (.tuple (List.replicate k.toNat a).flatten)) else none
  | _, _ => none
theorem og_repT {K : PySem.W.Frag} : OpG K (rRepF K) gRepT := by
  intro F H x y da db z Q s hx hy hg k
  unfold gRepT at hg
  split at hg
  · rename_i a n
    split at hg
    · rename_i c
      cases hg
      cases hy
      cases hx with
      | @tup A us _ h1 h2 =>
        have l := dpa_len h2
        have rep : ∀ m, DpAll K F (List.replicate m us).flatten (List.replicate m a).flatten := by
          intro m
          induction m with
          | zero => exact .nil
          | succ m ih =>
            rw [List.replicate_succ, List.replicate_succ, List.flatten_cons, List.flatten_cons]
            exact dpa_app h2 ih
        refine ⟨A, n, us, rfl, rfl, (ex_f s h1).t, fun e => c.1 ?_, c.2.1, c.2.2.1, by omega, fun e => rv_val s k ?_, fun _ => rv_tup s k (rep _)⟩
        · subst e
          cases h2
          rfl
        · subst e
          have e1 : (List.replicate (1 : Int).toNat a).flatten = a := by simp
          rw [e1]
          exact .tup h1 h2
    · cases hg
  · cases hg
theorem pd_repT (ha : PDs X W a fa) (hb : PDs X W b fb) : PD X W (.BinOp a .Mult b pos) (sOp gRepT fa fb) := pd_bin (R := rRepF X.K) (fun i => X.hK i ▸ op_repF) og_repT ha hb
end
/-! ### a def of the text -/
structure DefOk (P : Program) (w : World) (K : PySem.W.Frag) (mg : Str → Option Value) (base : Heap) (k : Nat) (x : Str) (n : Nat) (φ : FnSem) : Prop where
  ex : ∃ f fd ps, mg x = some (.ref f) ∧ PySem.W.keepIn K (.ref f) = true ∧ Binds K fd ps [] ∧ FnOk P w K mg base (L2.CX P w) k f fd ps (spOf K mg n φ)
theorem DefOk.mono {P : Program} {w : World} {K : PySem.W.Frag} {mg : Str → Option Value} {base : Heap} {j k : Nat} {x : Str} {n : Nat} {φ : FnSem} (h : DefOk P w K mg base j x n φ) (hk : j ≤ k) : DefOk P w K mg base k x n φ := by
  obtain ⟨f, fd, ps, h1, h2, h3, h4⟩ := h.ex
  exact ⟨⟨f, fd, ps, h1, h2, h3, h4.mono hk⟩⟩
section
variable {P : Program} {w : World} {K : PySem.W.Frag} {mg : Str → Option Value} {base : Heap}
/-- the contexts speak of this text -/
structure Of (X : Fm) (P : Program) (w : World) (K : PySem.W.Frag) (mg : Str → Option Value) (base : Heap) : Prop where
  p : ∀ i, (X.C i).prog = P
  w : ∀ i, (X.C i).w = w
  k : X.K = K
  m : X.mg = mg
  b : ∀ i, (X.C i).base = base
theorem pd_callD {X : Fm} {W : WX} {x : Str} {ex : Expr} {es : List Expr} {fs : List Ev} {p pos : Pos} {φ : FnSem} {n k : Nat} (D : DefOk P w K mg base k x n φ) (hX : Of X P w K mg base) (hn : fs.length = n) (hr : ∀ i, Room k (X.C i).A) (hg : ∀ i, Gl (X.C i) x) (tk : ∀ i, Takes (X.C i) W) (ha : PAD X W (ex :: es) fs)
    (hdb : (x == ("__debug__" : Str)) = false := by decide) (he : ∀ i, starEach (ex :: es) (X.C i).env = (false, eval ex (X.C i).env) :: starEach es (X.C i).env := by exact fun _ => rfl) (hpl : ∀ i, (backTo pos (starEach es (X.C i).env)).any (·.1) = false := by exact fun _ => rfl) :
    PD X W (.Call (.Name x p) (ex :: es) [] pos) (sCall φ fs) := by
  obtain ⟨f, fd, ps, h1, h2, h3, h4⟩ := D.ex
  refine pd_call hn (f := f) (fd := fd) (ps := ps) (k := k) (fun i => ?_) hr hg (fun i => ?_) (fun i => ?_) (fun i => ?_) tk ha hdb he hpl
  · rw [hX.p i, hX.w i, X.hK i, X.hM i, hX.b i, hX.k, hX.m]
    exact h4
  · rw [X.hM i, hX.m]
    exact h1
  · rw [X.hK i, hX.k]
    exact h2
  · rw [X.hK i, hX.k]
    exact h3
/-- a def of the text, from its body -/
theorem def_ok {x : Str} {st : Stmt} {f : Addr} {fd : FuncData} {N ps : List Str} {k n : Nat} {body : Stm} (Fu : Fun K x x st f fd) (g : mg x = some (.ref f)) (b : Binds K fd ps []) (S : FnScope N ps (defScope st)) (hps : ps.length ≤ N.length) (hn : ps.length = n)
    (hb : ∀ (cdv : Value) (A : Around) (outer : List PySem.Env) (s : Shared) (H : Hp) (E : XK), Room k (A.deeper (envOfC x (defScope st) s.heap.objs.size f cdv)) →
      SDs (Fm.one (cxOf (L2.CX P w) P w K mg base N x (defScope st) f cdv A outer s H E)) (fun cls d _ H => E cls d H) (defBody st) body) :
    DefOk P w K mg base (k + 1) x n (sDef N.length body) := by
  subst hn
  exact ⟨⟨f, fd, ps, g, Fu.kp, b, fn_ok Fu S hps hb⟩⟩
end
/-- the tables aside -/
def noT (H : Hp) : Hp := fun b => match H b with
  | some (.tbl _) => none
  | o => o
theorem noT_at {H : Hp} {b : Addr} {u : HO} (h : H b = some u) (n : ∀ ps, u ≠ .tbl ps) : noT H b = some u := by
  unfold noT
  rw [h]
  cases u with
  | tbl ps => exact absurd rfl (n ps)
  | _ => rfl
theorem noT_ex (H : Hp) : Same (noT H) H := fun b u h => by
  unfold noT at h
  split at h
  · cases h
  · exact h
theorem noT_tbl {H : Hp} {b : Addr} {ps : Array Value} (h : noT H b = some (.tbl ps)) : False := by
  unfold noT at h
  split at h
  · cases h
  · rename_i n
    exact n _ h
theorem noT_sq {K : PySem.W.Frag} {H : Hp} {a : Addr} {xs : List V} (h : SqL K H a xs) : SqL K (noT H) a xs := by
  rcases h with h | h
  · rcases h with h | ⟨o, h⟩
    · exact .inl (.inl (noT_at h nofun))
    · exact .inl (.inr ⟨o, noT_at h nofun⟩)
  · exact .inr h
/-- the law's promise from what it is -/
def spLaw (K : PySem.W.Frag) : Sp := fun vs H Q _ => ∃ (a : Addr) (ns : List Int), vs = [.ref a] ∧ SqL K H a (ns.map V.int) ∧ ns.length ≤ 63 ∧ (∀ P, Tq.dom P → LamX.TabS H P (Tq.q P)) ∧ Tq.scr ∧ ∀ H', Q (.bl true) H'
theorem law_sp {K : PySem.W.Frag} {mg : Str → Option Value} {φ : FnSem} (h : ∀ ns : List Int, ns.length ≤ 63 → ∃ outs, φ [.val (.list (ns.map PyData.int))] = some (.val (.bool true), outs)) (vs : List V) (H : Hp) (Q : VK) (E : XK) (hs : spLaw K vs H Q E) : spOf K mg 1 φ vs H Q E := by
  obtain ⟨a, ns, rfl, hS, hl, htab, hscr, q⟩ := hs
  obtain ⟨outs, ho⟩ := h ns hl
  refine ⟨noT H, [.val (.list (ns.map PyData.int))], fun _ _ => False, _, outs, rfl, ⟨noT_ex H, rfl, fun i s z => ?_, fun i a z => z.elim, fun i j a z => z.elim, ⟨htab, fun b ps h => noT_tbl h⟩⟩, fun s hm => ?_, ho, fun v F' H' O' t rv => ?_, fun x cls d F' H' O' z => nomatch z⟩
  · cases i with
    | zero => cases z; exact ⟨_, rfl, ⟨_, rfl, .lst ⟨noT_sq hS, .inl hscr⟩ (ints_dpa ns)⟩, fun _ z => z⟩
    | succ i => simp at z
  · rw [List.mem_singleton.mp hm]
    exact .inl ⟨_, rfl⟩
  · cases rv
    exact q H'
end MR

set_option Elab.async false
set_option linter.all false
set_option maxRecDepth 100000
set_option maxHeartbeats 2000000
namespace MR
open PySem PySem.Spec PyProof.Rows L2
variable [Tq]

/-! ### reckoning with the functions -/
theorem sVar_val {i : Nat} {e : Env} {d : D} (h : e[i]? = some (.val d)) : sVar i e = some (.val d, e) := by unfold sVar; rw [h]
theorem sVar_own {i : Nat} {e : Env} {p : Bool} {xs : List D} (h : e[i]? = some (.own p xs)) : sVar i e = some (.slot i, e) := by unfold sVar; rw [h]
theorem bnd_ok {fa : Ev} {k : Rs → Env → Option (Rs × Env)} {e e1 : Env} {r : Rs} (h : fa e = some (r, e1)) (hn : ∀ x, r ≠ .err x) : bnd fa k e = k r e1 := by
  unfold bnd
  rw [h]
  cases r with
  | err x => exact absurd rfl (hn x)
  | _ => rfl
theorem bnd_val {fa : Ev} {k : Rs → Env → Option (Rs × Env)} {e e1 : Env} {d : D} (h : fa e = some (.val d, e1)) : bnd fa k e = k (.val d) e1 := by unfold bnd; rw [h]
theorem sOp_ok {g : D → D → Option Rs} {fa fb : Ev} {e e1 e2 : Env} {da db : D} (ha : fa e = some (.val da, e1)) (hb : fb e1 = some (.val db, e2)) : sOp g fa fb e = (g da db).map fun r => (r, e2) := by
  unfold sOp
  rw [ha]
  simp only
  rw [hb]
  rfl
theorem seq_nx {f g : Stm} {e e1 : Env} (h : f e = some (.nx, e1)) : sSeq f g e = g e1 := by unfold sSeq; rw [h]
theorem if_f {fc : Ev} {f g : Stm} {e e1 : Env} (h : fc e = some (.val (.bool false), e1)) : sIf fc f g e = g e1 := by unfold sIf; rw [h]; rfl

/-- a comprehension that reckons each item by itself -/
theorem lcL_map {c : Env → Bool} {g : Tgt} {ft fe : Ev} {vs : List Nat} {e : Env} {Fn : D → D} (hc : c e = true) :
    ∀ {items acc : List D}, (∀ d ∈ items, ∃ e1 e2 r e3 e4, g d e = some e1 ∧ ft e1 = some (.val (.bool true), e2) ∧ fe e2 = some (r, e3) ∧ (∀ x, r ≠ .err x) ∧ tk r e3 = some (Fn d, e4) ∧ noOwn e4 vs = true ∧ wipeE e4 vs = e) →
      lcL c g ft fe vs items e acc = some (acc ++ items.map Fn, e)
  | [], acc, _ => by unfold lcL; rw [if_pos hc, List.map_nil, List.append_nil]
  | d :: ds, acc, ht => by
    obtain ⟨e1, e2, r, e3, e4, h1, h2, h3, h4, h5, h6, h7⟩ := ht d List.mem_cons_self
    have ih := lcL_map (c := c) (g := g) (ft := ft) (fe := fe) (vs := vs) (e := e) hc (items := ds) (acc := acc ++ [Fn d]) (fun d hd => ht d (List.mem_cons_of_mem _ hd))
    unfold lcL
    rw [if_pos hc, h1]
    simp only
    rw [h2]
    simp only
    rw [h3]
    cases r with
    | err x => exact absurd rfl (h4 x)
    | _ =>
      simp only
      rw [h5]
      simp only
      rw [if_pos h6, h7, ih, List.map_cons, List.append_assoc]
      rfl
/-- a comprehension with a test -/
theorem lcL_filter {c : Env → Bool} {g : Tgt} {ft fe : Ev} {vs : List Nat} {e : Env} {Fn : D → D} {B : D → Bool} (hc : c e = true) :
    ∀ {items acc : List D}, (∀ d ∈ items, ∃ e1 e2, g d e = some e1 ∧ ft e1 = some (.val (.bool (B d)), e2) ∧ (B d = false → noOwn e2 vs = true ∧ wipeE e2 vs = e) ∧ (B d = true → ∃ r e3 e4, fe e2 = some (r, e3) ∧ (∀ x, r ≠ .err x) ∧ tk r e3 = some (Fn d, e4) ∧ noOwn e4 vs = true ∧ wipeE e4 vs = e)) →
      lcL c g ft fe vs items e acc = some (acc ++ (items.filter B).map Fn, e)
  | [], acc, _ => by unfold lcL; rw [if_pos hc, List.filter_nil, List.map_nil, List.append_nil]
  | d :: ds, acc, ht => by
    obtain ⟨e1, e2, h1, h2, h3, h4⟩ := ht d List.mem_cons_self
    have ih := fun a => lcL_filter (c := c) (g := g) (ft := ft) (fe := fe) (vs := vs) (e := e) (B := B) (Fn := Fn) hc (items := ds) (acc := a) (fun d hd => ht d (List.mem_cons_of_mem _ hd))
    unfold lcL
    rw [if_pos hc, h1]
    simp only
    rw [h2]
    cases hB : B d with
    | false =>
      obtain ⟨q1, q2⟩ := h3 hB
      simp only
      rw [if_pos q1, q2, ih, List.filter_cons, hB]
      rfl
    | true =>
      obtain ⟨r, e3, e4, q1, q2, q3, q4, q5⟩ := h4 hB
      simp only
      rw [q1]
      cases r with
      | err x => exact absurd rfl (q2 x)
      | _ =>
        simp only
        rw [q3]
        simp only
        rw [if_pos q4, q5, ih, List.filter_cons, hB, if_pos rfl, List.map_cons, List.append_assoc]
        rfl
/-- a loop that keeps I -/
theorem forL_ind {g : Tgt} {c : Env → Bool} {b : Stm} {I : List D → Env → Prop} :
    ∀ {items : List D} {e : Env}, (∀ d ds e, I (d :: ds) e → ∃ e1 e2, g d e = some e1 ∧ b e1 = some (.nx, e2) ∧ c e2 = true ∧ I ds e2) → I items e → ∃ e', forL g c b items e = some (.nx, e') ∧ I [] e'
  | [], e, _, hi => ⟨e, by unfold forL; rfl, hi⟩
  | d :: ds, e, ht, hi => by
    obtain ⟨e1, e2, h1, h2, h3, h4⟩ := ht d ds e hi
    obtain ⟨e', q1, q2⟩ := forL_ind (items := ds) (e := e2) ht h4
    refine ⟨e', ?_, q2⟩
    unfold forL
    rw [h1]
    simp only
    rw [h2]
    simp only
    rw [if_pos h3, q1]
/-- a while that goes on while t stands, by a state and a number that falls -/
theorem while_ind {fc : Ev} {b : Stm} {α : Type} {I : α → Env → Prop} {m : α → Nat} {R : Env → Prop}
    (ht : ∀ a e, I a e → ∃ t e1, fc e = some (.val (.bool t), e1) ∧ (t = false → R e1) ∧ (t = true → ∃ a' e2, b e1 = some (.nx, e2) ∧ I a' e2 ∧ m a' < m a)) :
    ∀ (n : Nat) (a : α) (e : Env), m a < n → I a e → ∃ e', whileN fc b n e = some (.nx, e') ∧ R e'
  | 0, a, e, h, _ => absurd h (Nat.not_lt_zero _)
  | n + 1, a, e, h, hi => by
    obtain ⟨t, e1, h1, h2, h3⟩ := ht a e hi
    unfold whileN
    rw [h1]
    cases t with
    | false => exact ⟨e1, rfl, h2 rfl⟩
    | true =>
      obtain ⟨a', e2, q1, q2, q3⟩ := h3 rfl
      simp only
      rw [q1]
      exact while_ind ht n a' e2 (by omega) q2
theorem sWhile_ind {fc : Ev} {b : Stm} {α : Type} {I : α → Env → Prop} (m : α → Nat) {R : Env → Prop}
    (ht : ∀ a e, I a e → ∃ t e1, fc e = some (.val (.bool t), e1) ∧ (t = false → R e1) ∧ (t = true → ∃ a' e2, b e1 = some (.nx, e2) ∧ I a' e2 ∧ m a' < m a)) {a : α} {e : Env} (hi : I a e) : ∃ e', sWhile fc b e = some (.nx, e') ∧ R e' := by
  obtain ⟨e', h1, h2⟩ := while_ind (m := m) ht (m a + 1) a e (Nat.lt_succ_self _) hi
  exact ⟨e', sWhile_of h1, h2⟩
end MR

set_option Elab.async false
set_option linter.all false
set_option maxRecDepth 100000
set_option maxHeartbeats 2000000
namespace MR
open PySem PySem.Spec PyProof.Rows L2
variable [Tq]

/-! ### arguments, and more of them -/
def Rds (X : Fm) (W : WX) (t : TA) (fs : List Ev) : Prop := ∀ F H σ e O a e' (Q : List V → Hp → Prop), Sta X.K F H σ e O → sArgs fs e = some (a, e') →
    (∀ rs vs F' H' O', a = .ok rs → Stp X.K F H σ e O F' H' σ e' O' → RsAll X.K H F' H' σ e' O' rs vs → Q vs H') →
    (∀ x cls d F' H' O', a = .err x → Stp X.K F H σ e O F' H' σ e' O' → ErOk X.K X.mg F' H' x cls d → W cls d σ H') → t σ H Q
/-- reckoned without a trace: names and constants -/
def Still (gs : List Ev) : Prop := ∀ e a e', sArgs gs e = some (a, e') → e' = e ∧ ∃ rs, a = .ok rs
theorem sArgs_app {gs : List Ev} (hg : Still gs) : ∀ {fs : List Ev} {e : Env} {a : ARes} {e' : Env}, sArgs (fs ++ gs) e = some (a, e') →
    (∃ x, a = .err x ∧ sArgs fs e = some (.err x, e')) ∨ ∃ rs rs2, a = .ok (rs ++ rs2) ∧ sArgs fs e = some (.ok rs, e') ∧ sArgs gs e' = some (.ok rs2, e')
  | [], e, a, e', h => by
    rw [List.nil_append] at h
    obtain ⟨rfl, rs, rfl⟩ := hg _ _ _ h
    exact .inr ⟨[], rs, rfl, rfl, h⟩
  | f :: fs, e, a, e', h => by
    rw [List.cons_append] at h
    rcases sArgs_cons h with ⟨x, h1, rfl⟩ | ⟨r, e1, h1, hn, h2⟩
    · refine .inl ⟨x, rfl, ?_⟩
      unfold sArgs
      rw [h1]
    · have st : ∀ {b}, sArgs fs e1 = some (b, e') → sArgs (f :: fs) e = match b with
          | .err x => some (.err x, e')
          | .ok rs => if slotOk (settle r) e' = true then some (.ok (settle r :: rs), e') else none := fun {b} hb => by
        conv => lhs; unfold sArgs
        rw [h1]
        cases r with
        | err x => exact absurd rfl (hn x)
        | _ =>
          simp only
          rw [hb]
          cases b <;> rfl
      rcases h2 with ⟨x, h3, rfl⟩ | ⟨rs, h3, c, rfl⟩
      · rcases sArgs_app hg h3 with ⟨x', y, h4⟩ | ⟨_, _, y, _⟩
        · cases y
          exact .inl ⟨x, rfl, st h4⟩
        · cases y
      · rcases sArgs_app hg h3 with ⟨x', y, h4⟩ | ⟨rs1, rs2, y, h4, h5⟩
        · cases y
        · cases y
          refine .inr ⟨settle r :: rs1, rs2, rfl, (st h4).trans ?_, h5⟩
          exact if_pos c
theorem rsAll_app {K : PySem.W.Frag} {B F H : Hp} {σ : L2.St} {e : Env} {O : Nat → Addr → Prop} : ∀ {rs rs2 : List Rs} {vs vs2 : List V}, RsAll K B F H σ e O rs vs → RsAll K B F H σ e O rs2 vs2 → RsAll K B F H σ e O (rs ++ rs2) (vs ++ vs2)
  | _, _, _, _, .nil, h => h
  | _, _, _, _, .cons a t, h => .cons a (rsAll_app t h)
theorem sArgs_c : ∀ {dds : List D} {e : Env} {a : ARes} {e' : Env}, sArgs (dds.map sC) e = some (a, e') → e' = e ∧ a = .ok (dds.map Rs.val)
  | [], e, a, e', h => by cases h; exact ⟨rfl, rfl⟩
  | d :: ds, e, a, e', h => by
    rw [List.map_cons] at h
    rcases sArgs_cons h with ⟨x, h1, _⟩ | ⟨r, e1, h1, hn, h2⟩
    · cases h1
    · cases h1
      rcases h2 with ⟨x, h3, _⟩ | ⟨rs, h3, c, rfl⟩
      · obtain ⟨_, y⟩ := sArgs_c h3; cases y
      · obtain ⟨rfl, y⟩ := sArgs_c h3
        cases y
        exact ⟨rfl, rfl⟩
theorem still_cs (dds : List D) : Still (dds.map sC) := fun e a e' h => ⟨(sArgs_c h).1, _, (sArgs_c h).2⟩
theorem rsAll_c {K : PySem.W.Frag} {B F H : Hp} {σ : L2.St} {e : Env} {O : Nat → Addr → Prop} : ∀ {dds : List D} {dvs : List V}, DpAll K F dvs dds → RsAll K B F H σ e O (dds.map Rs.val) dvs
  | _, _, .nil => .nil
  | _, _, .cons a t => .cons a (rsAll_c t)
theorem rds_dfl {X : Fm} {W : WX} {t : TA} {fs : List Ev} {dds : List D} {dvs : List V} (h1 : Rds X W t fs) (h : ∀ F, DpAll X.K F dvs dds) : Rds X W (fun σ H Q => t σ H fun vs H1 => Q (vs ++ dvs) H1) (fs ++ dds.map sC) := by
  intro F H σ e O a e' Q s q k z
  rcases sArgs_app (still_cs dds) q with ⟨x, rfl, q1⟩ | ⟨rs, rs2, rfl, q1, q2⟩
  · exact h1 F H σ e O _ _ _ s q1 (fun _ _ _ _ _ y => nomatch y) fun x' cls d F' H' O' y t w => z x' cls d F' H' O' y t w
  · refine h1 F H σ e O _ _ _ s q1 (fun rs' vs F1 H1 O1 y t1 r1 => ?_) (fun _ _ _ _ _ _ y => nomatch y)
    cases y
    have y2 := (sArgs_c q2).2
    cases y2
    exact k _ _ F1 H1 O1 rfl t1 (rsAll_app r1 (rsAll_c (h F1)))

/-! ### the model's call with keywords, what leaves it told upon the caller's slots -/
section
variable {X : Cx} {C : CXT} {k n : Nat} {f : Addr} {fd : FuncData} {ps ks : List Str} {sp : Sp} {E : L2.St → XK} {x : Str} {p pos : Pos} {e : Expr} {es : List Expr} {kws : List Keyword} {t tk : TA} {g : List Value → List Value → List Value} {gV : List V → List V → List V}
end

/-! ### a def whose last parameters stand behind a star, with defaults -/
structure DefOkK (P : Program) (w : World) (K : PySem.W.Frag) (mg : Str → Option Value) (base : Heap) (k : Nat) (x : Str) (m : Nat) (ks : List Str) (dds : List D) (φ : FnSem) : Prop where
  ex : ∃ f fd ps ds dvs, mg x = some (.ref f) ∧ PySem.W.keepIn K (.ref f) = true ∧ Binds K fd ps ds ∧ Vals dvs ds ∧ (∀ F, DpAll K F dvs dds) ∧ KBn K fd ps m ks (fun us ws => us ++ ws) (fun vs zs => vs ++ zs) ∧ FnOk P w K mg base (L2.CX P w) k f fd ps (spOf K mg (m + ks.length) φ)
  len : dds.length = ks.length
theorem DefOkK.mono {P : Program} {w : World} {K : PySem.W.Frag} {mg : Str → Option Value} {base : Heap} {j k m : Nat} {x : Str} {ks : List Str} {dds : List D} {φ : FnSem} (h : DefOkK P w K mg base j x m ks dds φ) (hk : j ≤ k) : DefOkK P w K mg base k x m ks dds φ := by
  obtain ⟨⟨f, fd, ps, ds, dvs, h1, h2, h3, h4, h5, h6, h7⟩, l⟩ := h
  exact ⟨⟨f, fd, ps, ds, dvs, h1, h2, h3, h4, h5, h6, h7.mono hk⟩, l⟩
section
variable {P : Program} {w : World} {K : PySem.W.Frag} {mg : Str → Option Value} {base : Heap} {X : Fm} {W : WX} {x : Str} {ex : Expr} {es : List Expr} {fs gs : List Ev} {p pos : Pos} {φ : FnSem} {m k : Nat} {ks : List Str} {dds : List D}
/-- f(..): the defaults fill up -/
theorem pd_callF (Dk : DefOkK P w K mg base k x m ks dds φ) (hX : Of X P w K mg base) (hn : fs.length = m) (hr : ∀ i, Room k (X.C i).A) (hg : ∀ i, Gl (X.C i) x) (tk : ∀ i, Takes (X.C i) W) (ha : PAD X W (ex :: es) fs)
    (hdb : (x == ("__debug__" : Str)) = false := by decide) (he : ∀ i, starEach (ex :: es) (X.C i).env = (false, eval ex (X.C i).env) :: starEach es (X.C i).env := by exact fun _ => rfl) (hpl : ∀ i, (backTo pos (starEach es (X.C i).env)).any (·.1) = false := by exact fun _ => rfl) :
    PD X W (.Call (.Name x p) (ex :: es) [] pos) (sCall φ (fs ++ dds.map sC)) := by
  obtain ⟨⟨f, fd, ps, ds, dvs, h1, h2, h3, h4, h5, h6, h7⟩, hl⟩ := Dk
  obtain ⟨t, pa, ka⟩ := ha
  have eK := hX.k
  have em := hX.m
  subst eK
  subst em
  refine ⟨tCallSD (spOf X.K X.mg (m + ks.length) φ) dvs (WE W) t, fun i => ?_, fun F H σ e O r e' Q s h kk z => ?_⟩
  · refine pe_callSD (k := k) (f := f) (fd := fd) (ps := ps) (ds := ds) ?_ (hr i) (hg i) ?_ ?_ ?_ h4 (fun σ => passAt (tk i) σ) (pa i) hdb (he i) (hpl i)
    · rw [hX.p i, hX.w i, X.hK i, X.hM i, hX.b i]; exact h7
    · rw [X.hM i]; exact h1
    · rw [X.hK i]; exact h2
    · rw [X.hK i]; exact h3
  · exact call_run (φ := φ) (n := m + ks.length) (by rw [List.length_append, List.length_map, hn, hl]) (rds_dfl ka h5) s h kk z
end
/-! ### such a def, from its body -/
section
variable {P : Program} {w : World} {K : PySem.W.Frag} {mg : Str → Option Value} {base : Heap} {st : Stmt} {f : Addr} {fd : FuncData} {N ps : List Str} {k : Nat} {body : Stm} {x : Str} {kws : List (Str × V)}
theorem fn_okD (Fu : FunD K x x (defArgs st) (defBody st) (defScope st) [] kws f fd) (S : FnScope N ps (defScope st)) (hps : ps.length ≤ N.length)
    (hb : ∀ (cdv : Value) (A : Around) (outer : List PySem.Env) (s : Shared) (H : Hp) (E : XK), Room k (A.deeper (envOfC x (defScope st) s.heap.objs.size f cdv)) →
      SDs (Fm.one (cxOf (L2.CX P w) P w K mg base N x (defScope st) f cdv A outer s H E)) (fun cls d _ H => E cls d H) (defBody st) body) :
    FnOk P w K mg base (L2.CX P w) (k + 1) f fd ps (spOf K mg ps.length (sDef N.length body)) := by
  refine Fu.ok S (fun vs H Q E h => ?_) (fun cdv A outer s H vs Q E hr h => ?_)
  · obtain ⟨F, args, O, r, outs, hl, _⟩ := h
    exact hl
  · obtain ⟨t, p, k⟩ := hb cdv A outer s H E hr
    obtain ⟨F, args, O, r, outs, hl, sta, hargs, hφ, hq, he⟩ := h
    have hlN : vs.length ≤ N.length := by omega
    refine ⟨t, p (), ?_⟩
    have s0 := entry (N := N) sta hlN
    unfold sDef at hφ
    split at hφ
    · rename_i e' h1
      cases hφ
      exact k F H _ _ O .nx e' _ s0 h1 fun F' H' σ' O' t' => hq .non F' H' O (leave sta hargs hlN t') .non
    · rename_i d e' h1
      cases hφ
      exact k F H _ _ O (.ret (.val d)) e' _ s0 h1 fun v F' H' σ' O' t' q => hq v F' H' O (leave sta hargs hlN t') q
    · rename_i xs e' h1
      cases hφ
      refine k F H _ _ O (.ret (.new xs)) e' _ s0 h1 fun v F' H' σ' O' t' q => hq v F' H' O (leave sta hargs hlN t') ?_
      obtain ⟨a, us, q1, q2, q3, q4, q5, q6⟩ := q
      exact ⟨a, us, q1, q2, q3, q4, q6⟩
    · rename_i i e' h1
      split at hφ
      · rename_i xs hx
        cases hφ
        refine k F H _ _ O (.ret (.slot i)) e' _ s0 h1 fun v F' H' σ' O' t' q => hq v F' H' O (leave sta hargs hlN t') ?_
        obtain ⟨p', ys, _, q2⟩ := q
        exact given sta hargs t' hx q2
      · cases hφ
    · rename_i x e' h1
      cases hφ
      exact k F H _ _ O (.err x) e' _ s0 h1 fun cls d F' H' σ' O' t' q => he x cls d F' H' O rfl (leave sta hargs hlN t') q
    · cases hφ
/-- the empty tuple that the top wrote -/
theorem dp_empty {T : Addr} {n : Nat} {sl : Array (Option Value)} (l : K.lookup T = some ⟨.type "tuple", none, .seq #[] n, sl⟩) (F : Hp) : Dp K F (.ref T) (.tuple []) :=
  .tup (.inr ⟨_, #[], n, rfl, l, rfl, rfl, by decide, .nil⟩) .nil
/-- one parameter behind a star, its default the empty tuple -/
theorem def_okK {y : Str} {m : Nat} {T D' : Addr} {tn : Nat} {sl : Array (Option Value)} {oc doc pm cdv0 ct : Value} {fod an : Option Addr} {fsl : Array (Option Value)}
    (lk : K.lookup f = some ⟨oc, fod, .func (PySem.W.fnOf x x (defArgs st) (defBody st) (defScope st) .none (.ref D') doc pm an cdv0 ct), fsl⟩) (hcd : PySem.W.codeIn K cdv0 x = true) (hkp : PySem.W.keepIn K (.ref f) = true)
    (hd : PySem.W.nsIn K D' y = some (some (.ref T))) (hT : K.lookup T = some ⟨.type "tuple", none, .seq #[] tn, sl⟩) (g : mg x = some (.ref f)) (S : FnScope N ps (defScope st)) (hps : ps.length ≤ N.length) (hn : ps.length = m + 1)
    (h0 : ∀ (D : Addr) (doc pm : Value) (an : Option Addr) (cdv ct : Value) (us ks : List Value), us.length = m → ks.length = 1 →
      KwChain D ([y].zip ks) (bindArgs (PySem.W.fnOf x x (defArgs st) (defBody st) (defScope st) .none (.ref D) doc pm an cdv ct) ⟨us, []⟩) (ps.zip (us ++ ks)))
    (h1 : ∀ (us ws : List Value), us.length = m → ws.length = 1 → bindArgs (PySem.W.fnOf x x (defArgs st) (defBody st) (defScope st) .none (.ref D') doc pm an cdv0 ct) ⟨us, [y].zip ws⟩ = pure (ps.zip (us ++ ws)))
    (hb : ∀ (cdv : Value) (A : Around) (outer : List PySem.Env) (s : Shared) (H : Hp) (E : XK), Room k (A.deeper (envOfC x (defScope st) s.heap.objs.size f cdv)) →
      SDs (Fm.one (cxOf (L2.CX P w) P w K mg base N x (defScope st) f cdv A outer s H E)) (fun cls d _ H => E cls d H) (defBody st) body) :
    DefOkK P w K mg base (k + 1) x m [y] [.tuple []] (sDef N.length body) := by
  have Fu : FunD K x x (defArgs st) (defBody st) (defScope st) [] [(y, V.ref T)] f _ := ⟨⟨oc, fod, .none, .ref D', doc, pm, an, cdv0, ct, fsl, rfl, lk, hcd, .inl ⟨rfl, rfl⟩, .inr ⟨D', rfl, fun q hq => by
    rw [List.mem_singleton.mp hq]
    exact ⟨_, hd, rfl⟩⟩⟩, hkp⟩
  obtain ⟨ds, hv, hB⟩ := Fu.binds0 (ps := ps) m (by simp) (by simp [hn]) fun D doc pm an cdv ct us ks a b => h0 D doc pm an cdv ct us ks a b
  refine ⟨⟨f, _, ps, ds, _, g, hkp, hB, hv, fun F => .cons (dp_empty hT F) .nil, ⟨fun s us ws _ a b => .of_eq (h1 us ws a b), fun r1 r2 => r1.append r2⟩, ?_⟩, rfl⟩
  have := fn_okD Fu S hps hb
  rw [hn] at this
  exact this
end
/-! ### list(range(..)), sorted(..) -/
section
variable {X : Fm} {W : WX} {a b : Expr} {fa fb : Ev} {p p2 pos pos2 : Pos}
theorem rgV_dp {K : PySem.W.Frag} {F : Hp} (lo hi : Int) : DpAll K F (rgV lo hi) (rgI lo (hi - lo).toNat) := by
  unfold rgV rgI
  generalize List.range (hi - lo).toNat = l
  induction l with
  | nil => exact .nil
  | cons x l ih => exact .cons (.int _) ih
def sListRg (fa : Ev) : Ev := bnd fa fun r e1 => match r with
  | .val (.int n) => if 0 ≤ n ∧ n ≤ 16777216 then some (.new (rgI 0 n.toNat), e1) else none
  | _ => none
theorem pd_listRg (hc : ∀ i, (X.C i).calm = true) (hg : ∀ i, Gl (X.C i) "list") (hm : ∀ i, (X.C i).mg "list" = none) (hg2 : ∀ i, Gl (X.C i) "range") (hm2 : ∀ i, (X.C i).mg "range" = none) (ha : PD X W a fa)
    (na : ∀ i, starEach [.Call (.Name "range" p2) [a] [] pos2] (X.C i).env = (false, eval (.Call (.Name "range" p2) [a] [] pos2) (X.C i).env) :: starEach [] (X.C i).env := by exact fun _ => rfl)
    (nb : ∀ i, starEach [a] (X.C i).env = (false, eval a (X.C i).env) :: starEach [] (X.C i).env := by exact fun _ => rfl) : PD X W (.Call (.Name "list" p) [.Call (.Name "range" p2) [a] [] pos2] [] pos) (sListRg fa) := by
  obtain ⟨t, pa, ka⟩ := ha
  refine ⟨_, fun i => pe_listRg (hc i) (hg i) (hm i) (prg_1 (hg2 i) (hm2 i) (pa i) (nb i)) (na i), fun F H σ e O r e' Q s h k z => ?_⟩
  refine bnd_raw ka s h z fun ra e1 n1 h2 v F1 H1 O1 t1 q1 => ?_
  split at h2
  · rename_i n
    split at h2
    · rename_i c
      cases h2
      cases q1
      refine ⟨n, rfl, RgOk.of_le (by omega) (by omega) (by omega) (by omega), ?_⟩
      have := rgV_dp (K := X.K) (F := F1) 0 n
      rw [Int.sub_zero] at this
      exact rv_lst t1.sta.ex (OkOut.rv t1 k) this
    · cases h2
  · cases h2
/-- ints put in order -/
def sortI (ns : List Int) : List Int := ns.mergeSort fun a b => decide (a ≤ b)
theorem sortI_eq {ns ms : List Int} (h : ms.Perm ns) (h2 : ms.Pairwise (· ≤ ·)) : ms = sortI ns := by
  refine List.Perm.eq_of_pairwise (le := (· ≤ ·)) (fun a b _ _ x y => Int.le_antisymm x y) h2 ?_ (h.trans (List.mergeSort_perm ns _).symm)
  refine (List.pairwise_mergeSort (le := fun a b : Int => decide (a ≤ b)) (fun a b c x y => ?_) (fun a b => ?_) ns).imp fun x => of_decide_eq_true x
  · exact decide_eq_true (Int.le_trans (of_decide_eq_true x) (of_decide_eq_true y))
  · rcases Int.le_total a b with x | x
    · rw [decide_eq_true x]; rfl
    · rw [decide_eq_true x, Bool.or_true]
def gSorted : List D → Option Rs
  | [.list xs] => match intsOf xs with
    | some ns => if ns.length < 64 then some (.new ((sortI ns).map PyData.int)) else none
    | none => none
  | _ => none
theorem fg_sorted {K : PySem.W.Frag} : FnG K (rSorted K) gSorted := by
  intro F H vs ds z Q s hv hg k
  unfold gSorted at hg
  split at hg
  · rename_i xs
    split at hg
    · rename_i ns hns
      split at hg
      · rename_i c
        cases hg
        obtain ⟨v, rfl, a, us, rfl, h1, h2⟩ := hv.one
        cases intsOf_map hns
        cases dpa_ints h2
        refine ⟨a, ns, rfl, h1, c, fun ns' p hp hs hn => ?_⟩
        rw [sortI_eq hp hs]
        exact rv_lst s k (ints_dpa _) p hn
      · cases hg
    · cases hg
  · cases hg
theorem pd_sorted {fs : List Ev} {e : Expr} (hg : ∀ i, Gl (X.C i) "sorted") (hm : ∀ i, (X.C i).mg "sorted" = none) (ha : PAD X W [e] fs) (he : ∀ i, starEach [e] (X.C i).env = (false, eval e (X.C i).env) :: starEach [] (X.C i).env := by exact fun _ => rfl) (hpl : ∀ i, (backTo pos (starEach [] (X.C i).env)).any (·.1) = false := by exact fun _ => rfl) : PD X W (.Call (.Name "sorted" p) [e] [] pos) (sFn gSorted fs) :=
  pd_callB (R := rSorted X.K) (fun i => X.hK i ▸ cr_sorted) fg_sorted hg hm (by decide +kernel) ha (by decide) (by decide) he hpl
end
/-! ### a list let go as plain data -/
def sFrz (f : Ev) : Ev := fun e => match f e with
  | none => none
  | some (.err x, e1) => some (.err x, e1)
  | some (r, e1) => (tk r e1).map fun q => (.val q.1, q.2)
end MR

set_option Elab.async false
set_option linter.all false
set_option maxRecDepth 100000
set_option maxHeartbeats 2000000
/-! Exceptions: a class of the text whose base's initialiser is ValueError's; how one is made. -/
namespace MR
open PySem PySem.Spec PyProof.Rows L2
variable [Tq]
section
variable {X : Cx} {x : Str} {B : Addr} {mc : Value} {e : Expr} {es : List Expr} {ta : TA} {p1 p2 pos : Pos}
/-- B.__init__(self, ..), B a class of the text that inherits ValueError's -/
theorem pe_binit {pl : Sem Bool} (hg : Gl X x) (hm : X.mg x = some (.ref B)) (ga : PySem.W.specialIn X.K (.ref B) "__getattribute__" = some (some (.builtin "type.__getattribute__"))) (rd : PySem.W.readsIn X.K B mc = true)
    (vB : PySem.W.findCls X.K (.ref B) mc "__init__" = some (.val (.builtin "ValueError.__init__"))) (ha : PA X (e :: es) ta)
    (hc : eval (.Call (.Attribute (.Name x p1) "__init__" p2) (e :: es) [] pos) X.env = (do let o ← eval (.Name x p1) X.env; standAt p2.atName; let q ← holding [o] (getMethod o "__init__" pl); callWith pos q.1 q.2 (backTo pos (starEach (e :: es) X.env)) (backToKw pos (keywordEach [] X.env))) := by rfl)
    (db : (x == ("__debug__" : Str)) = false := by decide) (st : starEach (e :: es) X.env = (false, eval e X.env) :: starEach es X.env := by rfl) (plain : (backTo pos (starEach es X.env)).any (·.1) = false := by rfl) :
    PE X (.Call (.Attribute (.Name x p1) "__init__" p2) (e :: es) [] pos) (tVeI X.K ta) := by
  constructor
  intro pins s σ H Q I h
  refine PySem.W.methodCall_KW (ld_glob I hg hm ?_ db) hc
  refine PySem.W.method_cls I.kIn ga (PySem.W.cls_value I.kIn rd vB (by decide +kernel) ?_)
  show wpAny _ _ (callWith pos (.builtin "ValueError.__init__") [] (backTo pos (starEach (e :: es) X.env)) []) _ _ _
  refine PyProof.Rows.callWith_method1 (thn (ha.run pos pins _ σ H _ (I.tok _) h) ?_) st plain
  rintro us s1 ⟨vs, H1, I1, r1, a, C, ws, rfl, hl, T, ea, q⟩
  match r1 with
  | .cons ra rw' =>
    obtain rfl : _ = Value.ref a := ra
    exact oinit_ok T I1 ea (by rw [← Paired.length rw', sizeLine_eq]; omega) fun s' J => ⟨.non, H1, J, rfl, q⟩
end
theorem Al.any {F H : Hp} {p : Addr} {o : HO} (h : Ex F H) (n : H p = none) : Al F H F (upd H p o) :=
  ⟨Same.refl _, Ex.new n, fun b u q => (by rw [upd_ne (ne_of_none (h b u q) n)]; exact h b u q), fun b u q z => (by rw [z] at q; cases q), fun _ _ h => h⟩
/-- what __init__(self, position) promises -/
def spI (C : Addr) (f : Str) : Sp := fun vs H Q _ => ∃ (a : Addr) (i : Int), vs = [.ref a, .int i] ∧ i.natAbs < 2 ^ 63 ∧ H a = some (exo a C none) ∧ ∀ dx, H dx = none → dx ≠ a → Q .non (upd (upd H dx (exd dx [(f, .int i)])) a (exo a C (some dx)))
/-- a class of exceptions of the text with one field -/
structure ExOk (P : Program) (w : World) (K : PySem.W.Frag) (mg : Str → Option Value) (base : Heap) (x f : Str) : Prop where
  ex : ∃ (C fI : Addr) (fd : FuncData) (ps : List Str), mg x = some (.ref C) ∧ OexC K C ∧ PySem.W.findIn K (.ref C) "__init__" = some (some (.ref fI)) ∧ PySem.W.typeIn K (.ref fI) = some (.type "function") ∧ Binds K fd ps [] ∧ FnOk P w K mg base CX0 1 fI fd ps (spI C f)
def sRaise1 (x f : Str) (fe : Ev) : Stm := fun e => match fe e with
  | some (.err y, e1) => some (.err y, e1)
  | some (.val (.int i), e1) => if i.natAbs < 2 ^ 63 then some (.err ⟨x, [(f, .int i)]⟩, e1) else none
  | _ => none
section
variable {P : Program} {w : World} {K : PySem.W.Frag} {mg : Str → Option Value} {base : Heap} {X : Fm} {W : WX} {x f : Str} {a : Expr} {fa : Ev} {p pos pos2 : Pos}
theorem sd_raise1 (T : ExOk P w K mg base x f) (hX : Of X P w K mg base) (hc : ∀ i, (X.C i).calm = true) (hr : ∀ i, Room 2 (X.C i).A) (hg : ∀ i, Gl (X.C i) x) (tk : ∀ i, Takes (X.C i) W) (ha : PAD X W [a] [fa])
    (hdb : (x == ("__debug__" : Str)) = false := by decide) (he : ∀ i, starEach [a] (X.C i).env = (false, eval a (X.C i).env) :: starEach [] (X.C i).env := by exact fun _ => rfl) (hpl : ∀ i, (backTo pos (starEach [] (X.C i).env)).any (·.1) = false := by exact fun _ => rfl) :
    SD X W (.Raise (some (.Call (.Name x p) [a] [] pos)) none pos2) (sRaise1 x f fa) := by
  obtain ⟨C, fI, fd, ps, h1, h2, h3, h4, h5, h6⟩ := T.ex
  obtain ⟨t, pa, ka⟩ := ha
  have eK := hX.k
  have em := hX.m
  subst eK
  subst em
  refine ⟨fun _ σ H => tMkO C (spI C f) [] t σ H fun cls d H' => W cls d σ H', fun i => ?_, fun F H σ e O o e' Dn s h k => ?_⟩
  · refine ps_raise (hc i) (tk i) ?_
    refine pmk_oex (k := 1) (fI := fI) (fd := fd) (ps := ps) (CX := CX0) (ds := []) ?_ ?_ ?_ ?_ (hr i) ?_ .nil pass0 (hg i) ?_ (pa i) hdb (he i) (hpl i)
    · rw [X.hK i]; exact h2
    · rw [X.hK i]; exact h3
    · rw [X.hK i]; exact h4
    · rw [hX.p i, hX.w i, X.hK i, X.hM i, hX.b i]; exact h6
    · rw [X.hK i]; exact h5
    · rw [X.hM i]; exact h1
  · unfold sRaise1 at h
    split at h
    · rename_i y e1 hf
      cases h
      have hA : sArgs [fa] e = some (.err y, e') := by simp [sArgs, hf]
      exact ka F H σ e O _ _ _ s hA (fun _ _ _ _ _ y => nomatch y) fun x' cls d F' H' O' y t w => (by cases y; exact k cls d F' H' σ O' t w)
    · rename_i n e1 hf
      split at h
      · rename_i c
        cases h
        have hA : sArgs [fa] e = some (.ok [.val (.int n)], e') := by simp [sArgs, hf, settle, slotOk]
        refine ka F H σ e O _ _ _ s hA (fun rs vs F1 H1 O1 y t1 q => ?_) (fun _ _ _ _ _ _ y => nomatch y)
        cases y
        have hv := rs1 q
        subst hv
        refine ⟨by simp, fun b hb => ⟨b, n, rfl, c, upd_same, fun dx hdx hne => ⟨rfl, dx, [(f, .int n)], upd_same, ?_, ?_, ?_⟩⟩⟩
        · rw [upd_ne hne, upd_same]
        · rw [upd_ne hne] at hdx
          exact hdx
        · rw [upd_ne hne] at hdx
          have eH : upd (del (upd (upd (upd H1 b (exo b C none)) dx (exd dx [(f, .int n)])) b (exo b C (some dx))) b) dx (.xd [(f, .int n)]) = upd H1 dx (.xd [(f, .int n)]) := by
            funext q
            by_cases h1 : q = dx
            · subst h1; rw [upd_same, upd_same]
            · rw [upd_ne h1, upd_ne h1]
              by_cases h2 : q = b
              · subst h2; rw [del_same, hb]
              · rw [del_ne h2, upd_ne h2, upd_ne h1, upd_ne h2]
          rw [eH]
          exact k (.ref C) (some dx) _ _ σ O1 (t1.trans ((Al.tup t1.sta.ex hdx).stp t1.sta)) ⟨C, h1, rfl, .inr ⟨dx, [(f, .int n)], rfl, upd_same, rfl, rfl⟩⟩
      · cases h
    · cases h
end
theorem log_small {n : Nat} (h : n < 2 ^ 63) : n.log2 < 1920 := by
  by_cases z : n = 0
  · subst z
    decide
  · exact Nat.lt_trans ((Nat.log2_lt z).mpr h) (by decide)
/-- what B.__init__(self, f'text{y}'); self.f = y comes to -/
theorem init_sem {K : PySem.W.Frag} {C a : Addr} {f t : Str} {i : Int} {H : Hp} {Q : VK} (ht : t.length ≤ 1000) (T : OexC K C) (hno : PySem.W.findIn K (.ref C) f = some none) (hi : i.natAbs < 2 ^ 63) (ha : H a = some (exo a C none))
    (q : ∀ dx, H dx = none → dx ≠ a → Q .non (upd (upd H dx (exd dx [(f, .int i)])) a (exo a C (some dx)))) :
    tSeq (tDrop (tVeI K (tCons (tVar 0) (tCons (fun σ H Q => tJs [tC (.str t), tFmt (tVar 1)] Str.empty σ H fun out H1 => Q (.str out) H1) tNil)))) (tOst K f (tVar 0) (tVar 1)) { nx := fun _ H' => Q .non H', rt := Q } [some (.ref a), some (.int i)] H := by
  have hl := log_small hi
  have h2 := PyProof.Rows.int_text_len_1921 hl
  have e1 : (Str.empty ++ t).length ≤ sizeLine := by
    rw [Str.length_append, sizeLine_eq]
    have : Str.empty.length = 0 := rfl
    omega
  have e2 : (Str.empty ++ t ++ (toString i : String)).length ≤ sizeLine := by
    rw [Str.length_append, Str.length_append, sizeLine_eq]
    have : Str.empty.length = 0 := rfl
    omega
  refine ⟨_, rfl, t, rfl, e1, _, rfl, .inr ⟨i, rfl, hl, _, rfl, e2, a, C, _, rfl, by simp, T, ha, ?_⟩⟩
  exact ⟨_, rfl, _, rfl, a, C, rfl, T, hno, .inl ⟨ha, fun dx n ne => q dx n ne⟩⟩
end MR

set_option Elab.async false
set_option linter.all false
set_option maxRecDepth 100000
set_option maxHeartbeats 2000000
/-! max and min of two ints, of a list of ints. -/
namespace MR
open PySem PySem.Spec PyProof.Rows L2
variable [Tq]
section
variable {K : PySem.W.Frag}
end
section
variable {X : Fm} {W : WX} {e e2 : Expr} {fs : List Ev} {p pos : Pos}
end
end MR

set_option Elab.async false
set_option linter.all false
set_option maxRecDepth 100000
set_option maxHeartbeats 2000000
/-! max and min of a tuple of ints. -/
namespace MR
open PySem PySem.Spec PyProof.Rows L2
variable [Tq]
section
variable {X : Cx}
end
section
variable {X : Fm} {W : WX} {e : Expr} {fs : List Ev} {p pos : Pos}
end
end MR

set_option Elab.async false
set_option linter.all false
set_option maxRecDepth 100000
set_option maxHeartbeats 4000000
namespace MR
open PySem PySem.Spec PyProof.Rows L2
variable [Tq]
/-! ### set(..) of a list or tuple of ints, put in order at once -/
/-- a set as it is made -/
def nset (u : Bool) : Obj := { cls := .type "set", dict := none, data := .set #[] 0 (.fresh 0 0 u) }
section
variable {P : Program} {w : World} {A : Around} {E : Value → Shared → Prop} {s : Shared}
/-- set(l), l a list of ints -/
theorem set_of_list {l : Addr} {its : Array Value} (ns : List Int) {Q : Value → Shared → Prop} (hcl : A.handled = none) (hls : s.heap.IsList l its) (hin : IntsAre its.toList ns) (hfew : ns.length + 1 < scanBound)
    (hfin : ∀ (h2 : Heap) (t m : Nat), SetR w h2 s.heap.objs.size (fun j => decide (j ∈ ns)) m → m ≤ ns.length → (∀ b o, s.heap.get? b = some o → h2.get? b = some o) → Q (.ref s.heap.objs.size) { s with heap := h2, toks := t }) :
    wpAny (model P w) A (call (.type "set") [.ref l]) Q E s := by
  have hlen : its.size = ns.length := by
    have z := IntsAre.length hin
    rwa [Array.length_toList] at z
  obtain ⟨_, _, m1⟩ := F.called_set.mro
  have m2 := F.called_set.made
  have m3 := F.called_set.sub
  refine wpAny_call (codeAny_of_tree (wpAny_pure (a := _) ⟨Code.quiet_builtin _ (by decide +kernel), codeAny_builtin F.entry_type_call ?_⟩))
  rw [Around.under_plain (weight_type_call_type "set" [.ref l] []) rfl]
  have m4 := F.called_set.notType
  have m5 := F.called_set.canCreate
  have m6 := F.typeCall_set_1 (.ref l)
  repeat any_goals (first | wp_step | assumption)
  refine codeAny_mono (code_set_led1 (.ref l) (E := E) (Q₁ := fun o s1 => o = .ref s.heap.objs.size ∧ s1 = { s with heap := s.heap.push (nset (!w.params.followText "set-order")) }) ⟨rfl, rfl⟩) fun r s1 k => ?_
  rcases r with _ | fl
  · exact k
  cases fl with
  | next => exact k.elim
  | brk => exact k.elim
  | cont => exact k.elim
  | ret o =>
    obtain ⟨rfl, rfl⟩ := k
    generalize hu : (!w.params.followText "set-order") = u
    have hat0 : (s.heap.push (nset u)).get? s.heap.objs.size = some (nset u) := Heap.get?_push_size _ rfl
    have hty : Shared.TypeIs { s with heap := s.heap.push (nset u) } (.ref s.heap.objs.size) "set" := ⟨_, hat0, rfl⟩
    have m7 := F.called_set.init.lookup
    have m8 := F.called_set.init.bind (.ref s.heap.objs.size)
    repeat any_goals (first | wp_step | assumption)
    refine codeAny_mono (codeAny_call_builtin (R := wants (fun r s2 => r = .none ∧ ∃ h2 t m, s2 = { s with heap := h2, toks := t } ∧ SetR w h2 s.heap.objs.size (fun j => decide (j ∈ ns)) m ∧ m ≤ ns.length ∧ ∀ b o, s.heap.get? b = some o → h2.get? b = some o) E) F.called_set.init.plain F.entry_set_init (check_set_init_1 hty ?_)) fun r2 s2 k2 => ?_
    · obtain ⟨⟨oc, od, ox, os⟩, g0, q1, q2, q3⟩ := hls
      simp only at q1 q3
      subst q1
      subst q3
      have g1 : (s.heap.push (nset u)).get? l = some ⟨.type "list", od, .seq its q2, os⟩ := Heap.get?_push_of_some _ g0
      have n1 := F.sub_list_set
      have n2 := F.sub_list_frozenset
      have n3 : (Value.type "list" == Value.type "dict") = false := by decide
      have hls1 : (s.heap.push (nset u)).IsList l its := ⟨_, g1, rfl, q2, rfl⟩
      unfold Builtin.«set.__init__» noKeywords Builtin.Frozenset.updateFrom
      generalize z : pyIter = y
      wp_walk
      subst z
      refine wpAny_pyIter_list hls1 (wpAny_bind (wpAny_runValue ?_))
      have hbl : l < s.heap.objs.size := Heap.lt_size g0
      have hcl3 : A.in1.in1.in1.handled = none := by simp [hcl]
      have hsz : (s.heap.push (nset u)).objs.size = s.heap.objs.size + 1 := Heap.size_push ..
      have hap : l ≠ (s.heap.push (nset u)).objs.size := by rw [hsz]; exact Nat.ne_of_lt (Nat.lt_succ_of_lt hbl)
      have hout : s.heap.objs.size ∉ [(s.heap.push (nset u)).objs.size, l] := by
        rw [hsz]
        intro z
        rcases List.mem_cons.mp z with z | z
        · exact Nat.ne_of_lt (Nat.lt_succ_self _) z
        · rcases List.mem_cons.mp z with z | z
          · exact Nat.ne_of_gt hbl z
          · cases z
      refine set_update_ints ((Walks.list hcl3 _ l hap its).toS) s.heap.objs.size hout ns hlen hfew (fun i v hv => ?_) (its.size - 0) 0 _ (by omega) (Nat.zero_le _) ⟨⟨_, Heap.get?_push_size _ rfl, rfl, rfl⟩, hls1.push _⟩ ⟨0, Nat.le_refl 0, ?_⟩ fun s3 m mv hm R3 => ?_
      · have hi : i < ns.length := by rw [← hlen]; exact (Array.getElem?_eq_some_iff.mp hv).1
        obtain ⟨t, e⟩ := PyProof.Rows.IntsAre.int_at hin i v (by rw [Array.getElem?_toList]; exact hv)
        refine ⟨ns[i], t, List.getElem?_eq_getElem hi, e.trans ?_⟩
        rw [List.getD_eq_getElem?_getD, List.getElem?_eq_getElem hi]
        rfl
      · subst hu
        exact setR_new_at (Heap.get?_push_of_some _ hat0)
      · obtain ⟨h2, g2, d2, t2, o2⟩ := s3
        have e1 : g2 = s.gens := mv.gens
        have e2 : d2 = s.drawn := mv.drawn
        have e3 : o2 = s.os := mv.os
        subst e1
        subst e2
        subst e3
        show wpAny _ _ _ _ _ _
        refine wpAny_pure ?_
        show wpAny _ _ (ret Value.none) _ _ _
        rw [hlen] at hm
        refine wpAny_pure ⟨rfl, h2, t2, m, rfl, R3, hm, fun b o e => ?_⟩
        have lt : b < s.heap.objs.size := Heap.lt_size e
        refine mv.heap b o (fun z => ?_) (Heap.get?_push_of_some _ (Heap.get?_push_of_some _ e))
        rcases List.mem_cons.mp z with z | z
        · exact Nat.ne_of_lt lt z
        · rw [List.mem_singleton.mp z, hsz] at lt
          exact Nat.not_lt_of_le (Nat.le_succ _) lt
    · rcases r2 with _ | fl
      · exact k2
      cases fl with
      | next => exact k2.elim
      | brk => exact k2.elim
      | cont => exact k2.elim
      | ret o =>
        obtain ⟨rfl, h2, t, m, rfl, R, hm, hk⟩ := k2
        repeat any_goals (first | wp_step | assumption)
        exact hfin _ _ _ R hm hk
end
end MR

set_option Elab.async false
set_option linter.all false
set_option maxRecDepth 100000
set_option maxHeartbeats 2000000
namespace MR
open PySem PySem.Spec PyProof.Rows L2
variable [Tq]
/-! ### ints in order, each once -/
/-- an int put in its place, unless it is there -/
def uins (x : Int) : List Int → List Int
  | [] => [x]
  | y :: r => if x < y then x :: y :: r else if x = y then y :: r else y :: uins x r
def usort (ns : List Int) : List Int := ns.foldr uins []
theorem mem_uins {x k : Int} : ∀ {l : List Int}, k ∈ uins x l ↔ k = x ∨ k ∈ l
  | [] => by simp [uins]
  | y :: r => by
    unfold uins
    split
    · simp
    · split
      · rename_i h; subst h; simp
      · rw [List.mem_cons, mem_uins, List.mem_cons]
        constructor
        · rintro (h | h | h) <;> simp [h]
        · rintro (h | h | h) <;> simp [h]
theorem uins_up {x : Int} : ∀ {l : List Int}, l.Pairwise (· < ·) → (uins x l).Pairwise (· < ·)
  | [], _ => by simp [uins]
  | y :: r, h => by
    have h1 := List.pairwise_cons.mp h
    unfold uins
    split
    · rename_i c
      refine List.pairwise_cons.mpr ⟨fun z hz => ?_, h⟩
      rcases List.mem_cons.mp hz with rfl | hz
      · exact c
      · exact Int.lt_trans c (h1.1 z hz)
    · split
      · exact h
      · refine List.pairwise_cons.mpr ⟨fun z hz => ?_, uins_up h1.2⟩
        rcases mem_uins.mp hz with rfl | hz
        · omega
        · exact h1.1 z hz
theorem mem_usort {k : Int} : ∀ {ns : List Int}, k ∈ usort ns ↔ k ∈ ns
  | [] => by simp [usort]
  | n :: ns => by
    show k ∈ uins n (usort ns) ↔ _
    rw [mem_uins, mem_usort, List.mem_cons]
theorem usort_up : ∀ (ns : List Int), (usort ns).Pairwise (· < ·)
  | [] => List.Pairwise.nil
  | n :: ns => uins_up (usort_up ns)
theorem lt_nodup {l : List Int} (h : l.Pairwise (· < ·)) : l.Nodup := h.imp fun h => Int.ne_of_lt h
theorem up_unique {a b : List Int} (ha : a.Pairwise (· < ·)) (hb : b.Pairwise (· < ·)) (h : ∀ k, k ∈ a ↔ k ∈ b) : a = b :=
  List.Perm.eq_of_pairwise (le := (· < ·)) (fun x y _ _ p q => absurd (Int.lt_trans p q) (Int.lt_irrefl _)) ha hb ((List.perm_ext_iff_of_nodup (lt_nodup ha) (lt_nodup hb)).mpr h)
/-! ### set(x), sorted(set(x)) -/
section
variable {X : Cx}
/-- set(x) of ints -/
def rSetI (K : PySem.W.Frag) (w : World) : List V → Hp → VK → Prop := fun vs H Q => ∃ (p : Addr) (ns : List Int), vs = [.ref p] ∧ (SqL K H p (ns.map V.int) ∨ SqT K H p (ns.map V.int)) ∧ ns.length ≤ 1000 ∧
  ∀ a m, m ≤ ns.length → H a = none → Q (.ref a) (upd H a (SetO w a (fun j => decide (j ∈ ns)) m))
theorem cr_setI (hc : X.calm = true) : CallR X (.type "set") (rSetI X.K X.w) := by
  rintro pins s σ H vs us Q I r ⟨p, ns, rfl, hq, hl, q⟩
  rw [Vals.ref1 r]
  have hd := I.ok.hd hc
  have few : ns.length + 1 < scanBound := by unfold scanBound; omega
  have go : ∀ (h2 : Heap) (t m : Nat), SetR X.w h2 s.heap.objs.size (fun j => decide (j ∈ ns)) m → m ≤ ns.length → (∀ b o, s.heap.get? b = some o → h2.get? b = some o) → EP X pins σ Q (.ref s.heap.objs.size) { s with heap := h2, toks := t } :=
    fun h2 t m R hm k => ⟨.ref s.heap.objs.size, upd H s.heap.objs.size (SetO X.w s.heap.objs.size (fun j => decide (j ∈ ns)) m), I.laid (t' := t) k (Nat.le_refl _) (setO_new R), rfl, q _ m hm (I.hok.fresh (Nat.le_refl _))⟩
  rcases hq with hq | hq
  · obtain ⟨its, rv, pl, _⟩ := I.list hq
    exact set_of_list (its := its.toArray) ns hd pl.isList (ints_of_vals rv) few go
  · obtain ⟨its, rv, pt, _⟩ := I.tuple hq
    exact call_set_tupI ns hd (show s.heap.IsTuple p its.toArray from pt) (ints_of_vals rv) few go
end
def gSortSet : List D → Option Rs
  | [.list xs] => match intsOf xs with
    | some ns => if ns.length < 64 then some (.new ((usort ns).map PyData.int)) else none
    | none => none
  | [.tuple xs] => match intsOf xs with
    | some ns => if ns.length < 64 then some (.new ((usort ns).map PyData.int)) else none
    | none => none
  | _ => none
section
variable {X : Fm} {W : WX} {e : Expr} {fs : List Ev} {p p2 pos pos2 : Pos} {w : World}
theorem fg_sortSet {K : PySem.W.Frag} : FnG K (fun vs H Q => rSetI K w vs H fun x H1 => rSortedSet w [x] H1 Q) gSortSet := by
  intro F H vs ds z Q s hv hg k
  have go : ∀ (a : Addr) (ns : List Int), (SqL K H a (ns.map V.int) ∨ SqT K H a (ns.map V.int)) → (if ns.length < 64 then some (Rs.new ((usort ns).map PyData.int)) else none) = some z → rSetI K w [.ref a] H fun x H1 => rSortedSet w [x] H1 Q := by
    intro a ns h1 hg
    split at hg
    · rename_i c
      cases hg
      refine ⟨a, ns, rfl, h1, by omega, fun b m hm hb => ⟨b, _, m, rfl, upd_same, by omega, fun ms p hs hmem _ hp => ?_⟩⟩
      have e : ms = usort ns := up_unique hs (usort_up ns) fun j => by rw [hmem, mem_usort, decide_eq_true_eq]
      subst e
      have sF : Ex F (upd H b (SetO w b (fun j => decide (j ∈ ns)) m)) := fun c o q => by
        rw [upd_ne (ne_of_none (s c o q) hb)]
        exact s c o q
      have hp0 : H p = none := by
        by_cases hpb : p = b
        · rw [hpb]; exact hb
        · rw [upd_ne hpb] at hp; exact hp
      refine k (.ref p) F _ ⟨Same.refl _, fun c o q => ?_, fun c o q => ?_, fun c o q n => (by rw [n] at q; cases q), fun _ _ h => h⟩ ⟨p, _, rfl, upd_same, fresh_f s hp0, ints_dpa _, hp0⟩
      · rw [upd_ne (ne_of_none q hp0), upd_ne (ne_of_none q hb)]
        exact q
      · rw [upd_ne (ne_of_none (s c o q) hp0)]
        exact sF c o q
    · cases hg
  unfold gSortSet at hg
  split at hg
  · rename_i xs
    split at hg
    · rename_i ns hns
      obtain ⟨v, rfl, a, us, rfl, h1, h2⟩ := hv.one
      cases intsOf_map hns
      cases dpa_ints h2
      exact go a ns (.inl h1) hg
    · cases hg
  · rename_i xs
    split at hg
    · rename_i ns hns
      obtain ⟨v, rfl, h⟩ := hv.one
      cases intsOf_map hns
      cases h with
      | @tup a us _ h1 h2 =>
        cases dpa_ints h2
        exact go a ns (.inr (ex_f s h1).t) hg
    · cases hg
  · cases hg
theorem pd_sortSet (hw : ∀ i, (X.C i).w = w) (hc : ∀ i, (X.C i).calm = true) (hg : ∀ i, Gl (X.C i) "sorted") (hm : ∀ i, (X.C i).mg "sorted" = none) (hg2 : ∀ i, Gl (X.C i) "set") (hm2 : ∀ i, (X.C i).mg "set" = none) (ha : PAD X W [e] fs)
    (he : ∀ i, starEach [e] (X.C i).env = (false, eval e (X.C i).env) :: starEach [] (X.C i).env := by exact fun _ => rfl) (hpl : ∀ i, (backTo pos2 (starEach [] (X.C i).env)).any (·.1) = false := by exact fun _ => rfl)
    (he2 : ∀ i, starEach [.Call (.Name "set" p2) [e] [] pos2] (X.C i).env = (false, eval (.Call (.Name "set" p2) [e] [] pos2) (X.C i).env) :: starEach [] (X.C i).env := by exact fun _ => rfl) (hpl2 : ∀ i, (backTo pos (starEach [] (X.C i).env)).any (·.1) = false := by exact fun _ => rfl) :
    PD X W (.Call (.Name "sorted" p) [.Call (.Name "set" p2) [e] [] pos2] [] pos) (sFn gSortSet fs) := by
  obtain ⟨t, pa, ka⟩ := ha
  refine ⟨tCB (fun vs H Q => rSetI X.K w vs H fun x H1 => rSortedSet w [x] H1 Q) t, fun i => ?_, fun F H σ e O r e' Q s h k z => fn_run fg_sortSet ka s h k z⟩
  have h1 := pe_callTy (r := rSetI X.K w) (by rw [← hw i, ← X.hK i]; exact cr_setI (hc i)) (hg2 i) (hm2 i) (by decide +kernel) (pa i) (by decide) (by decide) (he i) (hpl i) (p := p2) (pos := pos2)
  exact pe_callB (r := rSortedSet w) (by rw [← hw i]; exact cr_sortedSet (hc i)) (hg i) (hm i) (by decide +kernel) (pa_cons h1 pa_nil (he2 i)) (by decide) (by decide) (he2 i) (hpl2 i)
end
/-! ### methods of lists and tuples that only read -/
/-- the type of what a method is called upon -/
theorem tup_type {X : Cx} {pins : List (Addr × Obj)} {σ : L2.St} {H : Hp} {s : Shared} {a : Addr} {xs : List V} (I : Inv X pins σ H s) (h : SqF X.K H a xs) : s.TypeIs (.ref a) "tuple" ∧ ∀ b, Value.ref a = .ref b → ∃ o, s.heap.get? b = some o ∧ o.dict = none := by
  rcases h with ⟨o, hn, h⟩ | ⟨o, its, n, hn, h, hc, _⟩
  · obtain ⟨g, _, _, _, o', g', c, _⟩ := I.hok a _ h
    rw [g] at g'
    cases g'
    exact ⟨⟨o, g, c⟩, fun b e => by cases e; exact ⟨o, g, hn⟩⟩
  · exact ⟨⟨o, I.kIn a o h, hc⟩, fun b e => by cases e; exact ⟨o, I.kIn a o h, hn⟩⟩
/-- o.m(e), o a list (rl) or a tuple (rt) -/
def tMeth1 (K : PySem.W.Frag) (rl rt : V → List V → Hp → VK → Prop) (to te : TE) : TE := fun σ H Q => to σ H fun x H1 => (∃ p, x = .ref p ∧ (∃ xs, SqL K H1 p xs) ∧ te σ H1 fun y H2 => rl x [y] H2 Q) ∨ ∃ p, x = .ref p ∧ (∃ xs, SqF K H1 p xs) ∧ te σ H1 fun y H2 => rt x [y] H2 Q
theorem pe_meth1 {X : Cx} {o e : Expr} {to te : TE} {name : Str} {apos cpos : Pos} {il it : String} {rl rt : V → List V → Hp → VK → Prop} (sl : Slot "list" name il) (tl : typeOf (.builtin il) = pure (.type "method_descriptor")) (ml : MtR X il rl)
    (st : Slot "tuple" name it) (tt : typeOf (.builtin it) = pure (.type "method_descriptor")) (mt : MtR X it rt) (ho : PE X o to) (he : PE X e te)
    (hbase : attributeBase o name X.env (eval o X.env) = eval o X.env := by rfl) (hline : (apos.endLine == cpos.line) = true := by rfl) (hs : starEach [e] X.env = (false, eval e X.env) :: starEach [] X.env := by rfl) :
    PE X (.Call (.Attribute o name apos) [e] [] cpos) (tMeth1 X.K rl rt to te) := by
  refine ⟨fun pins s σ H Q I h => ?_⟩
  refine wpAny_Call_method_late hbase (by rw [hs]; rfl) hline rfl (thn (ho.run pins s σ H _ I h) fun v s1 ⟨x, H1, I1, r1, q1⟩ => ?_)
  have ha : PA X [e] (tCons te tNil) := pa_cons he pa_nil hs
  have args : ∀ {T id : String} {r : V → List V → Hp → VK → Prop} (m : MtR X id r), (te σ H1 fun y H2 => r x [y] H2 Q) → wpAny (model X.prog X.w) X.A (callWith cpos (.builtin id) [v] (backTo cpos (starEach [e] X.env)) []) (EP X pins σ Q) X.xe s1 := by
    intro T id r m q
    have hA := ha.run cpos pins s1 σ H1 (fun vs H2 => r x vs H2 Q) I1 q
    rw [hs] at hA ⊢
    exact Calls.callWith_builtin rfl (Calls.evalArgs_plain (thn hA fun us s2 ⟨vs, H2, I2, r2, q2⟩ => m pins s2 σ H2 x vs v us Q I2 r1 r2 q2))
  rcases q1 with ⟨p, rfl, ⟨xs, hq⟩, q⟩ | ⟨p, rfl, ⟨xs, hq⟩, q⟩
  · obtain ⟨h1, h2⟩ := tyV_is I1 r1 (T := "list") (.inl ⟨rfl, xs, hq⟩)
    exact ⟨"list", il, PySem.F.plainAttrs_list, sl, tl, h1, h2, args (T := "list") ml q⟩
  · cases r1
    obtain ⟨h1, h2⟩ := tup_type I1 hq
    exact ⟨"tuple", it, PySem.F.plainAttrs_tuple, st, tt, h1, h2, args (T := "tuple") mt q⟩
/-- by data -/
def MethG (K : PySem.W.Frag) (rl rt : V → List V → Hp → VK → Prop) (g : D → D → Option Rs) : Prop :=
  (∀ F H x y ds db z Q, Ex F H → Vw K F H x (.list ds) → Vw K F H y db → g (.list ds) db = some z → RvOut K F H z Q → rl x [y] H Q) ∧
  (∀ F H x y ds db z Q, Ex F H → Vw K F H x (.tuple ds) → Vw K F H y db → g (.tuple ds) db = some z → RvOut K F H z Q → rt x [y] H Q) ∧
  ∀ d db z, g d db = some z → (∃ ds, d = .list ds) ∨ ∃ ds, d = .tuple ds
/-- what such a method may be called upon -/
def seqR : Rs → Bool
  | .val (.list _) => true
  | .val (.tuple _) => true
  | .new _ => true
  | .slot _ => true
  | _ => false
def sMeth (g : D → D → Option Rs) (fa fb : Ev) : Ev := fun e => match fa e with
  | some (.err x, e1) => some (.err x, e1)
  | some (ra, _) => if seqR ra = true then sOp g fa fb e else none
  | none => none
theorem sMeth_cases {g : D → D → Option Rs} {fa fb : Ev} {e : Env} {r : Rs} {e' : Env} (h : sMeth g fa fb e = some (r, e')) : (∃ x, fa e = some (.err x, e') ∧ r = .err x) ∨ (∃ ra e1, fa e = some (ra, e1) ∧ seqR ra = true ∧ sOp g fa fb e = some (r, e')) := by
  unfold sMeth at h
  split at h
  · rename_i x e1 h1
    cases h
    exact .inl ⟨x, h1, rfl⟩
  · rename_i ra e1 hn h1
    split at h
    · rename_i c
      exact .inr ⟨ra, e1, h1, c, h⟩
    · cases h
  · cases h
section
variable {X : Fm} {W : WX} {o e : Expr} {fo fe : Ev} {apos cpos : Pos} {name : Str} {il it : String} {rl rt : V → List V → Hp → VK → Prop} {g : D → D → Option Rs}
theorem pd_meth1 (sl : Slot "list" name il) (tl : typeOf (.builtin il) = pure (.type "method_descriptor")) (ml : ∀ i, MtR (X.C i) il rl) (st : Slot "tuple" name it) (tt : typeOf (.builtin it) = pure (.type "method_descriptor")) (mt : ∀ i, MtR (X.C i) it rt)
    (hG : MethG X.K rl rt g) (ho : PDs X W o fo) (he : PDs X W e fe)
    (hbase : ∀ i, attributeBase o name (X.C i).env (eval o (X.C i).env) = eval o (X.C i).env := by exact fun _ => rfl) (hline : (apos.endLine == cpos.line) = true := by rfl) (hs : ∀ i, starEach [e] (X.C i).env = (false, eval e (X.C i).env) :: starEach [] (X.C i).env := by exact fun _ => rfl) :
    PD X W (.Call (.Attribute o name apos) [e] [] cpos) (sMeth g fo fe) := by
  obtain ⟨to, po, ko⟩ := ho
  obtain ⟨te, pe, ke⟩ := he
  refine ⟨tMeth1 X.K rl rt to te, fun i => X.hK i ▸ pe_meth1 sl tl (ml i) st tt (mt i) (po i) (pe i) (hbase i) hline (hs i), fun F H σ e O r e' Q s h k z => ?_⟩
  obtain ⟨G1, G2, G3⟩ := hG
  rcases sMeth_cases h with ⟨x, h1, rfl⟩ | ⟨rs, es, hs1, hs2, h⟩
  · exact ko F H σ e O _ _ _ s h1 (fun v F' H' O' t q => q.elim) z
  rcases sOp_cases h with ⟨x, h1, rfl⟩ | ⟨ra, e1, h1, n1, h2⟩
  · rw [h1] at hs1
    cases hs1
    cases hs2
  · obtain ⟨rfl, rfl⟩ := Prod.mk.inj (Option.some.inj (h1.symm.trans hs1))
    refine ko F H σ e O _ _ _ s h1 (fun v F1 H1 O1 t q => ?_) (fun x _ _ _ _ _ y => absurd y (n1 x))
    have args : ∀ (R : V → List V → Hp → VK → Prop), (∀ F2 H2 O2 w da db, Stp X.K F1 H1 σ e1 O1 F2 H2 σ e' O2 → Vw X.K F2 H2 v da → Vw X.K F2 H2 w db → vw (settle ra) e' = some da → g da db = some r → R v [w] H2 Q) → te σ H1 fun y H2 => R v [y] H2 Q := by
      intro R hR
      rcases h2 with ⟨x, h2, rfl⟩ | ⟨rb, da, db, h2, n2, va, vb, hr⟩
      · exact ke F1 H1 σ e1 O1 _ _ _ t.sta h2 (fun v F' H' O' t q => q.elim) fun x' cls d F' H' O' y t' w => z x' cls d F' H' O' y (t.trans t') w
      · refine ke F1 H1 σ e1 O1 _ _ _ t.sta h2 (fun w F2 H2 O2 t2 q2 => ?_) (fun x _ _ _ _ _ y => absurd y (n2 x))
        have q' : RsOk X.K H F2 H2 σ e' O2 (settle ra) v := q.later t2 fun i p xs y _ => by
          rw [y] at va
          unfold vw at va
          simp only at va
          split at va
          · rename_i p' ys hh; exact ⟨p', ys, hh⟩
          · cases va
        exact hR F2 H2 O2 w da db t2 (vw_vw t2.sta q' va) (vw_vw t2.sta q2 vb) va hr
    have kk : ∀ {F2 H2 O2}, Stp X.K F1 H1 σ e1 O1 F2 H2 σ e' O2 → RvOut X.K F2 H2 r Q := fun t2 => OkOut.rv (t.trans t2) k
    have onL : ∀ p xs, v = .ref p → SqL X.K H1 p xs → (∀ da, vw (settle ra) e' = some da → ∀ ds, da = .tuple ds → False) → tMeth1 X.K rl rt (fun σ H Q => Q v H) te σ H1 Q := by
      intro p xs hv hq hno
      refine .inl ⟨p, hv, ⟨xs, hq⟩, args rl fun F2 H2 O2 w da db t2 v1 v2 va hr => ?_⟩
      rcases G3 da db r hr with ⟨ds, rfl⟩ | ⟨ds, rfl⟩
      · exact G1 F2 H2 v w ds db r Q t2.sta.ex v1 v2 hr (kk t2)
      · exact (hno _ va _ rfl).elim
    have onSet : ∀ xs p, ra = .new xs ∨ ra = .slot p → ∀ da, vw (settle ra) e' = some da → ∀ ds, da = .tuple ds → False := by
      rintro xs p (rfl | rfl) da hva ds rfl
      · cases hva
      · unfold settle vw at hva
        simp only at hva
        split at hva <;> cases hva
    cases ra with
    | err x => exact absurd rfl (n1 x)
    | new xs =>
      cases q with
      | lst h5 h6 => exact onL _ _ rfl (Same.seq t.sta.ex h5.s) (onSet xs 0 (.inl rfl))
    | slot i =>
      obtain ⟨p, xs, e3, e4⟩ := q
      obtain ⟨a, vs, rfl, _, g1, _⟩ := slot_at (B := H) (F := F1) t.sta ⟨p, xs, e3, e4⟩ e3
      exact onL a vs rfl (SqL.of g1) (onSet [] i (.inr rfl))
    | val d =>
      cases d with
      | list xs =>
        cases q with
        | lst h5 h6 => exact onL _ _ rfl (Same.seq t.sta.ex h5.s) fun da hva ds e => by cases hva; cases e
      | tuple xs =>
        cases q with
        | tup h5 h6 =>
          refine .inr ⟨_, rfl, ⟨_, ex_f t.sta.ex h5⟩, args rt fun F2 H2 O2 w da db t2 v1 v2 va hr => ?_⟩
          cases va
          exact G2 F2 H2 _ w xs db r Q t2.sta.ex v1 v2 hr (kk t2)
      | _ =>
        cases hs2
/-- xs.count(k) -/
def gCount : D → D → Option Rs
  | .list xs, .int k => (intsOf xs).map fun ns => .val (.int (ns.count k : Nat))
  | .tuple xs, .int k => (intsOf xs).map fun ns => .val (.int (ns.count k : Nat))
  | _, _ => none
def rCntT (K : PySem.W.Frag) : V → List V → Hp → VK → Prop := fun x xs H Q => ∃ (p : Addr) (ns : List Int) (k : Int), x = .ref p ∧ xs = [.int k] ∧ SqT K H p (ns.map V.int) ∧ Q (.int (ns.count k : Nat)) H
theorem mt_tcount {X : Cx} : MtR X "tuple.count" (rCntT X.K) := by
  rintro pins s σ H x xs v us Q I rx rxs ⟨p, ns, k, rfl, rfl, hs, q⟩
  cases rx
  obtain ⟨u, rfl, ru⟩ := rxs.one
  obtain ⟨t, rfl⟩ := ru
  obtain ⟨its, rv, ⟨⟨cls, dd, data, sl⟩, ho, hc, n, hd⟩, _⟩ := I.tuple hs
  simp only at hc hd
  subst hc hd
  have hi := ints_of_vals rv
  have ec : its.toArray.toList.countP (eqk k) = ns.count k := eqk_count hi
  refine call_meets PySem.F.slot_tuple_count ⟨_, ho, rfl⟩ PySem.F.entry_tuple_count (PySem.F.args_tuple_count_2 _ _) (SeqAt.tuple_countAt p its.toArray n dd sl (.int k t) (eqk k)) ⟨ho, fun y hy => (eqk_gives hi y (by simpa using hy)).at _ _, ?_⟩
  refine ⟨.int (ns.count k : Nat), H, I.tok _, ⟨s.toks, ?_⟩, q⟩
  rw [ec]
theorem mg_count {K : PySem.W.Frag} : MethG K (rCntI K) (rCntT K) gCount := by
  refine ⟨fun F H x y ds db z Q s hx hy hg k => ?_, fun F H x y ds db z Q s hx hy hg k => ?_, fun d db z hg => ?_⟩
  · cases db with
    | int i =>
      have hg : (intsOf ds).map (fun ns => Rs.val (.int (ns.count i : Nat))) = some z := hg
      cases hn : intsOf ds with
      | none => rw [hn] at hg; cases hg
      | some ns =>
        rw [hn] at hg
        cases hg
        cases intsOf_map hn
        obtain ⟨a, us, rfl, h1, h2⟩ := hx
        cases hy
        cases dpa_ints h2
        exact ⟨a, ns, i, rfl, rfl, h1, rv_val s k (.int _)⟩
    | _ => cases hg
  · cases db with
    | int i =>
      have hg : (intsOf ds).map (fun ns => Rs.val (.int (ns.count i : Nat))) = some z := hg
      cases hn : intsOf ds with
      | none => rw [hn] at hg; cases hg
      | some ns =>
        rw [hn] at hg
        cases hg
        cases intsOf_map hn
        cases hy
        cases hx with
        | tup h1 h2 =>
          cases dpa_ints h2
          exact ⟨_, ns, i, rfl, rfl, (ex_f s h1).t, rv_val s k (.int _)⟩
    | _ => cases hg
  · cases d with
    | list ds => exact .inl ⟨ds, rfl⟩
    | tuple ds => exact .inr ⟨ds, rfl⟩
    | _ => cases hg
theorem pd_count (ho : PDs X W o fo) (he : PDs X W e fe)
    (hbase : ∀ i, attributeBase o "count" (X.C i).env (eval o (X.C i).env) = eval o (X.C i).env := by exact fun _ => rfl) (hline : (apos.endLine == cpos.line) = true := by rfl) (hs : ∀ i, starEach [e] (X.C i).env = (false, eval e (X.C i).env) :: starEach [] (X.C i).env := by exact fun _ => rfl) :
    PD X W (.Call (.Attribute o "count" apos) [e] [] cpos) (sMeth gCount fo fe) :=
  pd_meth1 (rl := rCntI X.K) (rt := rCntT X.K) PySem.F.slot_list_count PySem.F.type_list_count (fun i => X.hK i ▸ mt_lcount) PySem.F.slot_tuple_count PySem.F.type_tuple_count (fun i => X.hK i ▸ mt_tcount) mg_count ho he hbase hline hs
end
end MR

set_option Elab.async false
set_option linter.all false
set_option maxRecDepth 100000
set_option maxHeartbeats 2000000
namespace MR
open PySem PySem.Spec PyProof.Rows L2
variable [Tq]
/-! ### a caught error: its class, its fields -/
noncomputable def gIsX (x : List (D × D)) (b : Bool) : D → Option Rs
  | .dict k => @ite _ (k = x) (Classical.propDecidable _) (some (.val (.bool b))) none
  | _ => none
theorem gIsX_ok (x : List (D × D)) (b : Bool) : gIsX x b (.dict x) = some (.val (.bool b)) := if_pos rfl
section
variable {X : Cx} {a D : Addr} {W : WX} {e : Expr} {fe : Ev} {d : Option (Addr × List (Str × V))} {p p2 pos : Pos}
end
section
variable {X : Cx} {a D : Addr} {W : WX} {e : Expr} {fe : Ev} {d : Option (Addr × List (Str × V))} {pos : Pos}
end
end MR

set_option Elab.async false
set_option linter.all false
set_option maxRecDepth 100000
set_option maxHeartbeats 2000000
namespace MR
open PySem PySem.Spec PyProof.Rows L2
variable [Tq]
/-! ### count and index: of bools, of ints -/
section
variable {X : Fm} {W : WX} {o e : Expr} {fo fe : Ev} {apos cpos : Pos}
end
end MR

set_option Elab.async false
set_option linter.all false
set_option maxRecDepth 100000
set_option maxHeartbeats 2000000
namespace MR
open PySem PySem.Spec PyProof.Rows L2
variable [Tq]
/-! ### a def that calls what it got under try -/
/-- what happens in a frame that holds no list of its caller's -/
structure Qt (F H F2 H2 : Hp) : Prop where
  up : Ex F F2
  ex : Ex F2 H2
  new : ∀ p o, F2 p = some o → F p = none → No H p
  keep : Kp (fun _ _ => False) H H2
  nt : ∀ b ps, F2 b = some (.tbl ps) → F b = some (.tbl ps)
  grow : ∀ b, No H2 b → No H b
section
variable {K : PySem.W.Frag} {F H F1 H1 F2 H2 : Hp} {σ σ1 σ2 : L2.St} {e e1 e2 : Env} {O O1 O2 : Nat → Addr → Prop}
theorem Stp.qt (t : Stp K F H σ e O F2 H2 σ2 e2 O2) (no : ∀ i a, ¬ O i a) : Qt F H F2 H2 :=
  ⟨t.up, t.sta.ex, fun p o q n => (t.new p o q n).elim id fun ⟨i, z⟩ => (no i p z).elim, ⟨fun b o q _ h => t.keep.1 b o q (fun i z => no i b z) h, t.keep.2⟩, fun b ps h => (t.sta.tab.2 b ps h).elim, t.grow⟩
theorem Qt.stp (a : Qt F H F1 H1) (s : Sta K F H σ e O) : Stp K F H σ e O F1 H1 σ e O := by
  refine ⟨⟨a.ex, s.len, fun i sl q => ?_, s.out, s.sep, (s.tab.kp a.keep.2).nt a.nt⟩, rfl, a.up, fun p o q n => .inl (a.new p o q n), ⟨fun b o q _ h => a.keep.1 b o q (fun _ z => z) h, a.keep.2⟩, a.grow, fun i p q => .inl ⟨i, q⟩, fun j xs q => ⟨⟨xs, q⟩, rfl, fun _ h => h⟩⟩
  obtain ⟨x, e1, z⟩ := s.slot i sl q
  refine ⟨x, e1, ?_⟩
  cases sl with
  | un => exact z
  | val d =>
    obtain ⟨⟨w, e2, e3⟩, e4⟩ := z
    exact ⟨⟨w, e2, dp_mono a.up _ _ e3⟩, e4⟩
  | own p ys =>
    obtain ⟨b, us, e2, e3, e4, e5, e6⟩ := z
    refine ⟨b, us, e2, a.keep.1 _ _ e3 (fun _ z => z) nofun, ?_, dpa_mono a.up _ _ e5, e6⟩
    cases y : F1 b with
    | none => rfl
    | some o =>
      exact (a.new b o y e4).no e3
end
def sErrOf (errD : Er → Option D) (fb : Ev) : Ev := fun e => match fb e with
  | some (.err x, e') => (errD x).map fun rd => (.val rd, e')
  | some (_, e') => some (.val .none, e')
  | none => none
section
variable {P : Program} {w : World} {K : PySem.W.Frag} {mg : Str → Option Value} {base : Heap}
end
end MR

set_option Elab.async false
set_option linter.all false
set_option maxRecDepth 100000
set_option maxHeartbeats 2000000
namespace MR
open PySem PySem.Spec PyProof.Rows L2
variable [Tq]
/-! ### the classes of errors of a text, all of one base -/
section
variable {X : Cx} {a D : Addr} {W : WX} {e : Expr} {fe : Ev} {d : Option (Addr × List (Str × V))} {p p2 pos : Pos} {names : List Str} {CS : Addr} {n m : Str}
end
end MR
namespace MR
open PySem PySem.Spec PyProof.Rows L2
/-- what _law_error_of says of an error -/
def errNames : List (Str × Str) := [("InvalidPins", "pins"), ("NotReachable", "unreachable"), ("TooFar", "far"), ("InvalidLimit", "limit"), ("InvalidIndex", "index"), ("TooManyRings", "many"), ("InvalidTimes", "times"), ("Contradiction", "contradiction"), ("InvalidName", "name"),
  ("UnknownName", "unknown"), ("InvalidSign", "sign"), ("InvalidAmount", "amount"), ("InvalidMarks", "marks"), ("InvalidSteps", "steps"), ("InvalidMove", "move"), ("InvalidOperation", "operation"), ("InvalidText", "text")]
def errAt (nm : Str) (fs : List (Str × D)) : Option D :=
  if nm = "move" then (match fs.lookup ("position" : Str), fs.lookup ("reason" : Str) with | some p, some r => some (.tuple [.str nm, .tuple [p, r]]) | _, _ => none)
  else if nm = "text" then (fs.lookup ("line" : Str)).map fun l => .tuple [.str nm, l]
  else if nm = "marks" ∨ nm = "steps" ∨ nm = "operation" then (fs.lookup ("position" : Str)).map fun p => .tuple [.str nm, p]
  else some (.tuple [.str nm, .int 0])
def errD (x : Er) : Option D := (errNames.lookup x.cls).bind fun nm => errAt nm x.fs
end MR

set_option Elab.async false
set_option linter.all false
set_option maxRecDepth 100000
set_option maxHeartbeats 2000000
namespace MR
open PySem PySem.Spec PyProof.Rows L2
variable [Tq]
/-! ### int(x) of an int or a bool -/
section
variable {X : Fm} {W : WX} {e : Expr} {fs : List Ev} {p pos : Pos}
end
/-! ### the classes of errors of a text, told by one reckoning -/
end MR

set_option Elab.async false
set_option linter.all false
set_option maxRecDepth 100000
set_option maxHeartbeats 2000000
namespace MR
open PySem PySem.Spec PyProof.Rows L2
/-! ### zip of lists and tuples, as many as there are: the built-in -/
def SqH (kd : Bool) (h : Heap) (l : Addr) (xs : Array Value) : Prop := ∃ o, h.get? l = some o ∧ o.cls = .type (if kd then "list" else "tuple") ∧ ∃ n, o.data = .seq xs n
def ItH (kd : Bool) (h : Heap) (it l : Addr) (i : Nat) : Prop := ∃ o, h.get? it = some o ∧ o.cls = .type (if kd then "list_iterator" else "tuple_iterator") ∧ o.data = .fields #[.ref l, .int i 0]
theorem SqH.at {kd : Bool} {h h' : Heap} {l : Addr} {xs : Array Value} (a : SqH kd h l xs) (k : ∀ o, h.get? l = some o → h'.get? l = some o) : SqH kd h' l xs :=
  let ⟨o, h1, r⟩ := a; ⟨o, k o h1, r⟩
theorem ItH.at {kd : Bool} {h h' : Heap} {it l : Addr} {i : Nat} (a : ItH kd h it l i) (k : ∀ o, h.get? it = some o → h'.get? it = some o) : ItH kd h' it l i :=
  let ⟨o, h1, r⟩ := a; ⟨o, k o h1, r⟩
section
variable {prog : Program} {w : World} {A : Around} {E : Value → Shared → Prop} {s : Shared}
theorem next_item {kd : Bool} {it l : Addr} {i : Nat} {xs : Array Value} {x : Value} {Q : Value → Shared → Prop} (hit : ItH kd s.heap it l i) (hl : SqH kd s.heap l xs) (hx : xs[i]? = some x)
    (hQ : ∀ h', ItH kd h' it l (i + 1) → Heap.SameBut it s.heap h' → Q x { s with heap := h' }) : wpAny (model prog w) A (Builtin.SmallTypes.nextOf (.ref it)) Q E s := by
  cases kd with
  | true => exact wpAny_nextOf_list_item hit hl hx hQ
  | false => exact RZ.nextOf_tuple_item hit hl hx hQ
theorem next_end {kd : Bool} {it l : Addr} {i : Nat} {xs : Array Value} {Q : Value → Shared → Prop} (hh : A.handled = none) (hit : ItH kd s.heap it l i) (hl : SqH kd s.heap l xs) (hx : xs[i]? = none)
    (hE : ∀ h' e, Heap.ExtBut it s.heap h' → (∃ o, h'.get? e = some o ∧ o.cls = .type "StopIteration") → E (.ref e) { s with heap := h' }) : wpAny (model prog w) A (Builtin.SmallTypes.nextOf (.ref it)) Q E s := by
  cases kd with
  | true => exact wpAny_nextOf_list_end hh hit hl hx hE
  | false => exact RZ.nextOf_tuple_end hh hit hl hx hE
/-- a loop whose turns all go on -/
theorem forIn_go {α σ : Type} {body : α → σ → Sem (ForInStep σ)} {Q : σ → Shared → Prop} {st : σ} : ∀ {l : List α} (I : List α → Shared → Prop) {s : Shared},
    (∀ a r s, I (a :: r) s → wpAny (model prog w) A (body a st) (fun y s' => y = .yield st ∧ I r s') E s) → I l s → (∀ s', I [] s' → Q st s') → wpAny (model prog w) A (forIn l st body) Q E s
  | [], I, s, hb, h0, hq => by
    rw [List.forIn_nil]
    exact wpAny_pure (hq s h0)
  | a :: r, I, s, hb, h0, hq => by
    rw [List.forIn_cons]
    refine wpAny_bind (wpAny_mono (hb a r s h0) (fun y s' h => ?_) fun _ _ h => h)
    obtain ⟨rfl, h⟩ := h
    exact forIn_go (l := r) I hb h hq
/-- a loop of which one turn fails -/
theorem forIn_fail {α σ : Type} {body : α → σ → Sem (ForInStep σ)} {Q : σ → Shared → Prop} {st : σ} : ∀ {l : List α} (I : List α → Shared → Prop) {s : Shared},
    (∀ a r s, I (a :: r) s → wpAny (model prog w) A (body a st) (fun y s' => y = .yield st ∧ I r s') E s) → I l s → (∀ s', I [] s' → False) → wpAny (model prog w) A (forIn l st body) Q E s
  | [], I, s, hb, h0, hq => (hq s h0).elim
  | a :: r, I, s, hb, h0, hq => by
    rw [List.forIn_cons]
    refine wpAny_bind (wpAny_mono (hb a r s h0) (fun y s' h => ?_) fun _ _ h => h)
    obtain ⟨rfl, h⟩ := h
    exact forIn_fail (l := r) I hb h hq
/-- one of the walked things: its iterator, what it walks, the items, the item at hand -/
structure ZE where
  it : Addr
  l : Addr
  kd : Bool
  xs : Array Value
  x : Value
abbrev IsTp (h : Heap) (T : Addr) (us : List Value) : Prop := h.get? T = some { cls := .type "tuple", data := .seq us.toArray }
structure ZA (z TI TO : Addr) (qs : List ZE) : Prop where
  TIz : TI ≠ z
  TOz : TO ≠ z
  TITO : TI ≠ TO
  itz : ∀ q ∈ qs, q.it ≠ z
  itTO : ∀ q ∈ qs, q.it ≠ TO
  lz : ∀ q ∈ qs, q.l ≠ z
  lTO : ∀ q ∈ qs, q.l ≠ TO
  lit : ∀ q ∈ qs, ∀ p ∈ qs, q.l ≠ p.it
  nd : qs.Pairwise fun p q => p.it ≠ q.it
theorem updN {T : Addr} {us : List Value} {x : Value} {k : Nat} {Q : Unit → Shared → Prop} (hT : IsTp s.heap T us) (hz : us.length ≤ 100) (h : ∀ h', IsTp h' T (us.set k x) → Heap.SameBut T s.heap h' → Q () { s with heap := h' }) :
    wpAny (model prog w) A (updateSeq T (·.setIfInBounds k x)) Q E s := by
  have e : us.toArray.size ≤ 100 := by rw [List.size_toArray]; exact hz
  refine wpAny_updateSeq hT rfl (h _ ?_ (Heap.SameBut.update ..)) (hz := by rw [sizeLine_eq]; exact Nat.le_trans e (by decide)) (_hz' := by rw [Array.size_setIfInBounds, sizeLine_eq]; exact Nat.le_trans e (by decide))
  show Heap.get? _ _ = _
  rw [Heap.get?_update_self _ hT rfl]
  simp [Obj.mapSeq]
theorem zipN_next_item {z TI TO : Addr} {k : Nat} {qs : List ZE} {old : List Value} {Q : Value → Shared → Prop} (hne : qs ≠ []) (D : ZA z TI TO qs)
    (hz : IsZip s.heap z TI TO .none) (hTI : IsTp s.heap TI (qs.map fun q => .ref q.it)) (hTO : IsTp s.heap TO old) (hlen : old.length = qs.length) (hsm : qs.length ≤ 100)
    (hit : ∀ q ∈ qs, ItH q.kd s.heap q.it q.l k) (hsq : ∀ q ∈ qs, SqH q.kd s.heap q.l q.xs) (hx : ∀ q ∈ qs, q.xs[k]? = some q.x)
    (hQ : ∀ h', IsZip h' z TI TO (rawInt s.heap.objs.size) → IsTp h' TO (qs.map (·.x)) → (∀ q ∈ qs, ItH q.kd h' q.it q.l (k + 1)) → IsTp h' s.heap.objs.size (qs.map (·.x)) → h'.objs.size = s.heap.objs.size + 1 →
      (∀ c o, c ≠ z → c ≠ TO → (∀ q ∈ qs, c ≠ q.it) → s.heap.get? c = some o → h'.get? c = some o) → Q (.ref s.heap.objs.size) { s with heap := h' }) :
    wpAny (model prog w) A (Builtin.«zip.__next__» ⟨[.ref z], []⟩) (fun fin s' => ∃ v, fin = .done (.ret v) ∧ Q v s') E s := by
  show wpAny _ _ (field (.ref z) 2 >>= _) _ _ _
  refine wpAny_bind (wpAny_field hz rfl (x := .bool false) rfl ?_)
  show wpAny _ _ (field (.ref z) 3 >>= _) _ _ _
  refine wpAny_bind (wpAny_field hz rfl (x := .ref TI) rfl ?_)
  refine wpAny_bind (wpAny_seqItems hTI rfl ?_)
  have hemp : (qs.map fun q => Value.ref q.it).toArray.isEmpty = false := by
    cases qs with
    | nil => exact absurd rfl hne
    | cons q r => rfl
  simp only [hemp]
  show wpAny _ _ (Builtin.SmallTypes.ownedTupleIsFree (.ref z) >>= _) _ _ _
  refine wpAny_bind ?_
  unfold Builtin.SmallTypes.ownedTupleIsFree
  refine wpAny_bind (wpAny_field hz rfl (x := .none) rfl (wpAny_pure ?_))
  simp only [if_true]
  refine wpAny_bind (wpAny_rule ?_)
  refine wpAny_bind (wpAny_field hz rfl (x := .ref TO) rfl ?_)
  refine wpAny_bind (wpAny_setField_rec hz (by simp) fun h₁ hz₁ hs₁ => ?_)
  replace hz₁ : IsZip h₁ z TI TO .ellipsis := hz₁
  refine wpAny_bind ?_
  refine forIn_go (fun rest s' => ∃ (done todo : List ZE) (cur : List Value) (h' : Heap), s' = { s with heap := h' } ∧ qs = done ++ todo ∧ rest = (todo.map fun q => Value.ref q.it).zipIdx done.length ∧ IsTp h' TO (done.map (·.x) ++ cur) ∧ cur.length = todo.length ∧
    (∀ q ∈ done, ItH q.kd h' q.it q.l (k + 1)) ∧ (∀ q ∈ todo, ItH q.kd h' q.it q.l k) ∧ (∀ c o, c ≠ TO → (∀ q ∈ qs, c ≠ q.it) → h₁.get? c = some o → h'.get? c = some o) ∧ h'.objs.size = h₁.objs.size) ?_ ?_ ?_
  · rintro a r s' ⟨done, todo, cur, h', rfl, hq, hr, hTO', hc, hd, ht, hk, hsz⟩
    cases todo with
    | nil => cases hr
    | cons q todo =>
      rw [List.map_cons, List.zipIdx_cons] at hr
      cases hr
      have hm : q ∈ qs := by rw [hq]; exact List.mem_append_right _ List.mem_cons_self
      have hsub : ∀ p ∈ done, p ∈ qs := fun p hp => by rw [hq]; exact List.mem_append_left _ hp
      have hsub2 : ∀ p ∈ todo, p ∈ qs := fun p hp => by rw [hq]; exact List.mem_append_right _ (List.mem_cons_of_mem _ hp)
      have hnd := D.nd
      rw [hq, List.pairwise_append, List.pairwise_cons] at hnd
      obtain ⟨_, ⟨hnd2, _⟩, hnd3⟩ := hnd
      have sq := (hsq q hm).at fun o e => hk _ o (D.lTO q hm) (D.lit q hm) (hs₁.extBut _ _ (D.lz q hm) e)
      refine wpAny_bind (wpAny_onRaise ?_)
      show wpAny _ _ (Builtin.SmallTypes.nextOf (.ref q.it) >>= _) _ _ _
      refine wpAny_bind (next_item (ht q List.mem_cons_self) sq (hx q hm) fun h₂ h1₂ hs₂ => wpAny_pure ?_)
      cases cur with
      | nil => cases hc
      | cons y cur =>
        have hTO₂ : IsTp h₂ TO (done.map (·.x) ++ y :: cur) := hs₂.extBut _ _ (D.itTO q hm).symm hTO'
        refine wpAny_bind (wpAny_seqItems hTO₂ rfl ?_)
        have hcl : done.length + (cur.length + 1) ≤ 100 := by
          have e1 := congrArg List.length hq
          simp only [List.length_append, List.length_cons] at e1 hc
          omega
        refine wpAny_bind (updN hTO₂ (by simp only [List.length_append, List.length_map, List.length_cons]; exact hcl) fun h₃ hTO₃ hs₃ => ?_)
        refine wpAny_bind (wpAny_letGo (wpAny_pure ⟨rfl, ?_⟩))
        refine ⟨done ++ [q], todo, cur, _, rfl, by rw [hq, List.append_assoc]; rfl, by rw [List.length_append]; rfl, ?_, by simpa using hc, fun p hp => ?_, fun p hp => ?_, fun c o c1 c2 e => ?_, ?_⟩
        · have e : (done.map (·.x) ++ y :: cur).set done.length q.x = (done ++ [q]).map (·.x) ++ cur := by simp
          rw [← e]
          exact hTO₃
        · rcases List.mem_append.mp hp with hp | hp
          · exact (hd p hp).at fun o e => hs₃.extBut _ _ (D.itTO p (hsub p hp)) (hs₂.extBut _ _ (hnd3 p hp q List.mem_cons_self) e)
          · rw [List.mem_singleton.mp hp]
            exact h1₂.at fun o e => hs₃.extBut _ _ (D.itTO q hm) e
        · exact (ht p (List.mem_cons_of_mem _ hp)).at fun o e => hs₃.extBut _ _ (D.itTO p (hsub2 p hp)) (hs₂.extBut _ _ (hnd2 p hp).symm e)
        · exact hs₃.extBut _ _ c1 (hs₂.extBut _ _ (c2 q hm) (hk c o c1 c2 e))
        · rw [hs₃.1, hs₂.1]; exact hsz
  · exact ⟨[], qs, old, h₁, rfl, rfl, by simp, hs₁.extBut _ _ D.TOz hTO, hlen, fun _ h => (by cases h), fun q hq => (hit q hq).at fun o e => hs₁.extBut _ _ (D.itz q hq) e, fun c o _ _ e => e, rfl⟩
  · rintro s' ⟨done, todo, cur, h₅, rfl, hq, hr, hTO₅, hc, hd, ht, hk, hsz⟩
    cases todo with
    | cons q todo => cases hr
    | nil =>
      cases cur with
      | cons y cur => cases hc
      | nil =>
        rw [List.append_nil] at hq hTO₅
        subst hq
        refine wpAny_bind (wpAny_seqItems hTO₅ rfl ?_)
        refine wpAny_bind (wpAny_newTuple ?_ (hsz := by simp only [List.length_map, sizeLine_eq]; exact Nat.le_trans hsm (by decide)))
        have hsz : h₅.objs.size = s.heap.objs.size := by rw [hsz, hs₁.1]
        have hz₅ : IsZip h₅ z TI TO .ellipsis := hk _ _ D.TOz.symm (fun q hq => (D.itz q hq).symm) hz₁
        have hk₅ : ∀ c o, c ≠ z → c ≠ TO → (∀ q ∈ qs, c ≠ q.it) → s.heap.get? c = some o → h₅.get? c = some o := fun c o c1 c2 c3 e => hk _ _ c2 c3 (hs₁.extBut _ _ c1 e)
        have hzlt : z < h₅.objs.size := Heap.lt_size hz₅
        have hTOlt : TO < h₅.objs.size := Heap.lt_size hTO₅
        show wpAny _ _ (Builtin.SmallTypes.ownedTupleHandOut (.ref z) (.ref h₅.objs.size) >>= _) _ _ _
        refine wpAny_bind ?_
        unfold Builtin.SmallTypes.ownedTupleHandOut
        have hz₆ : IsZip (h₅.push { cls := .type "tuple", data := .seq (qs.map (·.x)).toArray.toList.toArray }) z TI TO .ellipsis := Heap.get?_push_of_some _ hz₅
        refine wpAny_bind (wpAny_setField_rec hz₆ (by simp) fun h₇ hz₇ hs₇ => ?_)
        replace hz₇ : IsZip h₇ z TI TO (rawInt h₅.objs.size) := hz₇
        refine wpAny_setField_rec hz₇ (by simp) fun h₈ hz₈ hs₈ => ?_
        replace hz₈ : IsZip h₈ z TI TO (rawInt h₅.objs.size) := hz₈
        have up : ∀ c o, c ≠ z → h₅.get? c = some o → h₈.get? c = some o := fun c o c1 e => hs₈.extBut _ _ c1 (hs₇.extBut _ _ c1 (Heap.get?_push_of_some _ e))
        have hT₈ : IsTp h₈ h₅.objs.size (qs.map (·.x)) := hs₈.extBut _ _ (Nat.ne_of_gt hzlt) (hs₇.extBut _ _ (Nat.ne_of_gt hzlt) (Heap.get?_push_size _ rfl))
        have hz8 : h₈.objs.size = h₅.objs.size + 1 := by rw [hs₈.1, hs₇.1, Heap.size_push]
        rw [hsz] at hz₈ hT₈ hz8
        refine wpAny_pure ⟨_, rfl, ?_⟩
        show Q (.ref h₅.objs.size) _
        rw [hsz]
        exact hQ h₈ hz₈ (up _ _ D.TOz hTO₅) (fun q hq => (hd q hq).at fun o e => up _ o (D.itz q hq) e) hT₈ hz8 fun c o c1 c2 c3 e => up c o c1 (hk₅ c o c1 c2 c3 e)
theorem zipN_next_end {z TI TO : Addr} {k : Nat} {qs : List ZE} {old : List Value} {Q : Fin → Shared → Prop} (hh : A.handled = none) (hne : qs ≠ []) (D : ZA z TI TO qs)
    (hz : IsZip s.heap z TI TO .none) (hTI : IsTp s.heap TI (qs.map fun q => .ref q.it)) (hTO : IsTp s.heap TO old) (hlen : old.length = qs.length) (hsm : qs.length ≤ 100)
    (hit : ∀ q ∈ qs, ItH q.kd s.heap q.it q.l k) (hsq : ∀ q ∈ qs, SqH q.kd s.heap q.l q.xs) (hx : ∀ q ∈ qs, q.xs[k]? = some q.x ∨ q.xs[k]? = none) (hend : ∃ q ∈ qs, q.xs[k]? = none)
    (hE : ∀ h' e, (∀ c o, c ≠ z → c ≠ TO → (∀ q ∈ qs, c ≠ q.it) → s.heap.get? c = some o → h'.get? c = some o) → (∃ o, h'.get? e = some o ∧ o.cls = .type "StopIteration") → E (.ref e) { s with heap := h' }) :
    wpAny (model prog w) A (Builtin.«zip.__next__» ⟨[.ref z], []⟩) Q E s := by
  show wpAny _ _ (field (.ref z) 2 >>= _) _ _ _
  refine wpAny_bind (wpAny_field hz rfl (x := .bool false) rfl ?_)
  show wpAny _ _ (field (.ref z) 3 >>= _) _ _ _
  refine wpAny_bind (wpAny_field hz rfl (x := .ref TI) rfl ?_)
  refine wpAny_bind (wpAny_seqItems hTI rfl ?_)
  have hemp : (qs.map fun q => Value.ref q.it).toArray.isEmpty = false := by
    cases qs with
    | nil => exact absurd rfl hne
    | cons q r => rfl
  simp only [hemp]
  show wpAny _ _ (Builtin.SmallTypes.ownedTupleIsFree (.ref z) >>= _) _ _ _
  refine wpAny_bind ?_
  unfold Builtin.SmallTypes.ownedTupleIsFree
  refine wpAny_bind (wpAny_field hz rfl (x := .none) rfl (wpAny_pure ?_))
  simp only [if_true]
  refine wpAny_bind (wpAny_rule ?_)
  refine wpAny_bind (wpAny_field hz rfl (x := .ref TO) rfl ?_)
  refine wpAny_bind (wpAny_setField_rec hz (by simp) fun h₁ hz₁ hs₁ => ?_)
  replace hz₁ : IsZip h₁ z TI TO .ellipsis := hz₁
  refine wpAny_bind ?_
  refine forIn_fail (fun rest s' => ∃ (done todo : List ZE) (cur : List Value) (h' : Heap), s' = { s with heap := h' } ∧ qs = done ++ todo ∧ rest = (todo.map fun q => Value.ref q.it).zipIdx done.length ∧ IsTp h' TO (done.map (·.x) ++ cur) ∧ cur.length = todo.length ∧
    (∀ q ∈ todo, ItH q.kd h' q.it q.l k) ∧ (∀ c o, c ≠ TO → (∀ q ∈ qs, c ≠ q.it) → h₁.get? c = some o → h'.get? c = some o) ∧ ∃ q ∈ todo, q.xs[k]? = none) ?_ ?_ ?_
  · rintro a r s' ⟨done, todo, cur, h', rfl, hq, hr, hTO', hc, ht, hk, hen⟩
    cases todo with
    | nil => cases hr
    | cons q todo =>
      rw [List.map_cons, List.zipIdx_cons] at hr
      cases hr
      have hm : q ∈ qs := by rw [hq]; exact List.mem_append_right _ List.mem_cons_self
      have hsub2 : ∀ p ∈ todo, p ∈ qs := fun p hp => by rw [hq]; exact List.mem_append_right _ (List.mem_cons_of_mem _ hp)
      have hnd := D.nd
      rw [hq, List.pairwise_append, List.pairwise_cons] at hnd
      obtain ⟨_, ⟨hnd2, _⟩, _⟩ := hnd
      have sq := (hsq q hm).at fun o e => hk _ o (D.lTO q hm) (D.lit q hm) (hs₁.extBut _ _ (D.lz q hm) e)
      have hz' : IsZip h' z TI TO .ellipsis := hk _ _ D.TOz.symm (fun q hq => (D.itz q hq).symm) hz₁
      refine wpAny_bind (wpAny_onRaise ?_)
      show wpAny _ _ (Builtin.SmallTypes.nextOf (.ref q.it) >>= _) _ _ _
      rcases hx q hm with hx1 | hx1
      · refine wpAny_bind (next_item (ht q List.mem_cons_self) sq hx1 fun h₂ h1₂ hs₂ => wpAny_pure ?_)
        cases cur with
        | nil => cases hc
        | cons y cur =>
          have hTO₂ : IsTp h₂ TO (done.map (·.x) ++ y :: cur) := hs₂.extBut _ _ (D.itTO q hm).symm hTO'
          refine wpAny_bind (wpAny_seqItems hTO₂ rfl ?_)
          have hcl : done.length + (cur.length + 1) ≤ 100 := by
            have e1 := congrArg List.length hq
            simp only [List.length_append, List.length_cons] at e1 hc
            omega
          refine wpAny_bind (updN hTO₂ (by simp only [List.length_append, List.length_map, List.length_cons]; exact hcl) fun h₃ hTO₃ hs₃ => ?_)
          refine wpAny_bind (wpAny_letGo (wpAny_pure ⟨rfl, ?_⟩))
          refine ⟨done ++ [q], todo, cur, _, rfl, by rw [hq, List.append_assoc]; rfl, by rw [List.length_append]; rfl, ?_, by simpa using hc, fun p hp => ?_, fun c o c1 c2 e => ?_, ?_⟩
          · have e : (done.map (·.x) ++ y :: cur).set done.length q.x = (done ++ [q]).map (·.x) ++ cur := by simp
            rw [← e]
            exact hTO₃
          · exact (ht p (List.mem_cons_of_mem _ hp)).at fun o e => hs₃.extBut _ _ (D.itTO p (hsub2 p hp)) (hs₂.extBut _ _ (hnd2 p hp).symm e)
          · exact hs₃.extBut _ _ c1 (hs₂.extBut _ _ (c2 q hm) (hk c o c1 c2 e))
          · obtain ⟨p, hp, hn⟩ := hen
            rcases List.mem_cons.mp hp with rfl | hp
            · rw [hx1] at hn; cases hn
            · exact ⟨p, hp, hn⟩
      · refine wpAny_bind (next_end hh (ht q List.mem_cons_self) sq hx1 fun h₂ e hs₂ he => ?_)
        obtain ⟨oe, hoe, hce⟩ := he
        have hz₂ : IsZip h₂ z TI TO .ellipsis := hs₂ _ _ (D.itz q hm).symm hz'
        have hez : e ≠ z := fun x => by subst x; rw [hz₂] at hoe; cases hoe; simp at hce
        exact wpAny_setField_rec hz₂ (by simp) fun h₃ _ hs₃ => hE h₃ e (fun c o c1 c2 c3 x => hs₃.extBut _ _ c1 (hs₂ _ _ (c3 q hm) (hk c o c2 c3 (hs₁.extBut _ _ c1 x)))) ⟨oe, hs₃.extBut _ _ hez hoe, hce⟩
  · exact ⟨[], qs, old, h₁, rfl, rfl, by simp, hs₁.extBut _ _ D.TOz hTO, hlen, fun q hq => (hit q hq).at fun o e => hs₁.extBut _ _ (D.itz q hq) e, fun c o _ _ e => e, hend⟩
  · rintro s' ⟨done, todo, cur, h₅, rfl, hq, hr, hTO₅, hc, ht, hk, hen⟩
    cases todo with
    | cons q todo => cases hr
    | nil =>
      obtain ⟨p, hp, _⟩ := hen
      cases hp
theorem pyNext_zipN_item {z TI TO : Addr} {k : Nat} {qs : List ZE} {old : List Value} {Q : Option Value → Shared → Prop} (hne : qs ≠ []) (D : ZA z TI TO qs)
    (hz : IsZip s.heap z TI TO .none) (hTI : IsTp s.heap TI (qs.map fun q => .ref q.it)) (hTO : IsTp s.heap TO old) (hlen : old.length = qs.length) (hsm : qs.length ≤ 100)
    (hit : ∀ q ∈ qs, ItH q.kd s.heap q.it q.l k) (hsq : ∀ q ∈ qs, SqH q.kd s.heap q.l q.xs) (hx : ∀ q ∈ qs, q.xs[k]? = some q.x)
    (hQ : ∀ h', IsZip h' z TI TO (rawInt s.heap.objs.size) → IsTp h' TO (qs.map (·.x)) → (∀ q ∈ qs, ItH q.kd h' q.it q.l (k + 1)) → IsTp h' s.heap.objs.size (qs.map (·.x)) → h'.objs.size = s.heap.objs.size + 1 →
      (∀ c o, c ≠ z → c ≠ TO → (∀ q ∈ qs, c ≠ q.it) → s.heap.get? c = some o → h'.get? c = some o) → Q (some (.ref s.heap.objs.size)) { s with heap := h' }) :
    wpAny (model prog w) A (pyNext (.ref z)) Q E s := by
  have hT : s.TypeIs (.ref z) "zip" := ⟨_, hz, rfl⟩
  unfold pyNext
  exact wpAny_bind (wpAny_attempt (wpAny_callSpecial?_slot (name := Str.ofString "__next__") hT F.slot_zip_next
    (wpAny_call_entry F.slot_zip_next hT F.entry_zip_next
      (zipN_next_item hne D hz hTI hTO hlen hsm hit hsq hx fun h' a1 a2 a3 a4 a5 a6 => wpAny_pure (hQ h' a1 a2 a3 a4 a5 a6)) (F.args_zip_next_1 _))))
theorem pyNext_zipN_end {z TI TO : Addr} {k : Nat} {qs : List ZE} {old : List Value} {Q : Option Value → Shared → Prop} (hh : A.handled = none) (hne : qs ≠ []) (D : ZA z TI TO qs)
    (hz : IsZip s.heap z TI TO .none) (hTI : IsTp s.heap TI (qs.map fun q => .ref q.it)) (hTO : IsTp s.heap TO old) (hlen : old.length = qs.length) (hsm : qs.length ≤ 100)
    (hit : ∀ q ∈ qs, ItH q.kd s.heap q.it q.l k) (hsq : ∀ q ∈ qs, SqH q.kd s.heap q.l q.xs) (hx : ∀ q ∈ qs, q.xs[k]? = some q.x ∨ q.xs[k]? = none) (hend : ∃ q ∈ qs, q.xs[k]? = none)
    (hQ : ∀ h', (∀ c o, c ≠ z → c ≠ TO → (∀ q ∈ qs, c ≠ q.it) → s.heap.get? c = some o → h'.get? c = some o) → Q none { s with heap := h' }) : wpAny (model prog w) A (pyNext (.ref z)) Q E s := by
  have hT : s.TypeIs (.ref z) "zip" := ⟨_, hz, rfl⟩
  unfold pyNext
  refine wpAny_bind (wpAny_attempt (wpAny_callSpecial?_slot (name := Str.ofString "__next__") hT F.slot_zip_next
    (wpAny_call_entry F.slot_zip_next hT F.entry_zip_next (zipN_next_end hh hne D hz hTI hTO hlen hsm hit hsq hx hend fun h' e hk he => ?_) (F.args_zip_next_1 _))))
  obtain ⟨o, ho, hc⟩ := he
  refine wpAny_bind (wpAny_isInstance (T := "StopIteration") (b := true) ⟨o, ho, hc⟩ isSubtype_stop ?_)
  exact wpAny_pure (hQ _ hk)
end
end MR

set_option Elab.async false
set_option linter.all false
set_option maxRecDepth 100000
set_option maxHeartbeats 4000000
namespace MR
open PySem PySem.Spec PyProof.Rows L2
/-! ### zip made -/
abbrev itN (kd : Bool) : String := if kd then "list_iterator" else "tuple_iterator"
theorem SqH.push {kd : Bool} {h : Heap} {l : Addr} {xs : Array Value} (a : SqH kd h l xs) (o : Obj) : SqH kd (h.push o) l xs := a.at fun _ e => Heap.get?_push_of_some _ e
section
variable {prog : Program} {w : World} {A : Around} {E : Value → Shared → Prop} {s : Shared}
theorem pyIter_sq {kd : Bool} {l : Addr} {xs : Array Value} {Q : Value → Shared → Prop} (hl : SqH kd s.heap l xs)
    (hQ : Q (.ref s.heap.objs.size) { s with heap := s.heap.push { cls := .type (itN kd), data := .fields #[.ref l, .int 0 0] } }) : wpAny (model prog w) A (pyIter (.ref l)) Q E s := by
  cases kd with
  | true => exact wpAny_pyIter_list hl hQ
  | false => exact wpAny_pyIter_tuple hl hQ
end
abbrev zI (h : Heap) (kd : Bool) (l : Addr) : Heap := h.push { cls := .type (itN kd), data := .fields #[.ref l, .int 0 0] }
abbrev zT2 (h : Heap) (k1 k2 : Bool) (l1 l2 : Addr) : Heap := (((zI (zI h k1 l1) k2 l2).push { cls := .type "tuple", data := .seq #[.ref h.objs.size, .ref (zI h k1 l1).objs.size] }).push { cls := .type "tuple", data := .seq #[.none, .none] })
theorem meets_zipM2 (k1 k2 : Bool) (l1 l2 : Addr) (xs ys : Array Value) :
    Meets (Builtin.«zip.__new__» ⟨[.type "zip", .ref l1, .ref l2], []⟩) (fun _ R s => SqH k1 s.heap l1 xs ∧ SqH k2 s.heap l2 ys ∧
      R (.ok (.ret (.ref (zT2 s.heap k1 k2 l1 l2).objs.size))) { s with heap := (zT2 s.heap k1 k2 l1 l2).push { cls := .type "zip", data := .fields #[.none, .bool false, .bool false, .ref (zI (zI s.heap k1 l1) k2 l2).objs.size, .ref ((zI (zI s.heap k1 l1) k2 l2).push { cls := .type "tuple", data := .seq #[.ref s.heap.objs.size, .ref (zI s.heap k1 l1).objs.size] }).objs.size] } }) :=
  .of_wp fun prog w A R s h => by
    obtain ⟨hp, g, d, tk, os⟩ := s; obtain ⟨hl1, hl2, h⟩ := h
    have hsub := sub_zip
    have hL1 : SqH k1 (Shared.heap ⟨hp, g, d, tk, os⟩) l1 xs := hl1
    have hL2 : SqH k2 (Shared.heap ⟨zI hp k1 l1, g, d, tk, os⟩) l2 ys := hl2.push _
    wp_walk using pyIter_sq hL1, pyIter_sq hL2
    exact ⟨_, rfl, h⟩
end MR

set_option Elab.async false
set_option linter.all false
set_option maxRecDepth 100000
set_option maxHeartbeats 4000000
namespace MR
open PySem PySem.Spec PyProof.Rows L2
section
variable {prog : Program} {w : World} {A : Around} {E : Value → Shared → Prop} {s : Shared}
theorem call_zipM2 {k1 k2 : Bool} {l1 l2 : Addr} {xs ys : Array Value} {Q : Value → Shared → Prop} (hl1 : SqH k1 s.heap l1 xs) (hl2 : SqH k2 s.heap l2 ys)
    (h : ∀ h', IsZip h' (s.heap.objs.size + 4) (s.heap.objs.size + 2) (s.heap.objs.size + 3) .none → IsTp h' (s.heap.objs.size + 2) [.ref s.heap.objs.size, .ref (s.heap.objs.size + 1)] →
      IsTp h' (s.heap.objs.size + 3) [.none, .none] → ItH k1 h' s.heap.objs.size l1 0 → ItH k2 h' (s.heap.objs.size + 1) l2 0 →
      (∀ c o, s.heap.get? c = some o → h'.get? c = some o) → Q (.ref (s.heap.objs.size + 4)) { s with heap := h' }) :
    wpAny (model prog w) A (call (.type "zip") [.ref l1, .ref l2]) Q E s := by
  refine callType_new F.called_zip (by decide) (F.typeCall_zip_2 _ _) (F.newCall_zip_2 _ _) (fun obj => F.args_object_init_3 obj _ _) F.entry_zip_new
    (meets_zipM2 k1 k2 l1 l2 xs ys) ⟨hl1, hl2, ?_⟩
  unfold zT2
  generalize e1 : zI s.heap k1 l1 = h1
  have z1 : h1.objs.size = s.heap.objs.size + 1 := by rw [← e1]; exact Heap.size_push ..
  generalize e2 : zI h1 k2 l2 = h2
  have z2 : h2.objs.size = s.heap.objs.size + 2 := by rw [← e2]; show (h1.push _).objs.size = _; rw [Heap.size_push, z1]
  generalize e3 : h2.push { cls := .type "tuple", data := .seq #[.ref s.heap.objs.size, .ref h1.objs.size] } = h3
  have z3 : h3.objs.size = s.heap.objs.size + 3 := by rw [← e3]; show (h2.push _).objs.size = _; rw [Heap.size_push, z2]
  generalize e4 : h3.push { cls := .type "tuple", data := .seq #[.none, .none] } = h4
  have z4 : h4.objs.size = s.heap.objs.size + 4 := by rw [← e4]; show (h3.push _).objs.size = _; rw [Heap.size_push, z3]
  have u0 : ∀ c o, s.heap.get? c = some o → h1.get? c = some o := fun c o x => by rw [← e1]; exact Heap.get?_push_of_some _ x
  have u1 : ∀ c o, h1.get? c = some o → h2.get? c = some o := fun c o x => by rw [← e2]; exact Heap.get?_push_of_some _ x
  have u2 : ∀ c o, h2.get? c = some o → h3.get? c = some o := fun c o x => by rw [← e3]; exact Heap.get?_push_of_some _ x
  have u3 : ∀ c o, h3.get? c = some o → h4.get? c = some o := fun c o x => by rw [← e4]; exact Heap.get?_push_of_some _ x
  rw [z2, z3, z4]
  have g1 : h1.get? s.heap.objs.size = some { cls := .type (itN k1), data := .fields #[.ref l1, .int 0 0] } := by rw [← e1]; exact Heap.get?_push_size _ rfl
  have g2 : h2.get? (s.heap.objs.size + 1) = some { cls := .type (itN k2), data := .fields #[.ref l2, .int 0 0] } := by rw [← e2, ← z1]; exact Heap.get?_push_size _ rfl
  have g3 : h3.get? (s.heap.objs.size + 2) = some { cls := .type "tuple", data := .seq #[.ref s.heap.objs.size, .ref (s.heap.objs.size + 1)] } := by rw [← e3, ← z2, ← z1]; exact Heap.get?_push_size _ rfl
  have g4 : h4.get? (s.heap.objs.size + 3) = some { cls := .type "tuple", data := .seq #[.none, .none] } := by rw [← e4, ← z3]; exact Heap.get?_push_size _ rfl
  have g5 : (h4.push { cls := .type "zip", data := .fields #[.none, .bool false, .bool false, .ref (s.heap.objs.size + 2), .ref (s.heap.objs.size + 3)] }).get? (s.heap.objs.size + 4) = some { cls := .type "zip", data := .fields #[.none, .bool false, .bool false, .ref (s.heap.objs.size + 2), .ref (s.heap.objs.size + 3)] } := by rw [← z4]; exact Heap.get?_push_size _ rfl
  have u4 : ∀ c o, h4.get? c = some o → (h4.push { cls := .type "zip", data := .fields #[.none, .bool false, .bool false, .ref (s.heap.objs.size + 2), .ref (s.heap.objs.size + 3)] }).get? c = some o := fun c o x => Heap.get?_push_of_some _ x
  exact ⟨⟨_, g5, rfl⟩, h _ g5 (u4 _ _ (u3 _ _ g3)) (u4 _ _ g4) ⟨_, u4 _ _ (u3 _ _ (u2 _ _ (u1 _ _ g1))), rfl, rfl⟩ ⟨_, u4 _ _ (u3 _ _ (u2 _ _ g2)), rfl, rfl⟩ fun c o x => u4 _ _ (u3 _ _ (u2 _ _ (u1 _ _ (u0 _ _ x))))⟩
end
end MR

set_option Elab.async false
set_option linter.all false
set_option maxRecDepth 100000
set_option maxHeartbeats 4000000
namespace MR
open PySem PySem.Spec PyProof.Rows L2
/-! ### zip walked -/
abbrev KA := Addr × Bool × Addr
def sqV (K : PySem.W.Frag) (H : Hp) (kd : Bool) (a : Addr) (xs : List V) : Prop := match kd with
  | true => SqL K H a xs
  | false => SqT K H a xs
inductive AllQ (K : PySem.W.Frag) (H : Hp) : List (Bool × Addr) → List (List V) → Prop where
  | nil : AllQ K H [] []
  | cons {kd : Bool} {a : Addr} {xs : List V} {qs : List (Bool × Addr)} {xss : List (List V)} (h : sqV K H kd a xs) (t : AllQ K H qs xss) : AllQ K H ((kd, a) :: qs) (xs :: xss)
def atN (i : Nat) (xs : List V) : V := xs.getD i .non
/-- the things at qs as they stand at each turn, the items in new tuples -/
def ItZ (K : PySem.W.Frag) (qs : List (Bool × Addr)) : It :=
  ⟨fun i H => ∃ xss : List (List V), AllQ K H qs xss ∧ ∀ xs ∈ xss, i < xs.length,
    fun i H v H' => ∃ (T : Addr) (us : List V) (o : Obj), o.dict = none ∧ v = .ref T ∧ H T = none ∧ H' = upd H T (.frz o (.tup us)) ∧ ∀ xss : List (List V), AllQ K H qs xss → us = xss.map (atN i),
    fun i H => ∃ xss : List (List V), AllQ K H qs xss ∧ ∃ xs ∈ xss, xs.length ≤ i⟩
structure ZAK (z TI TO : Addr) (zs : List KA) : Prop where
  TIz : TI ≠ z
  TOz : TO ≠ z
  TITO : TI ≠ TO
  itz : ∀ q ∈ zs, q.1 ≠ z
  itTO : ∀ q ∈ zs, q.1 ≠ TO
  itTI : ∀ q ∈ zs, q.1 ≠ TI
  lz : ∀ q ∈ zs, q.2.2 ≠ z
  lTO : ∀ q ∈ zs, q.2.2 ≠ TO
  lit : ∀ q ∈ zs, ∀ p ∈ zs, q.2.2 ≠ p.1
  nd : zs.Pairwise fun p q => p.1 ≠ q.1
abbrev keyZ (q : ZE) : KA := (q.it, q.kd, q.l)
theorem ZAK.za {z TI TO : Addr} {qs : List ZE} (h : ZAK z TI TO (qs.map keyZ)) : ZA z TI TO qs := by
  have m : ∀ q ∈ qs, keyZ q ∈ qs.map keyZ := fun q hq => List.mem_map.mpr ⟨q, hq, rfl⟩
  refine ⟨h.TIz, h.TOz, h.TITO, fun q hq => h.itz _ (m q hq), fun q hq => h.itTO _ (m q hq), fun q hq => h.lz _ (m q hq), fun q hq => h.lTO _ (m q hq), fun q hq p hp => h.lit _ (m q hq) _ (m p hp), ?_⟩
  have := h.nd
  rw [List.pairwise_map] at this
  exact this
section
variable {X : Cx} {pins : List (Addr × Obj)} {σ : L2.St} {H : Hp} {s : Shared}
theorem allQ_inj (I : Inv X pins σ H s) : ∀ {qs : List (Bool × Addr)} {a b : List (List V)}, AllQ X.K H qs a → AllQ X.K H qs b → a = b
  | _, _, _, .nil, h => by cases h; rfl
  | _, _, _, .cons (kd := kd) h t, h2 => by
    cases h2 with
    | cons h' t' =>
      rw [allQ_inj I t t']
      cases kd with
      | true => rw [I.list_inj h h']
      | false => rw [I.tuple_inj h h']
theorem one_ze (I : Inv X pins σ H s) {kd : Bool} {a : Addr} {xs : List V} (h : sqV X.K H kd a xs) : ∃ its : List Value, Vals xs its ∧ SqH kd s.heap a its.toArray := by
  cases kd with
  | true =>
    obtain ⟨its, rv, p, _⟩ := I.list h
    exact ⟨its, rv, p.isList⟩
  | false =>
    obtain ⟨its, rv, p, _⟩ := I.tuple h
    exact ⟨its, rv, p⟩
theorem mk_ze (I : Inv X pins σ H s) (i : Nat) : ∀ {zs : List KA} {xss : List (List V)}, AllQ X.K H (zs.map (·.2)) xss → ∃ qs : List ZE, qs.map keyZ = zs ∧ (∀ q ∈ qs, SqH q.kd s.heap q.l q.xs) ∧
    ((∀ xs ∈ xss, i < xs.length) → (∀ q ∈ qs, q.xs[i]? = some q.x) ∧ Vals (xss.map (atN i)) (qs.map (·.x))) ∧ (∀ q ∈ qs, q.xs[i]? = some q.x ∨ q.xs[i]? = none) ∧ ((∃ xs ∈ xss, xs.length ≤ i) → ∃ q ∈ qs, q.xs[i]? = none)
  | [], _, h => by
    cases h
    exact ⟨[], rfl, fun _ z => (by cases z), fun _ => ⟨fun _ z => (by cases z), .nil⟩, fun _ z => (by cases z), fun ⟨_, z, _⟩ => (by cases z)⟩
  | (it, kd, l) :: zs, _, h => by
    cases h with
    | @cons _ _ xs _ xss h t =>
      obtain ⟨qs, h1, h2, h3, h4, h5⟩ := mk_ze I i (zs := zs) t
      obtain ⟨its, rv, sq⟩ := one_ze I h
      have hl := rv.length
      refine ⟨⟨it, l, kd, its.toArray, its.getD i .none⟩ :: qs, by rw [List.map_cons, h1], fun q hq => ?_, fun hi => ?_, fun q hq => ?_, fun hi => ?_⟩
      · rcases List.mem_cons.mp hq with rfl | hq
        · exact sq
        · exact h2 q hq
      · have hi0 := hi xs List.mem_cons_self
        obtain ⟨a, b⟩ := h3 fun ys hy => hi ys (List.mem_cons_of_mem _ hy)
        have hii : i < its.length := by omega
        have e1 : its[i]? = some (its.getD i .none) := by rw [List.getD_eq_getElem?_getD, List.getElem?_eq_getElem hii]; rfl
        have e2 : xs[i]? = some (atN i xs) := by unfold atN; rw [List.getD_eq_getElem?_getD, List.getElem?_eq_getElem hi0]; rfl
        refine ⟨fun q hq => ?_, ?_⟩
        · rcases List.mem_cons.mp hq with rfl | hq
          · show its.toArray[i]? = _
            rw [List.getElem?_toArray]
            exact e1
          · exact a q hq
        · obtain ⟨u, hu, ru⟩ := rv.get e2
          rw [e1] at hu
          cases hu
          exact .cons ru b
      · rcases List.mem_cons.mp hq with rfl | hq
        · show its.toArray[i]? = _ ∨ its.toArray[i]? = _
          rw [List.getElem?_toArray]
          show its[i]? = some (its.getD i .none) ∨ _
          rw [List.getD_eq_getElem?_getD]
          cases its[i]? with
          | none => exact .inr rfl
          | some u => exact .inl rfl
        · exact h4 q hq
      · obtain ⟨ys, hy, hle⟩ := hi
        rcases List.mem_cons.mp hy with rfl | hy
        · refine ⟨_, List.mem_cons_self, ?_⟩
          show its.toArray[i]? = _
          rw [List.getElem?_toArray, List.getElem?_eq_none (by omega)]
        · obtain ⟨q, hq, e⟩ := h5 ⟨ys, hy, hle⟩
          exact ⟨q, List.mem_cons_of_mem _ hq, e⟩
end
theorem turn_zipN {P : Program} {w : World} {K : PySem.W.Frag} {elts : List Expr} {kk : Nat} {tpos : Pos} {z TI TO : Addr} {zs : List KA} (D : ZAK z TI TO zs) (hne : zs ≠ []) (hsm : zs.length ≤ 100) :
    Turn P w K (.Tuple elts kk tpos) (ItZ K (zs.map (·.2))) (z :: TI :: TO :: zs.map (·.1)) z
      (fun i h => IsZip h z TI TO .none ∧ IsTp h TI (zs.map fun q => .ref q.1) ∧ (∃ old, IsTp h TO old ∧ old.length = zs.length) ∧ ∀ q ∈ zs, ItH q.2.1 h q.1 q.2.2 i) where
  mem := List.mem_cons_self
  obj := by
    rintro i h ⟨hz, hTI, ⟨old, hTO, _⟩, hi⟩ c hc
    rcases List.mem_cons.mp hc with rfl | hc
    · exact ⟨_, hz, fun v q => nomatch q⟩
    rcases List.mem_cons.mp hc with rfl | hc
    · exact ⟨_, hTI, fun v q => nomatch q⟩
    rcases List.mem_cons.mp hc with rfl | hc
    · exact ⟨_, hTO, fun v q => nomatch q⟩
    · obtain ⟨q, hq, rfl⟩ := List.mem_map.mp hc
      obtain ⟨o, e, _, d⟩ := hi q hq
      exact ⟨o, e, fun v q => by rw [d] at q; cases q⟩
  keep := by
    rintro i h h' ⟨hz, hTI, ⟨old, hTO, hl⟩, hi⟩ k
    exact ⟨k z List.mem_cons_self _ hz, k TI (by simp) _ hTI, ⟨old, k TO (by simp) _ hTO, hl⟩, fun q hq => (hi q hq).at fun o e => k q.1 (List.mem_cons_of_mem _ (List.mem_cons_of_mem _ (List.mem_cons_of_mem _ (List.mem_map.mpr ⟨q, hq, rfl⟩)))) o e⟩
  item := by
    rintro X rfl rfl rfl hc i pins s σ H E I hf ⟨hz, hTI, ⟨old, hTO, hlen⟩, hi⟩ ⟨xss, hq, hlt⟩
    obtain ⟨qs, rfl, h2, h3, _, _⟩ := mk_ze I i hq
    obtain ⟨hx, rv⟩ := h3 hlt
    have m : ∀ q ∈ qs, keyZ q ∈ qs.map keyZ := fun q hq => List.mem_map.mpr ⟨q, hq, rfl⟩
    have hzl : z < s.heap.objs.size := Heap.lt_size hz
    rw [List.length_map] at hlen hsm
    refine pyNext_zipN_item (qs := qs) (by rintro rfl; exact hne rfl) D.za hz (by rw [List.map_map] at hTI; exact hTI) hTO hlen hsm (fun q hq => hi _ (m q hq)) h2 hx fun h' z' TO' hit' hT hsz hk => ?_
    refine ⟨_, rfl, wpAny_letOwnedTupleGo_zip (s := { s with heap := h' }) z' fun h'' z'' sb => ?_⟩
    have hT2 : h''.get? s.heap.objs.size = some (tobj (qs.map (·.x))) := (sb.2 _ (Nat.ne_of_gt hzl)).trans hT
    have hvl := rv.length
    have new : ObjOk X.prog X.w (upd H s.heap.objs.size (.frz (tobj (qs.map (·.x))) (.tup (xss.map (atN i))))) h'' s.heap.objs.size (.frz (tobj (qs.map (·.x))) (.tup (xss.map (atN i)))) :=
      ⟨hT2, by rw [hvl, List.length_map, sizeLine_eq]; exact Nat.le_trans hsm (by decide), _, rv, ⟨_, hT2, rfl, _, rfl⟩⟩
    have notin : ∀ b, b ∉ z :: TI :: TO :: (qs.map keyZ).map (·.1) → b ≠ z ∧ b ≠ TO ∧ ∀ q ∈ qs, b ≠ q.it := fun b hb => ⟨fun e => hb (by simp [e]), fun e => hb (by simp [e]), fun q hq e => hb (List.mem_cons_of_mem _ (List.mem_cons_of_mem _ (List.mem_cons_of_mem _ (List.mem_map.mpr ⟨keyZ q, m q hq, e.symm⟩))))⟩
    have J : Inv X pins σ (upd H s.heap.objs.size (.frz (tobj (qs.map (·.x))) (.tup (xss.map (atN i))))) { s with heap := h'' } :=
      I.turnedNew (t' := s.toks) (ch := z :: TI :: TO :: (qs.map keyZ).map (·.1)) (fun b ob hb q => (sb.2 b (notin b hb).1).trans (hk b ob (notin b hb).1 (notin b hb).2.1 (notin b hb).2.2 q)) hf (Nat.le_refl _) new
    refine ⟨.ref s.heap.objs.size, _, J, rfl, ⟨_, _, _, rfl, rfl, I.hok.fresh (Nat.le_refl _), rfl, fun ys hy => by rw [allQ_inj I hy hq]⟩, ⟨z'', ?_, ⟨qs.map (·.x), ?_, by rw [List.length_map, List.length_map]⟩, fun q hq => ?_⟩, fun c hcm => ?_⟩
    · exact (sb.2 _ D.TIz).trans (hk _ _ D.TIz D.TITO (fun q hq => (D.itTI _ (m q hq)).symm) hTI)
    · exact (sb.2 _ D.TOz).trans TO'
    · obtain ⟨p, hp, rfl⟩ := List.mem_map.mp hq
      exact (hit' p hp).at fun o e => (sb.2 _ (D.itz _ hq)).trans e
    · have hlt : c < s.heap.objs.size := by
        rcases List.mem_cons.mp hcm with rfl | hc
        · exact hzl
        rcases List.mem_cons.mp hc with rfl | hc
        · exact Heap.lt_size hTI
        rcases List.mem_cons.mp hc with rfl | hc
        · exact Heap.lt_size hTO
        · obtain ⟨q, hq, rfl⟩ := List.mem_map.mp hc
          obtain ⟨_, e, _⟩ := hi q hq
          exact Heap.lt_size e
      rw [upd_ne (Nat.ne_of_lt hlt)]
      exact (hf c hcm).1
  done := by
    rintro X rfl rfl rfl hc i pins s σ H E I hf ⟨hz, hTI, ⟨old, hTO, hlen⟩, hi⟩ ⟨xss, hq, hend⟩
    obtain ⟨qs, rfl, h2, _, h4, h5⟩ := mk_ze I i hq
    have m : ∀ q ∈ qs, keyZ q ∈ qs.map keyZ := fun q hq => List.mem_map.mpr ⟨q, hq, rfl⟩
    rw [List.length_map] at hlen hsm
    have notin : ∀ b, b ∉ z :: TI :: TO :: (qs.map keyZ).map (·.1) → b ≠ z ∧ b ≠ TO ∧ ∀ q ∈ qs, b ≠ q.it := fun b hb => ⟨fun e => hb (by simp [e]), fun e => hb (by simp [e]), fun q hq e => hb (List.mem_cons_of_mem _ (List.mem_cons_of_mem _ (List.mem_cons_of_mem _ (List.mem_map.mpr ⟨keyZ q, m q hq, e.symm⟩))))⟩
    exact pyNext_zipN_end (I.ok.hd hc) (by rintro rfl; exact hne rfl) D.za hz (by rw [List.map_map] at hTI; exact hTI) hTO hlen hsm (fun q hq => hi _ (m q hq)) h2 h4 (h5 hend) fun h' hk => ⟨rfl, I.turnedL (t' := s.toks) (ch := z :: TI :: TO :: (qs.map keyZ).map (·.1)) (fun b ob hb q => hk b ob (notin b hb).1 (notin b hb).2.1 (notin b hb).2.2 q) hf⟩
  self := fun A i s Q E st h => wpAny_pyIter_zip st.1 h
end MR

set_option Elab.async false
set_option linter.all false
set_option maxRecDepth 100000
set_option maxHeartbeats 4000000
namespace MR
open PySem PySem.Spec PyProof.Rows L2
variable [Tq]
/-! ### zip over the layer -/
theorem sqH_lt {kd : Bool} {h : Heap} {l : Addr} {xs : Array Value} (a : SqH kd h l xs) : l < h.objs.size := by
  obtain ⟨o, e, _⟩ := a
  exact Heap.lt_size e
def iZ2 (K : PySem.W.Frag) (ta : TA) : TI := fun σ H R => ta σ H fun vs H1 => ∃ (k1 k2 : Bool) (a b : Addr) (xs ys : List V), vs = [.ref a, .ref b] ∧ sqV K H1 k1 a xs ∧ sqV K H1 k2 b ys ∧ R (ItZ K [(k1, a), (k2, b)]) H1
theorem zak2 {n a b : Nat} {k1 k2 : Bool} (ha : a < n) (hb : b < n) : ZAK (n + 4) (n + 2) (n + 3) [(n, k1, a), (n + 1, k2, b)] := by
  have e1 : ∀ q ∈ ([(n, k1, a), (n + 1, k2, b)] : List KA), n ≤ q.1 ∧ q.1 < n + 2 ∧ q.2.2 < n := fun q hq => by
    simp only [List.mem_cons, List.not_mem_nil, or_false] at hq
    rcases hq with rfl | rfl
    · exact ⟨Nat.le_refl _, Nat.lt_add_of_pos_right (by decide), ha⟩
    · exact ⟨Nat.le_succ _, Nat.lt_succ_self _, hb⟩
  refine ⟨?_, ?_, ?_, fun q hq z => ?_, fun q hq z => ?_, fun q hq z => ?_, fun q hq z => ?_, fun q hq z => ?_, fun q hq p hp z => ?_, ?_⟩
  · exact Nat.ne_of_lt (Nat.add_lt_add_left (by decide) n)
  · exact Nat.ne_of_lt (Nat.add_lt_add_left (by decide) n)
  · exact Nat.ne_of_lt (Nat.add_lt_add_left (by decide) n)
  · have := (e1 q hq).2.1; rw [z] at this; exact absurd this (Nat.not_lt.mpr (Nat.add_le_add_left (by decide) n))
  · have := (e1 q hq).2.1; rw [z] at this; exact absurd this (Nat.not_lt.mpr (Nat.add_le_add_left (by decide) n))
  · have := (e1 q hq).2.1; rw [z] at this; exact absurd this (Nat.not_lt.mpr (Nat.le_refl _))
  · have := (e1 q hq).2.2; rw [z] at this; exact absurd this (Nat.not_lt.mpr (Nat.le_add_right _ _))
  · have := (e1 q hq).2.2; rw [z] at this; exact absurd this (Nat.not_lt.mpr (Nat.le_add_right _ _))
  · have := (e1 q hq).2.2; rw [z] at this; exact absurd this (Nat.not_lt.mpr (e1 p hp).1)
  · exact .cons (fun q hq => by rw [List.mem_singleton.mp hq]; exact Nat.ne_of_lt (Nat.lt_succ_self _)) (List.pairwise_singleton _ _)
theorem pi_z2 {X : Cx} {e e2 : Expr} {ta : TA} {p pos tpos : Pos} {elts : List Expr} {kk : Nat} (hg : Gl X "zip") (hm : X.mg "zip" = none) (ha : PA X [e, e2] ta)
    (hs : starEach [e, e2] X.env = (false, eval e X.env) :: starEach [e2] X.env := by rfl) (hpl : (backTo pos (starEach [e2] X.env)).any (·.1) = false := by rfl) :
    PI X (.Tuple elts kk tpos) (.Call (.Name "zip" p) [e, e2] [] pos) (iZ2 X.K ta) := by
  refine ⟨fun pins s σ H R I h => ?_⟩
  refine Call_ (ld_blt I hg hm PyProof.Rows.boot_zip (PyProof.Rows.callWith_type1 (thn (ha.run pos pins s σ H _ I h) fun us s1 ⟨vs, H1, I1, r1, q1⟩ => ?_) hs hpl))
  obtain ⟨k1, k2, a, b, xs, ys, ex, hqx, hqy, q⟩ := q1
  subst ex
  cases r1 with
  | cons r rr =>
    cases rr with
    | cons r' rr =>
      cases rr
      cases r
      cases r'
      have fresh : ∀ n c : Nat, s1.heap.objs.size ≤ c → FpOk X pins H1 c := fun n c hle => I1.fpOk hle (I1.hok.fresh hle)
      obtain ⟨its, rv, p1⟩ := one_ze I1 hqx
      obtain ⟨its2, rv2, p2⟩ := one_ze I1 hqy
      refine call_zipM2 p1 p2 fun h' hz hTI hTO h1 h2 hk => wpAny_pyIter_zip hz ?_
      have I2 : Inv X pins σ H1 { s1 with heap := h' } := I1.kept (t' := s1.toks) hk
      have T : Turn X.prog X.w X.K (.Tuple elts kk tpos) (ItZ X.K [(k1, a), (k2, b)]) _ _ _ := turn_zipN (zak2 (k1 := k1) (k2 := k2) (sqH_lt p1) (sqH_lt p2)) (by simp) (by simp)
      refine ⟨s1.heap.objs.size + 4, _, _, _, H1, rfl, I2, T, ⟨hz, hTI, ⟨_, hTO, rfl⟩, fun q hq => ?_⟩, fun c hcm => ?_, q⟩
      · simp only [List.mem_cons, List.not_mem_nil, or_false] at hq
        rcases hq with rfl | rfl
        · exact h1
        · exact h2
      · simp only [List.map_cons, List.map_nil, List.mem_cons, List.not_mem_nil, or_false] at hcm
        refine fresh 0 c ?_
        rcases hcm with rfl | rfl | rfl | rfl | rfl
        · exact Nat.le_add_right _ _
        · exact Nat.le_add_right _ _
        · exact Nat.le_add_right _ _
        · exact Nat.le_refl _
        · exact Nat.le_add_right _ _
/-! the items -/
def minL : List (List D) → Nat
  | [] => 0
  | [ds] => ds.length
  | ds :: r => min ds.length (minL r)
def zipD (dss : List (List D)) : List D := (List.range (minL dss)).map fun i => .tuple (dss.map fun ds => ds.getD i .none)
theorem minL_le : ∀ {dss : List (List D)} {ds : List D}, ds ∈ dss → minL dss ≤ ds.length
  | [ds], x, h => by rw [List.mem_singleton.mp h]; exact Nat.le_refl _
  | ds :: d2 :: r, x, h => by
    show min ds.length (minL (d2 :: r)) ≤ _
    rcases List.mem_cons.mp h with rfl | h
    · exact Nat.min_le_left _ _
    · exact Nat.le_trans (Nat.min_le_right _ _) (minL_le h)
theorem minL_at : ∀ {dss : List (List D)}, dss ≠ [] → ∃ ds ∈ dss, ds.length = minL dss
  | [ds], _ => ⟨ds, List.mem_cons_self, rfl⟩
  | ds :: d2 :: r, _ => by
    obtain ⟨x, h1, h2⟩ := minL_at (dss := d2 :: r) (by simp)
    by_cases c : ds.length ≤ minL (d2 :: r)
    · exact ⟨ds, List.mem_cons_self, (Nat.min_eq_left c).symm⟩
    · exact ⟨x, List.mem_cons_of_mem _ h1, h2.trans (Nat.min_eq_right (Nat.le_of_not_le c)).symm⟩
inductive AllD (K : PySem.W.Frag) (F : Hp) : List (List V) → List (List D) → Prop where
  | nil : AllD K F [] []
  | cons {xs : List V} {ds : List D} {xss : List (List V)} {dss : List (List D)} (h : DpAll K F xs ds) (t : AllD K F xss dss) : AllD K F (xs :: xss) (ds :: dss)
section
variable {K : PySem.W.Frag} {F H : Hp} {σ : L2.St}
theorem allD_lt {i : Nat} : ∀ {xss : List (List V)} {dss : List (List D)}, AllD K F xss dss → (∀ ds ∈ dss, i < ds.length) → (∀ xs ∈ xss, i < xs.length) ∧ DpAll K F (xss.map (atN i)) (dss.map fun ds => ds.getD i .none)
  | _, _, .nil, _ => ⟨fun _ z => (by cases z), .nil⟩
  | _, _, .cons (xs := xs) (ds := ds) h t, hi => by
    obtain ⟨a, b⟩ := allD_lt t fun ds hd => hi ds (List.mem_cons_of_mem _ hd)
    have h0 := hi ds List.mem_cons_self
    have hl := dpa_len h
    have e1 : ds[i]? = some (ds.getD i .none) := by rw [List.getD_eq_getElem?_getD, List.getElem?_eq_getElem h0]; rfl
    obtain ⟨v, e2, dv⟩ := dpa_get h e1
    have e3 : atN i xs = v := by unfold atN; rw [List.getD_eq_getElem?_getD, e2]; rfl
    refine ⟨fun ys hy => ?_, ?_⟩
    · rcases List.mem_cons.mp hy with rfl | hy
      · omega
      · exact a ys hy
    · refine .cons ?_ b
      rw [e3]
      exact dv
theorem allD_ge {i : Nat} : ∀ {xss : List (List V)} {dss : List (List D)}, AllD K F xss dss → (∃ ds ∈ dss, ds.length ≤ i) → ∃ xs ∈ xss, xs.length ≤ i
  | _, _, .nil, ⟨_, z, _⟩ => by cases z
  | _, _, .cons (xs := xs) (ds := ds) h t, ⟨ds', hd, hi⟩ => by
    rcases List.mem_cons.mp hd with rfl | hd
    · exact ⟨xs, List.mem_cons_self, by rw [dpa_len h]; exact hi⟩
    · obtain ⟨ys, hy, h2⟩ := allD_ge t ⟨ds', hd, hi⟩
      exact ⟨ys, List.mem_cons_of_mem _ hy, h2⟩
theorem itz_ok {qs : List (Bool × Addr)} {dss : List (List D)} (hne : dss ≠ []) (h1 : ∀ F' H', Ex F F' → Ex F' H' → ∃ xss, AllQ K H' qs xss ∧ AllD K F' xss dss) : ItOk K (ItZ K qs) (zipD dss) F σ none := by
  intro i F' H' u s g
  obtain ⟨xss, hq, hd⟩ := h1 F' H' u s
  refine ⟨fun d hi => ?_, fun hi => ⟨xss, hq, allD_ge hd ?_⟩⟩
  · unfold zipD at hi
    rw [List.getElem?_map] at hi
    have hlt : i < minL dss := by
      rcases Nat.lt_or_ge i (minL dss) with h | h
      · exact h
      · rw [List.getElem?_eq_none (by rw [List.length_range]; exact h)] at hi; cases hi
    rw [List.getElem?_range hlt] at hi
    cases hi
    obtain ⟨a, b⟩ := allD_lt (i := i) hd fun ds hds => Nat.lt_of_lt_of_le hlt (minL_le hds)
    refine ⟨⟨xss, hq, a⟩, fun x H'' y => ?_⟩
    obtain ⟨T, us, o, ho, rfl, hT, rfl, y⟩ := y
    rw [y xss hq]
    refine ⟨_, Al.tup s hT, .tup (.inl ⟨o, ho, upd_same⟩) ?_⟩
    exact dpa_mono (Ex.new (fresh_f s hT)) _ _ b
  · obtain ⟨ds, hds, e⟩ := minL_at hne
    refine ⟨ds, hds, ?_⟩
    unfold zipD at hi
    rw [List.length_map, List.length_range] at hi
    omega
end
def seqD : Rs → Option (List D)
  | .val (.list xs) => some xs
  | .val (.tuple xs) => some xs
  | _ => none
def sZip2 (fs : List Ev) : Iv := fun e => match sArgs fs e with
  | some (.err x, e1) => some (.err x, e1)
  | some (.ok [r1, r2], e1) => match seqD r1, seqD r2 with
    | some a, some b => some (.ok (zipD [a, b]) none, e1)
    | _, _ => none
  | _ => none
def sZip3 (fs : List Ev) : Iv := fun e => match sArgs fs e with
  | some (.err x, e1) => some (.err x, e1)
  | some (.ok [r1, r2, r3], e1) => match seqD r1, seqD r2, seqD r3 with
    | some a, some b, some c => some (.ok (zipD [a, b, c]) none, e1)
    | _, _, _ => none
  | _ => none
/-- what a walked thing is -/
theorem seq_at {K : PySem.W.Frag} {B F H : Hp} {σ : L2.St} {e : Env} {O : Nat → Addr → Prop} {r : Rs} {v : V} {a : List D} (s : Ex F H) (h : RsOk K B F H σ e O r v) (q : seqD r = some a) :
    ∃ (kd : Bool) (A : Addr) (us : List V), v = .ref A ∧ ∀ F' H', Ex F F' → Ex F' H' → sqV K H' kd A us ∧ DpAll K F' us a := by
  cases r with
  | val d =>
    cases d with
    | list ds =>
      cases q
      cases h with
      | lst h1 h2 => exact ⟨true, _, _, rfl, fun F' H' u s' => ⟨Same.seq (u.trans s') h1.s, dpa_mono u _ _ h2⟩⟩
    | tuple ds =>
      cases q
      cases h with
      | tup h1 h2 => exact ⟨false, _, _, rfl, fun F' H' u s' => ⟨(ex_f (u.trans s') h1).t, dpa_mono u _ _ h2⟩⟩
    | _ => cases q
  | _ => cases q
theorem pid_zip2 {X : Fm} {W : WX} {e e2 : Expr} {fs : List Ev} {p pos tpos : Pos} {elts : List Expr} {kk : Nat} (hg : ∀ i, Gl (X.C i) "zip") (hm : ∀ i, (X.C i).mg "zip" = none) (ha : PAD X W [e, e2] fs)
    (hs : ∀ i, starEach [e, e2] (X.C i).env = (false, eval e (X.C i).env) :: starEach [e2] (X.C i).env := by exact fun _ => rfl) (hpl : ∀ i, (backTo pos (starEach [e2] (X.C i).env)).any (·.1) = false := by exact fun _ => rfl) :
    PID X W (.Tuple elts kk tpos) (.Call (.Name "zip" p) [e, e2] [] pos) (sZip2 fs) := by
  obtain ⟨t, pa, ka⟩ := ha
  refine ⟨iZ2 X.K t, fun i => X.hK i ▸ pi_z2 (hg i) (hm i) (pa i) (hs i) (hpl i), fun F H σ e O o e' R s h k z => ?_⟩
  unfold sZip2 at h
  split at h
  · rename_i x e1 h1
    cases h
    exact ka F H σ e O _ _ _ s h1 (fun _ _ _ _ _ y => nomatch y) fun x' cls d F' H' O' y t w => (by cases y; exact z _ cls d F' H' O' rfl t w)
  · rename_i r1 r2 e1 h1
    split at h
    · rename_i a b ea eb
      cases h
      refine ka F H σ e O _ _ _ s h1 (fun rs vs F1 H1 O1 y t q => ?_) (fun _ _ _ _ _ _ y => nomatch y)
      cases y
      cases q with
      | cons q1 q =>
        cases q with
        | cons q2 q =>
          cases q
          obtain ⟨k1, A, us, rfl, g1⟩ := seq_at t.sta.ex q1 ea
          obtain ⟨k2, B, ws, rfl, g2⟩ := seq_at t.sta.ex q2 eb
          refine ⟨k1, k2, A, B, us, ws, rfl, (g1 F1 H1 (Same.refl _) t.sta.ex).1, (g2 F1 H1 (Same.refl _) t.sta.ex).1, ?_⟩
          exact k _ _ none F1 H1 O1 rfl t (itz_ok (by simp) fun F' H' u s' => ⟨[us, ws], .cons (g1 F' H' u s').1 (.cons (g2 F' H' u s').1 .nil), .cons (g1 F' H' u s').2 (.cons (g2 F' H' u s').2 .nil)⟩) (fun _ y => nomatch y)
    · cases h
  · cases h
end MR

set_option Elab.async false
set_option linter.all false
set_option maxRecDepth 100000
set_option maxHeartbeats 4000000
namespace MR
open PySem PySem.Spec PyProof.Rows L2
variable [Tq]
/-! ### x[::-1] -/
section
variable {prog : Program} {w : World} {A : Around} {E : Value → Shared → Prop} {s : Shared}
theorem adjust_back (n : Nat) : Builtin.Slice.sliceAdjust none none (-1) (n : Int) = ((n : Int) - 1, -1) := rfl
theorem places_back (n : Nat) : Builtin.Slice.slicePlaces ((n : Int) - 1) (-1) (-1) = n := by
  unfold Builtin.Slice.slicePlaces
  rw [if_neg (by omega)]
  by_cases h : n = 0
  · subst h
    rw [if_neg (by omega)]
    rfl
  · rw [if_pos (by omega)]
    rw [show (-(-1) : Int) = 1 from rfl, Int.ediv_one]
    omega
theorem sliceApplied_back {sl : Addr} {vk : Value} {n : Nat} {Q : Int × Int × Nat → Shared → Prop} (hs : s.heap.IsSliceOf sl .none .none vk) (pk : IsPart vk (some (-1)))
    (h : Q ((n : Int) - 1, -1, n) s) : wpAny (model prog w) A (Builtin.Slice.sliceApplied (.ref sl) (pure (n : Int))) Q E s := by
  obtain ⟨os, hos, hcs, hds⟩ := id hs
  unfold Builtin.Slice.sliceApplied Builtin.Slice.sliceFields
  refine wpAny_bind (wpAny_bind (wpAny_field hos hds (x := .none) rfl (wpAny_bind (wpAny_field hos hds (x := .none) rfl (wpAny_bind (wpAny_field hos hds (x := vk) rfl (wpAny_pure ?_)))))))
  refine wpAny_bind (HT.slicePart_ pk ?_)
  show wpAny _ _ (if ((-1 : Int) == 0) = true then _ else _) _ _ s
  rw [if_neg (by decide)]
  refine wpAny_bind (HT.slicePart_ .none (wpAny_bind (HT.slicePart_ .none (wpAny_bind (wpAny_pure ?_)))))
  show wpAny _ _ (match Builtin.Slice.sliceAdjust none none (-1) (n : Int) with | (lo, hi) => pure (lo, (-1 : Int), Builtin.Slice.slicePlaces lo hi (-1))) _ _ s
  rw [adjust_back n]
  show wpAny _ _ (pure ((n : Int) - 1, (-1 : Int), Builtin.Slice.slicePlaces ((n : Int) - 1) (-1) (-1))) _ _ s
  rw [places_back]
  exact wpAny_pure h
theorem pick_back (xs : Array Value) : ((List.range xs.size).filterMap fun (k : Nat) => xs[((xs.size : Int) - 1 + (k : Int) * -1).toNat]?).toArray = xs.toList.reverse.toArray := by
  have e : ∀ k ∈ List.range xs.size, xs[((xs.size : Int) - 1 + (k : Int) * -1).toNat]? = xs[xs.size - 1 - k]? := fun k hk => by
    have := List.mem_range.mp hk
    congr 1
    omega
  have cg : ∀ (l : List Nat) (f g : Nat → Option Value), (∀ k ∈ l, f k = g k) → l.filterMap f = l.filterMap g := fun l f g => by
    induction l with
    | nil => intro _; rfl
    | cons k l ih =>
      intro h
      rw [List.filterMap_cons, List.filterMap_cons, h k List.mem_cons_self, ih fun j hj => h j (List.mem_cons_of_mem _ hj)]
  rw [cg _ _ _ e]
  have e2 : (List.range xs.size).filterMap (fun k => xs[xs.size - 1 - k]?) = ((List.range xs.size).map fun k => xs.size - 1 - k).filterMap (xs[·]?) := by
    rw [List.filterMap_map]
    rfl
  rw [e2, PySem.W.krv_range, List.filterMap_reverse, PySem.W.krv_all]
theorem getItem_tuple_back {t sl : Addr} {items : Array Value} {vk : Value} {Q : Value → Shared → Prop} (ht : IsTup s.heap t items) (hs : s.heap.IsSliceOf sl .none .none vk) (pk : IsPart vk (some (-1)))
    (h : Q (.ref s.heap.objs.size) { s with heap := s.heap.push { cls := .type "tuple", data := .seq items.toList.reverse.toArray } })
    (hsz : items.size ≤ sizeLine) : wpAny (model prog w) A (getItem (.ref t) (.ref sl)) Q E s := by
  have htake : sizeOk (.seq items.toList.reverse.toArray) := by
    show items.toList.reverse.toArray.size ≤ sizeLine
    rw [List.size_toArray, List.length_reverse, Array.length_toList]
    exact hsz
  obtain ⟨os, hos, hcs, hds⟩ := id hs
  have hTs : s.TypeIs (.ref sl) "slice" := ⟨os, hos, hcs⟩
  unfold getItem
  try with_reducible refine wpAny_holding ?_
  first | refine wpAny_bind (wpAny_pure ?_) | skip
  refine wpAny_bind (wpAny_sequenceKey ht.typeIs (by decide) ?_)
  refine wpAny_bind (wpAny_callSpecial?_slot (name := Str.ofString "__getitem__") ht.typeIs PyProof.Rows.slot_tuple_getitem
    (wpAny_call_entry PyProof.Rows.slot_tuple_getitem ht.typeIs entry_tuple_getitem ?_ (args_tuple_getitem _ _)))
  show wpAny _ _ (Builtin.Tuple.tupleItemsOf (.ref t) >>= _) _ _ s
  refine wpAny_bind (tupleItemsOf_ ht ?_)
  refine wpAny_bind (wpAny_typeOf hTs ?_)
  rw [if_pos (by decide)]
  refine wpAny_bind (sliceApplied_back hs pk ?_)
  have hno : ¬ (((items.size : Int) - 1 == 0 && (-1 : Int) == 1 && items.size == items.size) = true) := by
    intro q
    rw [Bool.and_eq_true, Bool.and_eq_true] at q
    exact absurd q.1.2 (by decide)
  show wpAny _ _ (if ((items.size : Int) - 1 == 0 && (-1 : Int) == 1 && items.size == items.size) = true then _ else _) _ _ s
  rw [if_neg hno, pick_back]
  first
    | exact wpAny_bind (m := Builtin.Tuple.tupleExact _) (wpAny_newObj_type (wpAny_pure ⟨_, rfl, wpAny_pure h⟩) htake)
    | exact wpAny_bind (m := Builtin.Tuple.tupleExact _) (wpAny_newObj_type (wpAny_bind (wpAny_pure (wpAny_pure ⟨_, rfl, wpAny_pure h⟩))) htake)
    | exact wpAny_bind (wpAny_bind (m := Builtin.Tuple.tupleExact _) (wpAny_newObj_type (wpAny_pure (wpAny_pure ⟨_, rfl, wpAny_pure h⟩)) htake))
    | exact wpAny_bind (wpAny_bind (m := Builtin.Tuple.tupleExact _) (wpAny_newObj_type (wpAny_pure ⟨_, rfl, wpAny_pure h⟩) htake))
end
section
variable {X : Cx} {e st : Expr} {te : TE} {ts : TO} {pos p2 : Pos}
def rBack (K : PySem.W.Frag) : V → Hp → VK → Prop := fun x H Q => ∃ a xs, x = .ref a ∧ ((SqL K H a xs ∧ ∀ p, H p = none → Q (.ref p) (upd H p (.lst xs.reverse))) ∨ (SqT K H a xs ∧ NewT H xs.reverse Q))
theorem vals_rev : ∀ {xs : List V} {us : List Value}, Vals xs us → Vals xs.reverse us.reverse
  | _, _, .nil => .nil
  | _, _, .cons a t => by
    rw [List.reverse_cons, List.reverse_cons]
    exact (vals_rev t).append (.cons a .nil)
theorem getItem_back {pins : List (Addr × Obj)} {s : Shared} {σ : L2.St} {H : Hp} {x : V} {v vk : Value} {sl : Addr} {Q : VK} (I : Inv X pins σ H s) (rx : RelV x v) (hs : s.heap.IsSliceOf sl .none .none vk) (pk : IsPart vk (some (-1))) (q : rBack X.K x H Q) :
    ∃ T id, typeLookup (.type T) "__getitem__" = pure (some (.builtin id)) ∧ s.TypeIs v T ∧ wpAny (model X.prog X.w) X.A (getItem v (.ref sl)) (EP X pins σ Q) X.xe s := by
  obtain ⟨a, xs, rfl, h⟩ := q
  cases rx
  rcases h with ⟨hx, q⟩ | ⟨hx, q⟩
  · obtain ⟨its, r, ht, hz⟩ := I.list hx
    have hlen := r.length
    refine ⟨"list", _, slot_list_getitem.lookup, ht.isList.typeIs, ?_⟩
    refine wpAny_getItem_list_slice ht.isList hs .none .none pk (by decide) ?_ (by rw [List.size_toArray] <;> omega)
    rw [PySem.W.krv_pick]
    refine ⟨.ref s.heap.objs.size, _, I.laid (t' := s.toks) (o := .lst xs.reverse) (fun b ob q => Heap.get?_push_of_some _ q) (Nat.le_refl _) ?_, rfl, q _ (I.hok.fresh (Nat.le_refl _))⟩
    exact ⟨by rw [List.length_reverse]; exact hz, _, 0, vals_rev r, Heap.get?_push_size _ rfl⟩
  · obtain ⟨its, r, ht, hz⟩ := I.tuple hx
    have hlen : its.toArray.size = xs.length := by rw [List.size_toArray]; exact r.length.symm
    refine ⟨"tuple", _, PyProof.Rows.slot_tuple_getitem.lookup, ht.typeIs, ?_⟩
    refine getItem_tuple_back ht hs pk ?_ (by rw [hlen]; exact hz)
    exact new_t I (us := its.reverse) (vals_rev r) (by rw [List.length_reverse]; exact hz) q
theorem pe_back (hsub : ∀ (v : Value) (sl : Addr), ∃ ops, subscripted (.Slice none none (some st) p2) false v (.ref sl) = operate ops (getItem v (.ref sl))) (he : PE X e te) (hst : PO X (some st) ts) : PE X (.Subscript e (.Slice none none (some st) p2) pos) (fun σ H Q => te σ H fun x H1 => ts σ H1 fun k H2 => k = some (-1) ∧ rBack X.K x H2 Q) := by
  refine ⟨fun pins s σ H Q I h => ?_⟩
  refine Subscript_ (thn (he.run pins s σ H _ I h) fun v s1 ⟨x, H1, I1, r1, q1⟩ => ?_)
  refine wpAny_Slice ?_
  rw [evalPart_none]
  refine wpAny_pure ?_
  refine wpAny_pure ?_
  refine thn (hst.run pins s1 σ H1 _ I1 q1) fun vk s3 hh => ?_
  obtain ⟨k, H3, I3, pk, ek, q3⟩ := hh
  subst ek
  have I4 : Inv X pins σ H3 { s3 with heap := s3.heap.push { cls := .type "slice", data := .fields #[.none, .none, vk] } } := I3.kept (t' := s3.toks) fun b ob q => Heap.get?_push_of_some _ q
  obtain ⟨T, id, hT, ht, hg⟩ := getItem_back I4 r1 (Heap.IsSliceOf.new ..) pk q3
  show wpAny (model X.prog X.w) X.A (subscriptTail e (.Slice none none (some st) p2) v (.ref s3.heap.objs.size)) (EP X pins σ Q) X.xe { s3 with heap := s3.heap.push { cls := .type "slice", data := .fields #[.none, .none, vk] } }
  obtain ⟨ops, hop⟩ := hsub v s3.heap.objs.size
  exact tail_any (ops := ops) ht hT hg hop
end
def gBack : D → Option Rs
  | .list xs => some (.new xs.reverse)
  | .tuple xs => some (.val (.tuple xs.reverse))
  | _ => none
theorem pd_back {X : Fm} {W : WX} {a : Expr} {fa : Ev} {j : Nat} {pos p2 p3 p4 : Pos} (ha : PDs X W a fa) : PD X W (.Subscript a (.Slice none none (some (.UnaryOp .USub (.Constant (.int 1) j p3) p4)) p2) pos) (sUn gBack fa) := by
  obtain ⟨ta, pa, ka⟩ := ha
  refine ⟨fun σ H Q => ta σ H fun x H1 => tPart (tUn (rU fun i => V.int (-i)) (tC (V.int 1))) σ H1 fun k H2 => k = some (-1) ∧ rBack X.K x H2 Q, fun i => X.hK i ▸ pe_back (fun v sl => ⟨_, by with_unfolding_all rfl⟩) (pa i) (po_some (pe_un un_neg pe_int)), fun F H σ e O r e' Q s h k z => ?_⟩
  refine bnd_run ka s h z fun ra e1 n1 h2 v F1 H1 O1 t1 q1 => ?_
  obtain ⟨d, hd, hg, rfl⟩ := sUn_k (g := gBack) h2
  refine ⟨1, rfl, -1, rfl, rfl, ?_⟩
  have V3 := vw_vw t1.sta q1 hd
  have k3 := OkOut.rv t1 k
  cases d with
  | list xs =>
    cases hg
    obtain ⟨p, us, rfl, h5, h6⟩ := V3
    exact ⟨p, us, rfl, .inl ⟨h5.s, rv_lst t1.sta.ex k3 (dpa_rev h6)⟩⟩
  | tuple xs =>
    cases hg
    cases V3 with
    | @tup p us _ h5 h6 => exact ⟨p, us, rfl, .inr ⟨(ex_f t1.sta.ex h5).t, rv_tup t1.sta.ex k3 (dpa_rev h6)⟩⟩
  | _ => cases hg
/-! ### range(a, b, -1) -/
def rgDown (a : Int) (n : Nat) : List D := (List.range n).map fun i => .int (a + (i : Nat) * (-1))
def sRg3 (fs : List Ev) : Iv := fun e => match sArgs fs e with
  | some (.err x, e1) => some (.err x, e1)
  | some (.ok [.val (.int i), .val (.int j), .val (.int c)], e1) => if -(2 ^ 62) ≤ i ∧ i < 2 ^ 62 ∧ -(2 ^ 62) ≤ j ∧ j < 2 ^ 62 ∧ c = -1 then some (.ok (rgDown i (i - j).toNat) none, e1) else none
  | _ => none
end MR

set_option Elab.async false
set_option linter.all false
set_option maxRecDepth 100000
set_option maxHeartbeats 2000000
namespace MR
open PySem PySem.Spec PyProof.Rows L2
variable [Tq]
theorem sOpE {g : D → D → Option Rs} {fa fb : Ev} {e e1 e2 : Env} {ra rb : Rs} {da db : D} (ha : fa e = some (ra, e1)) (hna : ∀ x, ra ≠ .err x) (hb : fb e1 = some (rb, e2)) (hnb : ∀ x, rb ≠ .err x)
    (h1 : vw (settle ra) e2 = some da) (h2 : vw (settle rb) e2 = some db) : sOp g fa fb e = (g da db).map fun r => (r, e2) := by
  unfold sOp
  rw [ha]
  cases ra with
  | err x => exact absurd rfl (hna x)
  | _ =>
    simp only
    rw [hb]
    cases rb with
    | err x => exact absurd rfl (hnb x)
    | _ =>
      simp only
      rw [h1, h2]
theorem gNmE {j : Nat} {d : D} {e : Env} (h : noPin e j = true) : gNm j d e = some (e.set j (.val d)) := by unfold gNm; rw [if_pos h]
/-! ### what is wanted ahead of a piece: forward reckoning -/
/-- f gives something with Q -/
def WE (f : Ev) (e : Env) (Q : Rs → Env → Prop) : Prop := ∃ r e', f e = some (r, e') ∧ Q r e'
def WS (f : Stm) (e : Env) (Q : Out → Env → Prop) : Prop := ∃ o e', f e = some (o, e') ∧ Q o e'
def WF (φ : FnSem) (a : List Sl) (Q : Rs → List Sl → Prop) : Prop := ∃ r o, φ a = some (r, o) ∧ Q r o
def WI (f : Iv) (e : Env) (Q : IRes → Env → Prop) : Prop := ∃ a e', f e = some (a, e') ∧ Q a e'
def WG (g : Tgt) (d : D) (e : Env) (Q : Env → Prop) : Prop := ∃ e', g d e = some e' ∧ Q e'
def WA (fs : List Ev) (e : Env) (Q : ARes → Env → Prop) : Prop := ∃ a e', sArgs fs e = some (a, e') ∧ Q a e'
def WT (fs : List Ev) (e : Env) (Q : TRes → Env → Prop) : Prop := ∃ a e', sTaken fs e = some (a, e') ∧ Q a e'
section
variable {f fa fb fc : Ev} {s t : Stm} {e e1 : Env} {K K' : Rs → Env → Prop} {Q Q' : Out → Env → Prop} {φ : FnSem} {a : List Sl} {R R' : Rs → List Sl → Prop}
theorem WE.mono (h : WE f e K) (k : ∀ r e', K r e' → K' r e') : WE f e K' := let ⟨r, e', h1, h2⟩ := h; ⟨r, e', h1, k _ _ h2⟩
theorem WS.mono (h : WS s e Q) (k : ∀ r e', Q r e' → Q' r e') : WS s e Q' := let ⟨r, e', h1, h2⟩ := h; ⟨r, e', h1, k _ _ h2⟩
theorem WF.mono (h : WF φ a R) (k : ∀ r o, R r o → R' r o) : WF φ a R' := let ⟨r, e', h1, h2⟩ := h; ⟨r, e', h1, k _ _ h2⟩
theorem wf_eq {r : Rs} {o : List Sl} (h : φ a = some (r, o)) (k : R r o) : WF φ a R := ⟨r, o, h, k⟩
/-- what a def does, from its body -/
def defK (args : List Sl) (R : Rs → List Sl → Prop) : Out → Env → Prop
  | .nx, e => R (.val .none) (outsOf args e)
  | .ret (.val d), e => R (.val d) (outsOf args e)
  | .ret (.new xs), e => R (.new xs) (outsOf args e)
  | .ret (.slot i), e => ∃ xs, e[i]? = some (.own false xs) ∧ R (.new xs) (outsOf args e)
  | .err x, e => R (.err x) (outsOf args e)
  | _, _ => False
theorem wf_def {n : Nat} (h : WS s (a ++ List.replicate (n - a.length) .un) (defK a R)) : WF (sDef n s) a R := by
  obtain ⟨o, e', h1, h2⟩ := h
  unfold WF sDef
  rw [h1]
  cases o with
  | nx => exact ⟨_, _, rfl, h2⟩
  | ret r =>
    cases r with
    | val d => exact ⟨_, _, rfl, h2⟩
    | new xs => exact ⟨_, _, rfl, h2⟩
    | slot i =>
      obtain ⟨xs, h3, h4⟩ := h2
      simp only
      rw [h3]
      exact ⟨_, _, rfl, h4⟩
    | err x => exact h2.elim
  | err x => exact ⟨_, _, rfl, h2⟩
  | brk => exact h2.elim
  | ct => exact h2.elim
theorem defK_nx (h : R (.val .none) (outsOf a e)) : defK a R .nx e := h
theorem defK_val {d : D} (h : R (.val d) (outsOf a e)) : defK a R (.ret (.val d)) e := h
theorem defK_new {d : List D} (h : R (.new d) (outsOf a e)) : defK a R (.ret (.new d)) e := h
theorem defK_slot {i : Nat} {xs : List D} (h1 : e[i]? = some (.own false xs)) (h : R (.new xs) (outsOf a e)) : defK a R (.ret (.slot i)) e := ⟨xs, h1, h⟩
theorem defK_err {x : Er} (h : R (.err x) (outsOf a e)) : defK a R (.err x) e := h
/-! expressions -/
theorem we_c {d : D} (h : K (.val d) e) : WE (sC d) e K := ⟨_, _, rfl, h⟩
theorem we_var {i : Nat} {d : D} (h1 : e[i]? = some (.val d)) (h : K (.val d) e) : WE (sVar i) e K := ⟨_, _, sVar_val h1, h⟩
theorem we_varo {i : Nat} {p : Bool} {xs : List D} (h1 : e[i]? = some (.own p xs)) (h : K (.slot i) e) : WE (sVar i) e K := ⟨_, _, sVar_own h1, h⟩
def errK (K : Rs → Env → Prop) (k : Rs → Env → Prop) : Rs → Env → Prop
  | .err x, e => K (.err x) e
  | r, e => k r e
theorem we_bnd {k : Rs → Env → Option (Rs × Env)} (h : WE fa e (errK K fun r e1 => ∃ r' e', k r e1 = some (r', e') ∧ K r' e')) : WE (bnd fa k) e K := by
  obtain ⟨r, e1, h1, h2⟩ := h
  unfold WE bnd
  rw [h1]
  cases r with
  | err x => exact ⟨_, _, rfl, h2⟩
  | _ => exact h2
/-- one operand -/
def unK (g : D → Option Rs) (K : Rs → Env → Prop) : Rs → Env → Prop := errK K fun r e => ∃ d r', vw (settle r) e = some d ∧ g d = some r' ∧ K r' e
theorem we_un {g : D → Option Rs} (h : WE fa e (unK g K)) : WE (sUn g fa) e K := by
  refine we_bnd (h.mono fun r e' q => ?_)
  cases r with
  | err x => exact q
  | _ =>
    obtain ⟨d, r', h1, h2, h3⟩ := q
    refine ⟨r', e', ?_, h3⟩
    simp only [h1, h2, Option.map]
theorem unK_val {g : D → Option Rs} {d : D} {r : Rs} (h : g d = some r) (k : K r e) : unK g K (.val d) e := ⟨d, r, rfl, h, k⟩
theorem unK_slot {g : D → Option Rs} {i : Nat} {p : Bool} {d : List D} {r : Rs} (h0 : e[i]? = some (.own p d)) (h : g (.list d) = some r) (k : K r e) : unK g K (.slot i) e := ⟨_, r, by simp only [settle, vw, h0], h, k⟩
/-- two operands -/
def opK2 (g : D → D → Option Rs) (ra : Rs) (K : Rs → Env → Prop) : Rs → Env → Prop := errK K fun rb e => ∃ da db r, vw (settle ra) e = some da ∧ vw (settle rb) e = some db ∧ g da db = some r ∧ K r e
def opK1 (g : D → D → Option Rs) (fb : Ev) (K : Rs → Env → Prop) : Rs → Env → Prop := errK K fun ra e => WE fb e (opK2 g ra K)
theorem we_op {g : D → D → Option Rs} (h : WE fa e (opK1 g fb K)) : WE (sOp g fa fb) e K := by
  obtain ⟨ra, e1, h1, h2⟩ := h
  have go : ∀ ra, (∀ x, ra ≠ .err x) → fa e = some (ra, e1) → WE fb e1 (opK2 g ra K) → WE (sOp g fa fb) e K := by
    intro ra hn h1 h2
    obtain ⟨rb, e2, h3, h4⟩ := h2
    cases rb with
    | err x =>
      refine ⟨.err x, e2, ?_, h4⟩
      unfold sOp
      rw [h1]
      cases ra with
      | err y => exact absurd rfl (hn y)
      | _ => simp only; rw [h3]
    | _ =>
      obtain ⟨da, db, r, q1, q2, q3, q4⟩ := h4
      refine ⟨r, e2, ?_, q4⟩
      rw [sOpE h1 hn h3 nofun q1 q2, q3]
      rfl
  cases ra with
  | err x =>
    refine ⟨.err x, e1, ?_, h2⟩
    unfold sOp
    rw [h1]
  | val d => exact go (.val d) nofun h1 h2
  | new d => exact go (.new d) nofun h1 h2
  | slot d => exact go (.slot d) nofun h1 h2
theorem opK1_val {g : D → D → Option Rs} {d : D} (h : WE fb e (opK2 g (.val d) K)) : opK1 g fb K (.val d) e := h
theorem opK1_new {g : D → D → Option Rs} {d : List D} (h : WE fb e (opK2 g (.val (.list d)) K)) : opK1 g fb K (.new d) e := h
theorem opK1_slot {g : D → D → Option Rs} {i : Nat} (h : WE fb e (opK2 g (.slot i) K)) : opK1 g fb K (.slot i) e := h
theorem opK2_vv {g : D → D → Option Rs} {a b : D} {r : Rs} (h : g a b = some r) (k : K r e) : opK2 g (.val a) K (.val b) e := ⟨a, b, r, rfl, rfl, h, k⟩
theorem opK2_sv {g : D → D → Option Rs} {a : D} {i : Nat} {p : Bool} {b : List D} {r : Rs} (h0 : e[i]? = some (.own p b)) (h : g (.list b) a = some r) (k : K r e) : opK2 g (.slot i) K (.val a) e := ⟨_, a, r, by simp only [settle, vw, h0], rfl, h, k⟩
/-- tests -/
def boK (k : Bool → Env → Prop) (K : Rs → Env → Prop) : Rs → Env → Prop
  | .err x, e => K (.err x) e
  | .val (.bool b), e => k b e
  | _, _ => False
theorem we_tbnd {k : Bool → Env → Option (Rs × Env)} {kk : Bool → Env → Prop} (h : WE fa e (boK kk K)) (hk : ∀ b e1, kk b e1 → ∃ r e', k b e1 = some (r, e') ∧ K r e') : WE (tBnd fa k) e K := by
  refine we_bnd (h.mono fun r e' q => ?_)
  unfold boK at q
  split at q
  · exact q
  · exact hk _ _ q
  · exact q.elim
def notK (K : Rs → Env → Prop) := boK (fun b e => K (.val (.bool (!b))) e) K
theorem we_not (h : WE fa e (notK K)) : WE (sNot fa) e K := we_tbnd h fun b e1 q => ⟨_, _, rfl, q⟩
theorem notK_b {b : Bool} (h : K (.val (.bool (!b))) e) : notK K (.val (.bool b)) e := h
theorem notK_t (h : K (.val (.bool false)) e) : notK K (.val (.bool true)) e := h
theorem notK_f (h : K (.val (.bool true)) e) : notK K (.val (.bool false)) e := h
def andK (fb : Ev) (K : Rs → Env → Prop) := boK (fun b e => if b = true then WE fb e K else K (.val (.bool false)) e) K
theorem we_and (h : WE fa e (andK fb K)) : WE (sAnd fa fb) e K := we_tbnd h fun b e1 q => by
  cases b with
  | true => exact q
  | false => exact ⟨_, _, rfl, q⟩
theorem andK_t (h : WE fb e K) : andK fb K (.val (.bool true)) e := h
theorem andK_f (h : K (.val (.bool false)) e) : andK fb K (.val (.bool false)) e := h
def orK (fb : Ev) (K : Rs → Env → Prop) := boK (fun b e => if b = true then K (.val (.bool true)) e else WE fb e K) K
theorem we_or (h : WE fa e (orK fb K)) : WE (sOr fa fb) e K := we_tbnd h fun b e1 q => by
  cases b with
  | false => exact q
  | true => exact ⟨_, _, rfl, q⟩
theorem orK_t (h : K (.val (.bool true)) e) : orK fb K (.val (.bool true)) e := h
theorem orK_f (h : WE fb e K) : orK fb K (.val (.bool false)) e := h
def ifEK (fa fb : Ev) (K : Rs → Env → Prop) := boK (fun b e => if b = true then WE fa e K else WE fb e K) K
theorem we_ifE (h : WE fc e (ifEK fa fb K)) : WE (sIfE fc fa fb) e K := we_tbnd h fun b e1 q => by
  cases b with
  | true => exact q
  | false => exact q
theorem ifEK_t (h : WE fa e K) : ifEK fa fb K (.val (.bool true)) e := h
theorem ifEK_f (h : WE fb e K) : ifEK fa fb K (.val (.bool false)) e := h
def ifK (s t : Stm) (Q : Out → Env → Prop) := boK (fun b e => if b = true then WS s e Q else WS t e Q) (fun r e => match r with
  | .err x => Q (.err x) e
  | _ => False)
theorem ws_if (h : WE fc e (ifK s t Q)) : WS (sIf fc s t) e Q := by
  obtain ⟨r, e1, h1, h2⟩ := h
  unfold WS sIf
  rw [h1]
  unfold ifK boK at h2
  split at h2
  · exact ⟨_, _, rfl, h2⟩
  · rename_i b
    cases b with
    | true => exact h2
    | false => exact h2
  · exact h2.elim
theorem ifK_t (h : WS s e Q) : ifK s t Q (.val (.bool true)) e := h
theorem ifK_f (h : WS t e Q) : ifK s t Q (.val (.bool false)) e := h
theorem ifK_d {c : Prop} [Decidable c] (h1 : c → WS s e Q) (h2 : ¬ c → WS t e Q) : ifK s t Q (.val (.bool (decide c))) e := by
  by_cases h : c
  · rw [decide_eq_true h]; exact h1 h
  · rw [decide_eq_false h]; exact h2 h
theorem ifK_b {b : Bool} (h1 : b = true → WS s e Q) (h2 : b = false → WS t e Q) : ifK s t Q (.val (.bool b)) e := by
  cases b with
  | true => exact h1 rfl
  | false => exact h2 rfl
theorem ifK_nd {c : Prop} [Decidable c] (h1 : ¬ c → WS s e Q) (h2 : c → WS t e Q) : ifK s t Q (.val (.bool (!decide c))) e := by
  by_cases h : c
  · rw [decide_eq_true h]; exact h2 h
  · rw [decide_eq_false h]; exact h1 h
theorem we_chain {g g' : D → D → Option Rs} {da db dc : D} {b : Bool} {r : Rs} (ha : fa e = some (.val da, e)) (hb : fb e = some (.val db, e)) (hc : fc e = some (.val dc, e)) (h1 : g da db = some (.val (.bool b))) (h2 : g' db dc = some r) (k1 : b = true → K r e) (k2 : b = false → K (.val (.bool false)) e) : WE (sChain g g' fa fb fc) e K := by
  unfold WE sChain
  rw [bnd_ok ha nofun, bnd_ok hb nofun]
  simp only [settle, vw, h1]
  cases b with
  | true =>
    rw [if_pos rfl, bnd_ok hc nofun]
    simp only [h2, Option.map]
    exact ⟨_, _, rfl, k1 rfl⟩
  | false => exact ⟨_, _, rfl, k2 rfl⟩
theorem we_chain2 {g g' : D → D → Option Rs} {da db dc : D} {b b' : Bool} (ha : fa e = some (.val da, e)) (hb : fb e = some (.val db, e)) (hc : fc e = some (.val dc, e)) (h1 : g da db = some (.val (.bool b))) (h2 : g' db dc = some (.val (.bool b'))) (k : K (.val (.bool (b && b'))) e) : WE (sChain g g' fa fb fc) e K :=
  we_chain ha hb hc h1 h2 (fun h => by subst h; exact k) (fun h => by subst h; exact k)
/-! arguments -/
def argK2 (r : Rs) (A : ARes → Env → Prop) : ARes → Env → Prop
  | .err x, e => A (.err x) e
  | .ok rs, e => slotOk r e = true ∧ A (.ok (r :: rs)) e
def argK (fs : List Ev) (A : ARes → Env → Prop) : Rs → Env → Prop
  | .err x, e => A (.err x) e
  | r, e => WA fs e (argK2 (settle r) A)
variable {A : ARes → Env → Prop} {fs : List Ev}
theorem wa_nil (h : A (.ok []) e) : WA [] e A := ⟨_, _, rfl, h⟩
theorem wa_cons (h : WE f e (argK fs A)) : WA (f :: fs) e A := by
  obtain ⟨r, e1, h1, h2⟩ := h
  unfold WA
  have go : ∀ r, (∀ x, r ≠ .err x) → f e = some (r, e1) → WA fs e1 (argK2 (settle r) A) → ∃ a e', sArgs (f :: fs) e = some (a, e') ∧ A a e' := by
    intro r hn h1 h2
    obtain ⟨a, e2, h3, h4⟩ := h2
    unfold sArgs
    rw [h1]
    cases r with
    | err x => exact absurd rfl (hn x)
    | _ =>
      simp only
      rw [h3]
      cases a with
      | err x => exact ⟨_, _, rfl, h4⟩
      | ok rs =>
        obtain ⟨q1, q2⟩ := h4
        exact ⟨_, _, if_pos q1, q2⟩
  cases r with
  | err x =>
    refine ⟨.err x, e1, ?_, h2⟩
    unfold sArgs
    rw [h1]
  | val d => exact go (.val d) nofun h1 h2
  | new d => exact go (.new d) nofun h1 h2
  | slot d => exact go (.slot d) nofun h1 h2
theorem argK_val {d : D} (h : WA fs e (argK2 (.val d) A)) : argK fs A (.val d) e := h
theorem argK_new {d : List D} (h : WA fs e (argK2 (.val (.list d)) A)) : argK fs A (.new d) e := h
theorem argK_slot {i : Nat} (h : WA fs e (argK2 (.slot i) A)) : argK fs A (.slot i) e := h
theorem argK2_val {d : D} {rs : List Rs} (h : A (.ok (.val d :: rs)) e) : argK2 (.val d) A (.ok rs) e := ⟨rfl, h⟩
theorem argK2_slot {i : Nat} {rs : List Rs} (h0 : isOwn e i = true) (h : A (.ok (.slot i :: rs)) e) : argK2 (.slot i) A (.ok rs) e := ⟨h0, h⟩
/-- a function of data -/
def fnK (g : List D → Option Rs) (K : Rs → Env → Prop) : ARes → Env → Prop
  | .err x, e => K (.err x) e
  | .ok rs, e => ∃ ds r, vws rs e = some ds ∧ g ds = some r ∧ K r e
theorem we_fn {g : List D → Option Rs} (h : WA fs e (fnK g K)) : WE (sFn g fs) e K := by
  obtain ⟨a, e1, h1, h2⟩ := h
  unfold WE sFn
  rw [h1]
  cases a with
  | err x => exact ⟨_, _, rfl, h2⟩
  | ok rs =>
    obtain ⟨ds, r, q1, q2, q3⟩ := h2
    simp only [q1, q2, Option.map]
    exact ⟨_, _, rfl, q3⟩
theorem fnK_v {g : List D → Option Rs} {d : D} {r : Rs} (h : g [d] = some r) (k : K r e) : fnK g K (.ok [.val d]) e := ⟨_, r, rfl, h, k⟩
theorem fnK_s {g : List D → Option Rs} {i : Nat} {p : Bool} {d : List D} {r : Rs} (h0 : e[i]? = some (.own p d)) (h : g [.list d] = some r) (k : K r e) : fnK g K (.ok [.slot i]) e := ⟨_, r, by simp only [vws, vw, h0], h, k⟩
theorem fnK_vv {g : List D → Option Rs} {d d' : D} {r : Rs} (h : g [d, d'] = some r) (k : K r e) : fnK g K (.ok [.val d, .val d']) e := ⟨_, r, rfl, h, k⟩
/-- a call -/
def retK (K : Rs → Env → Prop) (rs : List Rs) (e : Env) : Rs → List Sl → Prop
  | .slot _, _ => False
  | r, outs => K r (writeBack rs outs e)
def callK (φ : FnSem) (K : Rs → Env → Prop) : ARes → Env → Prop
  | .err x, e => K (.err x) e
  | .ok rs, e => slotsApart rs = true ∧ ∃ args, argSls rs e = some args ∧ WF φ args (retK K rs e)
theorem we_call (h : WA fs e (callK φ K)) : WE (sCall φ fs) e K := by
  obtain ⟨a, e1, h1, h2⟩ := h
  unfold WE sCall
  rw [h1]
  cases a with
  | err x => exact ⟨_, _, rfl, h2⟩
  | ok rs =>
    obtain ⟨q0, args, q1, r, outs, q2, q3⟩ := h2
    simp only
    rw [if_pos q0, q1]
    simp only
    rw [q2]
    cases r with
    | slot i => exact q3.elim
    | _ => exact ⟨_, _, rfl, q3⟩
theorem wb_vals : ∀ (ds : List D) (outs : List Sl) (e : Env), writeBack (ds.map Rs.val) outs e = e
  | [], outs, e => by unfold writeBack; rfl
  | d :: ds, [], e => by unfold writeBack; rfl
  | d :: ds, o :: outs, e => by
    rw [List.map_cons]
    unfold writeBack
    exact wb_vals ds outs e
theorem apart_vals : ∀ ds : List D, slotsApart (ds.map Rs.val) = true
  | [] => rfl
  | d :: ds => apart_vals ds
theorem noSlot_vals (i : Nat) : ∀ ds : List D, noSlot i (ds.map Rs.val) = true
  | [] => rfl
  | d :: ds => noSlot_vals i ds
theorem argSls_vals : ∀ (ds : List D) (e : Env), argSls (ds.map Rs.val) e = some (ds.map Sl.val)
  | [], e => rfl
  | d :: ds, e => by
    rw [List.map_cons]
    unfold argSls
    rw [argSls_vals ds e]
    rfl
/-- what a call without own lists gives -/
def retV (K : Rs → Env → Prop) (e : Env) : Rs → List Sl → Prop
  | .slot _, _ => False
  | r, _ => K r e
theorem callK_vals (ds : List D) (h : WF φ (ds.map Sl.val) (retV K e)) : callK φ K (.ok (ds.map Rs.val)) e :=
  ⟨apart_vals ds, _, argSls_vals ds e, h.mono fun r o q => by
    cases r with
    | slot i => exact q
    | _ => unfold retK; simp only [wb_vals]; exact q⟩
theorem callK_v1 {a : D} (h : WF φ [.val a] (retV K e)) : callK φ K (.ok [.val a]) e := callK_vals [a] h
theorem callK_v2 {a b : D} (h : WF φ [.val a, .val b] (retV K e)) : callK φ K (.ok [.val a, .val b]) e := callK_vals [a, b] h
theorem callK_v3 {a b c : D} (h : WF φ [.val a, .val b, .val c] (retV K e)) : callK φ K (.ok [.val a, .val b, .val c]) e := callK_vals [a, b, c] h
theorem retV_val {d : D} {o : List Sl} (h : K (.val d) e) : retV K e (.val d) o := h
theorem retV_new {d : List D} {o : List Sl} (h : K (.new d) e) : retV K e (.new d) o := h
theorem retV_err {d : Er} {o : List Sl} (h : K (.err d) e) : retV K e (.err d) o := h
/-- a call whose first argument is an own list -/
def retO (K : Rs → Env → Prop) (i : Nat) (p : Bool) (e : Env) : Rs → List Sl → Prop
  | .slot _, _ => False
  | r, outs => match outs with
    | .own _ ys :: _ => K r (e.set i (.own p ys))
    | _ => False
theorem callK_own {i : Nat} {p : Bool} {xs : List D} (ds : List D) (h0 : e[i]? = some (.own p xs)) (h : WF φ (.own true xs :: ds.map Sl.val) (retO K i p e)) : callK φ K (.ok (.slot i :: ds.map Rs.val)) e := by
  refine ⟨?_, .own true xs :: ds.map Sl.val, ?_, h.mono fun r o q => ?_⟩
  · show (noSlot i (ds.map Rs.val) && slotsApart (ds.map Rs.val)) = true
    rw [noSlot_vals, apart_vals]
    rfl
  · unfold argSls
    rw [argSls_vals ds e]
    simp only [argSl, h0]
  · have go : ∀ {r : Rs} {o : List Sl}, (match o with
      | .own _ ys :: _ => K r (e.set i (.own p ys))
      | _ => False) → K r (writeBack (.slot i :: ds.map Rs.val) o e) := by
      intro r o q
      split at q
      · unfold writeBack
        rw [h0]
        simp only
        rw [wb_vals]
        exact q
      · exact q.elim
    cases r with
    | slot i => exact q
    | val d => exact go q
    | new d => exact go q
    | err d => exact go q
theorem callK_o0 {i : Nat} {p : Bool} {xs : List D} (h0 : e[i]? = some (.own p xs)) (h : WF φ [.own true xs] (retO K i p e)) : callK φ K (.ok [.slot i]) e := callK_own [] h0 h
theorem callK_o1 {i : Nat} {p : Bool} {xs : List D} {a : D} (h0 : e[i]? = some (.own p xs)) (h : WF φ [.own true xs, .val a] (retO K i p e)) : callK φ K (.ok [.slot i, .val a]) e := callK_own [a] h0 h
theorem callK_o2 {i : Nat} {p : Bool} {xs : List D} {a b : D} (h0 : e[i]? = some (.own p xs)) (h : WF φ [.own true xs, .val a, .val b] (retO K i p e)) : callK φ K (.ok [.slot i, .val a, .val b]) e := callK_own [a, b] h0 h
theorem retO_val {i : Nat} {p q : Bool} {d : D} {ys : List D} {o : List Sl} (h : K (.val d) (e.set i (.own p ys))) : retO K i p e (.val d) (.own q ys :: o) := h
theorem retO_new {i : Nat} {p q : Bool} {d : List D} {ys : List D} {o : List Sl} (h : K (.new d) (e.set i (.own p ys))) : retO K i p e (.new d) (.own q ys :: o) := h
/-! what is taken -/
def tkK (k : D → Env → Prop) (K : Rs → Env → Prop) : Rs → Env → Prop
  | .err x, e => K (.err x) e
  | .val d, e => k d e
  | .new xs, e => k (.list xs) e
  | .slot i, e => ∃ xs, e[i]? = some (.own false xs) ∧ k (.list xs) (e.set i (.val (.list xs)))
theorem tkK_ok {k : D → Env → Prop} {r : Rs} (hn : ∀ x, r ≠ .err x) (h : tkK k K r e) : ∃ d e', tk r e = some (d, e') ∧ k d e' := by
  cases r with
  | err x => exact absurd rfl (hn x)
  | val d => exact ⟨_, _, rfl, h⟩
  | new d => exact ⟨_, _, rfl, h⟩
  | slot i =>
    obtain ⟨xs, h1, h2⟩ := h
    refine ⟨_, _, ?_, h2⟩
    unfold tk
    simp only [h1]
def tcK (d : D) (T : TRes → Env → Prop) : TRes → Env → Prop
  | .err x, e => T (.err x) e
  | .ok ds, e => T (.ok (d :: ds)) e
def takK (fs : List Ev) (T : TRes → Env → Prop) : Rs → Env → Prop := tkK (fun d e => WT fs e (tcK d T)) (fun r e => match r with
  | .err x => T (.err x) e
  | _ => False)
variable {T : TRes → Env → Prop}
theorem wt_nil (h : T (.ok []) e) : WT [] e T := ⟨_, _, rfl, h⟩
theorem wt_cons (h : WE f e (takK fs T)) : WT (f :: fs) e T := by
  obtain ⟨r, e1, h1, h2⟩ := h
  unfold WT
  have go : ∀ r, (∀ x, r ≠ .err x) → f e = some (r, e1) → takK fs T r e1 → ∃ a e', sTaken (f :: fs) e = some (a, e') ∧ T a e' := by
    intro r hn h1 h2
    obtain ⟨d, e2, h3, a, e3, h4, h5⟩ := tkK_ok hn h2
    unfold sTaken
    rw [h1]
    cases r with
    | err x => exact absurd rfl (hn x)
    | _ =>
      simp only
      rw [h3]
      simp only
      rw [h4]
      cases a with
      | err x => exact ⟨_, _, rfl, h5⟩
      | ok ds => exact ⟨_, _, rfl, h5⟩
  cases r with
  | err x =>
    refine ⟨.err x, e1, ?_, h2⟩
    unfold sTaken
    rw [h1]
  | val d => exact go (.val d) nofun h1 h2
  | new d => exact go (.new d) nofun h1 h2
  | slot d => exact go (.slot d) nofun h1 h2
theorem takK_val {d : D} (h : WT fs e (tcK d T)) : takK fs T (.val d) e := h
theorem takK_new {d : List D} (h : WT fs e (tcK (.list d) T)) : takK fs T (.new d) e := h
theorem tcK_ok {d : D} {ds : List D} (h : T (.ok (d :: ds)) e) : tcK d T (.ok ds) e := h
def tupK (mk : List D → Rs) (K : Rs → Env → Prop) : TRes → Env → Prop
  | .err x, e => K (.err x) e
  | .ok ds, e => K (mk ds) e
theorem we_tup (h : WT fs e (tupK (fun ds => .val (.tuple ds)) K)) : WE (sTup fs) e K := by
  obtain ⟨a, e1, h1, h2⟩ := h
  unfold WE sTup
  rw [h1]
  cases a with
  | err x => exact ⟨_, _, rfl, h2⟩
  | ok ds => exact ⟨_, _, rfl, h2⟩
theorem we_lst (h : WT fs e (tupK .new K)) : WE (sLst fs) e K := by
  obtain ⟨a, e1, h1, h2⟩ := h
  unfold WE sLst
  rw [h1]
  cases a with
  | err x => exact ⟨_, _, rfl, h2⟩
  | ok ds => exact ⟨_, _, rfl, h2⟩
theorem tupK_ok {mk : List D → Rs} {ds : List D} (h : K (mk ds) e) : tupK mk K (.ok ds) e := h
def frzK (K : Rs → Env → Prop) : Rs → Env → Prop := tkK (fun d e => K (.val d) e) K
theorem we_frz (h : WE f e (frzK K)) : WE (sFrz f) e K := by
  obtain ⟨r, e1, h1, h2⟩ := h
  unfold WE sFrz
  rw [h1]
  cases r with
  | err x => exact ⟨_, _, rfl, h2⟩
  | val d => exact ⟨_, _, rfl, h2⟩
  | new d => exact ⟨_, _, rfl, h2⟩
  | slot i =>
    obtain ⟨d, e2, h3, h4⟩ := tkK_ok (K := K) (r := .slot i) (k := fun d e => K (.val d) e) nofun h2
    refine ⟨.val d, e2, ?_, h4⟩
    simp only [h3, Option.map]
theorem frzK_val {d : D} (h : K (.val d) e) : frzK K (.val d) e := h
theorem frzK_new {d : List D} (h : K (.val (.list d)) e) : frzK K (.new d) e := h
/-- list + list -/
def catK1 (fb : Ev) (K : Rs → Env → Prop) : Rs → Env → Prop := errK K fun ra e => WE fb e (errK K fun rb e2 => ∃ xs ys, vwL ra e2 = some xs ∧ vwL rb e2 = some ys ∧ xs.length + ys.length ≤ 16777216 ∧ K (.new (xs ++ ys)) e2)
theorem we_cat (h : WE fa e (catK1 fb K)) : WE (sCat fa fb) e K := by
  unfold sCat
  refine we_bnd (h.mono fun ra e1 q => ?_)
  have go : ∀ ra : Rs, (∀ x, ra ≠ .err x) → catK1 fb K ra e1 → errK K (fun r e1 => ∃ r' e', (fun ra e1 => bnd fb (fun rb e2 => match vwL ra e2, vwL rb e2 with
      | some xs, some ys => if xs.length + ys.length ≤ 16777216 then some (.new (xs ++ ys), e2) else none
      | _, _ => none) e1) r e1 = some (r', e') ∧ K r' e') ra e1 := by
    intro ra hn q
    have w : WE fb e1 (errK K fun rb e2 => ∃ xs ys, vwL ra e2 = some xs ∧ vwL rb e2 = some ys ∧ xs.length + ys.length ≤ 16777216 ∧ K (.new (xs ++ ys)) e2) := by
      cases ra with
      | err x => exact absurd rfl (hn x)
      | _ => exact q
    have g2 : WE (bnd fb (fun rb e2 => match vwL ra e2, vwL rb e2 with
      | some xs, some ys => if xs.length + ys.length ≤ 16777216 then some (.new (xs ++ ys), e2) else none
      | _, _ => none)) e1 K := by
      refine we_bnd (w.mono fun rb e2 q2 => ?_)
      cases rb with
      | err x => exact q2
      | _ =>
        obtain ⟨xs, ys, z1, z2, z3, z4⟩ := q2
        simp only [errK, z1, z2]
        exact ⟨_, _, if_pos z3, z4⟩
    cases ra with
    | err x => exact absurd rfl (hn x)
    | _ => exact g2
  cases ra with
  | err x => exact q
  | val d => exact go (.val d) nofun q
  | new d => exact go (.new d) nofun q
  | slot d => exact go (.slot d) nofun q
def catK2' (ra : Rs) (K : Rs → Env → Prop) : Rs → Env → Prop := errK K fun rb e2 => ∃ xs ys, vwL ra e2 = some xs ∧ vwL rb e2 = some ys ∧ xs.length + ys.length ≤ 16777216 ∧ K (.new (xs ++ ys)) e2
theorem catK1_new {xs : List D} (h : WE fb e (catK2' (.new xs) K)) : catK1 fb K (.new xs) e := h
theorem catK1_slot {i : Nat} (h : WE fb e (catK2' (.slot i) K)) : catK1 fb K (.slot i) e := h
/-! statements -/
def seqK (t : Stm) (Q : Out → Env → Prop) : Out → Env → Prop
  | .nx, e => WS t e Q
  | o, e => Q o e
theorem ws_seq (h : WS s e (seqK t Q)) : WS (sSeq s t) e Q := by
  obtain ⟨o, e1, h1, h2⟩ := h
  unfold WS sSeq
  rw [h1]
  cases o with
  | nx => exact h2
  | _ => exact ⟨_, _, rfl, h2⟩
theorem seqK_nx (h : WS t e Q) : seqK t Q .nx e := h
theorem seqK_ret {r : Rs} (h : Q (.ret r) e) : seqK t Q (.ret r) e := h
theorem seqK_err {x : Er} (h : Q (.err x) e) : seqK t Q (.err x) e := h
theorem ws_skip (h : Q .nx e) : WS sSkip e Q := ⟨_, _, rfl, h⟩
def exK (Q : Out → Env → Prop) : Rs → Env → Prop
  | .err x, e => Q (.err x) e
  | _, e => Q .nx e
theorem ws_expr (h : WE f e (exK Q)) : WS (sExpr f) e Q := by
  obtain ⟨r, e1, h1, h2⟩ := h
  unfold WS sExpr
  rw [h1]
  cases r with
  | err x => exact ⟨_, _, rfl, h2⟩
  | _ => exact ⟨_, _, rfl, h2⟩
theorem exK_val {d : D} (h : Q .nx e) : exK Q (.val d) e := h
theorem exK_err {d : Er} (h : Q (.err d) e) : exK Q (.err d) e := h
theorem exK_new {d : List D} (h : Q .nx e) : exK Q (.new d) e := h
def rtK (Q : Out → Env → Prop) : Rs → Env → Prop
  | .err x, e => Q (.err x) e
  | r, e => Q (.ret r) e
theorem ws_ret (h : WE f e (rtK Q)) : WS (sRet f) e Q := by
  obtain ⟨r, e1, h1, h2⟩ := h
  unfold WS sRet
  rw [h1]
  cases r with
  | err x => exact ⟨_, _, rfl, h2⟩
  | _ => exact ⟨_, _, rfl, h2⟩
theorem rtK_val {d : D} (h : Q (.ret (.val d)) e) : rtK Q (.val d) e := h
theorem rtK_new {d : List D} (h : Q (.ret (.new d)) e) : rtK Q (.new d) e := h
theorem rtK_slot {d : Nat} (h : Q (.ret (.slot d)) e) : rtK Q (.slot d) e := h
theorem rtK_err {d : Er} (h : Q (.err d) e) : rtK Q (.err d) e := h
def setK (j : Nat) (Q : Out → Env → Prop) : Rs → Env → Prop
  | .err x, e => Q (.err x) e
  | .new xs, e => noPin e j = true ∧ Q .nx (e.set j (.own false xs))
  | .val d, e => noPin e j = true ∧ Q .nx (e.set j (.val d))
  | .slot i, e => ∃ xs, e[i]? = some (.own false xs) ∧ noPin (e.set i (.val (.list xs))) j = true ∧ Q .nx ((e.set i (.val (.list xs))).set j (.val (.list xs)))
theorem ws_set {j : Nat} (h : WE f e (setK j Q)) : WS (sSet j f) e Q := by
  obtain ⟨r, e1, h1, h2⟩ := h
  unfold WS sSet
  rw [h1]
  cases r with
  | err x => exact ⟨_, _, rfl, h2⟩
  | new xs => exact ⟨_, _, if_pos h2.1, h2.2⟩
  | val d => exact ⟨_, _, if_pos h2.1, h2.2⟩
  | slot i =>
    obtain ⟨xs, h3, h4, h5⟩ := h2
    simp only [tk, h3]
    exact ⟨_, _, if_pos h4, h5⟩
theorem setK_val {j : Nat} {d : D} (h0 : noPin e j = true) (h : Q .nx (e.set j (.val d))) : setK j Q (.val d) e := ⟨h0, h⟩
theorem setK_new {j : Nat} {d : List D} (h0 : noPin e j = true) (h : Q .nx (e.set j (.own false d))) : setK j Q (.new d) e := ⟨h0, h⟩
theorem setK_err {j : Nat} {d : Er} (h : Q (.err d) e) : setK j Q (.err d) e := h
/-- targets -/
theorem wg_nm {j : Nat} {d : D} {P : Env → Prop} (h0 : noPin e j = true) (h : P (e.set j (.val d))) : WG (gNm j) d e P := ⟨_, gNmE h0, h⟩
def WGs (gs : List Tgt) (ds : List D) (e : Env) (P : Env → Prop) : Prop := ∃ e', gTs gs ds e = some e' ∧ P e'
theorem wgs_nil {P : Env → Prop} (h : P e) : WGs [] [] e P := ⟨_, rfl, h⟩
theorem wgs_cons {g : Tgt} {gs : List Tgt} {d : D} {ds : List D} {P : Env → Prop} (h : WG g d e fun e' => WGs gs ds e' P) : WGs (g :: gs) (d :: ds) e P := by
  obtain ⟨e1, h1, e2, h2, h3⟩ := h
  refine ⟨e2, ?_, h3⟩
  unfold gTs
  rw [h1]
  exact h2
theorem wg_tup {gs : List Tgt} {ds : List D} {P : Env → Prop} (hl : ds.length = gs.length) (h : WGs gs ds e P) : WG (gTupD gs) (.tuple ds) e P := by
  obtain ⟨e1, h1, h2⟩ := h
  refine ⟨e1, ?_, h2⟩
  unfold gTupD
  simp only
  rw [if_pos hl, h1]
def asgK (g : Tgt) (Q : Out → Env → Prop) : Rs → Env → Prop := tkK (fun d e => WG g d e (Q .nx)) (fun r e => match r with
  | .err x => Q (.err x) e
  | _ => False)
theorem ws_asg {g : Tgt} (h : WE f e (asgK g Q)) : WS (sAsg g f) e Q := by
  obtain ⟨r, e1, h1, h2⟩ := h
  unfold WS sAsg
  rw [h1]
  have go : ∀ r, (∀ x, r ≠ .err x) → asgK g Q r e1 → ∃ d e2, tk r e1 = some (d, e2) ∧ ∃ e3, g d e2 = some e3 ∧ Q .nx e3 := by
    intro r hn h2
    obtain ⟨d, e2, h3, e3, h4, h5⟩ := tkK_ok hn h2
    exact ⟨d, e2, h3, e3, h4, h5⟩
  cases r with
  | err x => exact ⟨_, _, rfl, h2⟩
  | val d =>
    obtain ⟨d, e2, h3, e3, h4, h5⟩ := go (.val d) nofun h2
    simp only [h3, h4, Option.map]
    exact ⟨_, _, rfl, h5⟩
  | new d =>
    obtain ⟨d, e2, h3, e3, h4, h5⟩ := go (.new d) nofun h2
    simp only [h3, h4, Option.map]
    exact ⟨_, _, rfl, h5⟩
  | slot d =>
    obtain ⟨d, e2, h3, e3, h4, h5⟩ := go (.slot d) nofun h2
    simp only [h3, h4, Option.map]
    exact ⟨_, _, rfl, h5⟩
theorem asgK_val {g : Tgt} {d : D} (h : WG g d e (Q .nx)) : asgK g Q (.val d) e := h
def parK (i j : Nat) (Q : Out → Env → Prop) : TRes → Env → Prop
  | .err x, e => Q (.err x) e
  | .ok [a, b], e => noPin e i = true ∧ noPin (e.set i (.val a)) j = true ∧ Q .nx ((e.set i (.val a)).set j (.val b))
  | _, _ => False
theorem ws_par {i j : Nat} (h : WT fs e (parK i j Q)) : WS (sPar i j fs) e Q := by
  obtain ⟨a, e1, h1, h2⟩ := h
  unfold WS sPar
  rw [h1]
  unfold parK at h2
  split at h2
  · exact ⟨_, _, rfl, h2⟩
  · exact ⟨_, _, if_pos ⟨h2.1, h2.2.1⟩, h2.2.2⟩
  · exact h2.elim
theorem parK_ok {i j : Nat} {a b : D} (h0 : noPin e i = true) (h1 : noPin (e.set i (.val a)) j = true) (h : Q .nx ((e.set i (.val a)).set j (.val b))) : parK i j Q (.ok [a, b]) e := ⟨h0, h1, h⟩
/-- a method that changes an own list -/
def mutK (g : List D → List D → Option (D × List D)) (i : Nat) (K : Rs → Env → Prop) : TRes → Env → Prop
  | .err x, e => K (.err x) e
  | .ok ds, e => ∃ p xs q, e[i]? = some (.own p xs) ∧ g xs ds = some q ∧ K (.val q.1) (e.set i (.own p q.2))
theorem we_mut {g : List D → List D → Option (D × List D)} {i : Nat} {p : Bool} {xs : List D} (h0 : e[i]? = some (.own p xs)) (h : WT fs e (mutK g i K)) : WE (sMut g i fs) e K := by
  obtain ⟨a, e1, h1, h2⟩ := h
  unfold WE sMut
  simp only [h0, h1]
  cases a with
  | err x => exact ⟨_, _, rfl, h2⟩
  | ok ds =>
    obtain ⟨p, xs, q, z1, z2, z3⟩ := h2
    simp only [z1, z2, Option.map]
    exact ⟨_, _, rfl, z3⟩
theorem mutK_ok {g : List D → List D → Option (D × List D)} {i : Nat} {p : Bool} {xs ds ys : List D} {d : D} (h0 : e[i]? = some (.own p xs)) (h1 : g xs ds = some (d, ys)) (h : K (.val d) (e.set i (.own p ys))) : mutK g i K (.ok ds) e := ⟨p, xs, (d, ys), h0, h1, h⟩
theorem mutK_app {i : Nat} {p : Bool} {xs : List D} {d : D} (h0 : e[i]? = some (.own p xs)) (h1 : xs.length < 16777216) (h : K (.val .none) (e.set i (.own p (xs ++ [d])))) : mutK gApp i K (.ok [d]) e := mutK_ok h0 (if_pos h1) h
def sixK2 (j : Nat) (d : D) (Q : Out → Env → Prop) : Rs → Env → Prop
  | .err x, e => Q (.err x) e
  | .val (.int i), e => ∃ p xs n, e[j]? = some (.own p xs) ∧ ixN xs.length i = some n ∧ Q .nx (e.set j (.own p (xs.set n d)))
  | _, _ => False
def sixK (j : Nat) (fi : Ev) (Q : Out → Env → Prop) : Rs → Env → Prop := tkK (fun d e => isOwn e j = true ∧ WE fi e (sixK2 j d Q)) (fun r e => match r with
  | .err x => Q (.err x) e
  | _ => False)
theorem ws_setIx {j : Nat} {fi : Ev} (h : WE f e (sixK j fi Q)) : WS (sSetIx j fi f) e Q := by
  obtain ⟨r, e1, h1, h2⟩ := h
  unfold WS sSetIx
  rw [h1]
  have go : ∀ r, (∀ x, r ≠ .err x) → sixK j fi Q r e1 → ∃ d e2, tk r e1 = some (d, e2) ∧ isOwn e2 j = true ∧ WE fi e2 (sixK2 j d Q) := fun r hn h2 => tkK_ok hn h2
  have fin : ∀ {d : D} {e2 : Env}, isOwn e2 j = true → WE fi e2 (sixK2 j d Q) → ∃ o e', (match e2[j]? with
      | some (.own _ _) => match fi e2 with
        | some (.err x, e3) => some (Out.err x, e3)
        | some (.val (.int i), e3) => match e3[j]? with
          | some (.own p xs) => match ixN xs.length i with
            | some n => some (.nx, e3.set j (.own p (xs.set n d)))
            | none => none
          | _ => none
        | _ => none
      | _ => none) = some (o, e') ∧ Q o e' := by
    intro d e2 q1 q2
    obtain ⟨p, ys, q3⟩ := isOwn_ok q1
    obtain ⟨r, e3, q4, q5⟩ := q2
    rw [q3]
    simp only
    rw [q4]
    unfold sixK2 at q5
    split at q5
    · exact ⟨_, _, rfl, q5⟩
    · obtain ⟨p', xs, n, z1, z2, z3⟩ := q5
      simp only [z1, z2]
      exact ⟨_, _, rfl, z3⟩
    · exact q5.elim
  cases r with
  | err x => exact ⟨_, _, rfl, h2⟩
  | val d =>
    obtain ⟨d, e2, h3, h4, h5⟩ := go (.val d) nofun h2
    simp only
    rw [h3]
    exact fin h4 h5
  | new d =>
    obtain ⟨d, e2, h3, h4, h5⟩ := go (.new d) nofun h2
    simp only
    rw [h3]
    exact fin h4 h5
  | slot d =>
    obtain ⟨d, e2, h3, h4, h5⟩ := go (.slot d) nofun h2
    simp only
    rw [h3]
    exact fin h4 h5
theorem sixK_val {j : Nat} {fi : Ev} {d : D} (h0 : isOwn e j = true) (h : WE fi e (sixK2 j d Q)) : sixK j fi Q (.val d) e := ⟨h0, h⟩
def augK (j : Nat) (g : D → D → Option Rs) (a : D) (Q : Out → Env → Prop) : Rs → Env → Prop := fun r e => match r with
  | .err x => Q (.err x) e
  | r => ∃ b d, vw (settle r) e = some b ∧ g a b = some (.val d) ∧ noPin e j = true ∧ Q .nx (e.set j (.val d))
theorem ws_aug {j : Nat} {g : D → D → Option Rs} {a : D} (h0 : e[j]? = some (.val a)) (h : WE f e (augK j g a Q)) : WS (sAug j g f) e Q := by
  obtain ⟨r, e1, h1, h2⟩ := h
  unfold WS sAug
  simp only [h0]
  rw [h1]
  have go : ∀ r, (∀ x, r ≠ .err x) → augK j g a Q r e1 → ∃ b d, vw (settle r) e1 = some b ∧ g a b = some (.val d) ∧ noPin e1 j = true ∧ Q .nx (e1.set j (.val d)) := by
    intro r hn h2
    cases r with
    | err x => exact absurd rfl (hn x)
    | _ => exact h2
  cases r with
  | err x => exact ⟨_, _, rfl, h2⟩
  | val d =>
    obtain ⟨b, dd, q1, q2, q3, q4⟩ := go (.val d) nofun h2
    simp only [q1, q2]
    exact ⟨_, _, if_pos q3, q4⟩
  | new d =>
    obtain ⟨b, dd, q1, q2, q3, q4⟩ := go (.new d) nofun h2
    simp only [q1, q2]
    exact ⟨_, _, if_pos q3, q4⟩
  | slot d =>
    obtain ⟨b, dd, q1, q2, q3, q4⟩ := go (.slot d) nofun h2
    simp only [q1, q2]
    exact ⟨_, _, if_pos q3, q4⟩
theorem augK_val {j : Nat} {g : D → D → Option Rs} {a b d : D} (h : g a b = some (.val d)) (h0 : noPin e j = true) (k : Q .nx (e.set j (.val d))) : augK j g a Q (.val b) e := ⟨b, d, rfl, h, h0, k⟩
end
end MR

set_option Elab.async false
set_option linter.all false
set_option maxRecDepth 100000
set_option maxHeartbeats 2000000
namespace MR
open PySem PySem.Spec PyProof.Rows L2
variable [Tq]
section
variable {f fa fb fc ft fe : Ev} {s t b : Stm} {e e1 : Env} {K K' : Rs → Env → Prop} {Q Q' : Out → Env → Prop} {fi : Iv} {g : Tgt} {vs : List Nat} {Z : IRes → Env → Prop} {items : List D}
/-! what is gone over -/
def itK (Z : IRes → Env → Prop) : Rs → Env → Prop
  | .err x, e => Z (.err x) e
  | .val (.list xs), e => Z (.ok xs none) e
  | .val (.tuple xs), e => Z (.ok xs none) e
  | .new xs, e => Z (.ok xs none) e
  | .slot j, e => ∃ p xs, e[j]? = some (.own p xs) ∧ Z (.ok xs (some j)) e
  | _, _ => False
theorem wi_seq (h : WE f e (itK Z)) : WI (sSeqIt f) e Z := by
  obtain ⟨r, e1, h1, h2⟩ := h
  unfold WI sSeqIt
  rw [h1]
  unfold itK at h2
  split at h2
  · exact ⟨_, _, rfl, h2⟩
  · exact ⟨_, _, rfl, h2⟩
  · exact ⟨_, _, rfl, h2⟩
  · exact ⟨_, _, rfl, h2⟩
  · obtain ⟨p, xs, q1, q2⟩ := h2
    simp only [q1]
    exact ⟨_, _, rfl, q2⟩
  · exact h2.elim
theorem itK_list {xs : List D} (h : Z (.ok xs none) e) : itK Z (.val (.list xs)) e := h
theorem itK_tuple {xs : List D} (h : Z (.ok xs none) e) : itK Z (.val (.tuple xs)) e := h
theorem itK_new {xs : List D} (h : Z (.ok xs none) e) : itK Z (.new xs) e := h
theorem itK_slot {xs : List D} {j : Nat} {p : Bool} (h0 : e[j]? = some (.own p xs)) (h : Z (.ok xs (some j)) e) : itK Z (.slot j) e := ⟨p, xs, h0, h⟩
def rgK (Z : IRes → Env → Prop) : ARes → Env → Prop
  | .err x, e => Z (.err x) e
  | .ok [.val (.int n)], e => (-(2 ^ 62) ≤ n ∧ n < 2 ^ 62) ∧ Z (.ok (rgI 0 n.toNat) none) e
  | .ok [.val (.int a), .val (.int b)], e => (-(2 ^ 62) ≤ a ∧ a < 2 ^ 62 ∧ -(2 ^ 62) ≤ b ∧ b < 2 ^ 62) ∧ Z (.ok (rgI a (b - a).toNat) none) e
  | _, _ => False
theorem wi_rg {fs : List Ev} (h : WA fs e (rgK Z)) : WI (sRg fs) e Z := by
  obtain ⟨a, e1, h1, h2⟩ := h
  unfold WI sRg
  rw [h1]
  unfold rgK at h2
  split at h2
  · exact ⟨_, _, rfl, h2⟩
  · exact ⟨_, _, if_pos h2.1, h2.2⟩
  · exact ⟨_, _, if_pos h2.1, h2.2⟩
  · exact h2.elim
theorem rgK_n {m : Nat} (h0 : m ≤ 16777216) (h : Z (.ok (rgI 0 m) none) e) : rgK Z (.ok [.val (.int (m : Int))]) e := ⟨⟨by omega, by omega⟩, by rw [Int.toNat_natCast]; exact h⟩
def enK (Z : IRes → Env → Prop) : ARes → Env → Prop
  | .err x, e => Z (.err x) e
  | .ok [.val (.list xs)], e => Z (.ok (numbered 0 xs) none) e
  | .ok [.val (.tuple xs)], e => Z (.ok (numbered 0 xs) none) e
  | _, _ => False
theorem wi_enum (h : WA [f] e (enK Z)) : WI (sEnum f) e Z := by
  obtain ⟨a, e1, h1, h2⟩ := h
  unfold WI sEnum
  rw [h1]
  unfold enK at h2
  split at h2
  · exact ⟨_, _, rfl, h2⟩
  · exact ⟨_, _, rfl, h2⟩
  · exact ⟨_, _, rfl, h2⟩
  · exact h2.elim
theorem enK_l {xs : List D} (h : Z (.ok (numbered 0 xs) none) e) : enK Z (.ok [.val (.list xs)]) e := h
theorem enK_t {xs : List D} (h : Z (.ok (numbered 0 xs) none) e) : enK Z (.ok [.val (.tuple xs)]) e := h
/-! for -/
def FL (c : Env → Bool) (g : Tgt) (b : Stm) (items : List D) (e : Env) (Q : Out → Env → Prop) : Prop := ∃ o e', forL g c b items e = some (o, e') ∧ Q o e'
def lpK (J : Env → Prop) (Q : Out → Env → Prop) : Out → Env → Prop
  | .nx, e => J e
  | .ct, e => J e
  | .brk, e => Q .nx e
  | .ret r, e => Q (.ret r) e
  | .err x, e => Q (.err x) e
theorem lpK_nx {J : Env → Prop} (h : J e) : lpK J Q .nx e := h
theorem lpK_ret {J : Env → Prop} {r : Rs} (h : Q (.ret r) e) : lpK J Q (.ret r) e := h
theorem fl_list {c : Env → Bool} (I : List D → Env → Prop) : ∀ {items : List D} {e : Env}, (∀ d ds e, I (d :: ds) e → WG g d e fun e1 => WS b e1 (lpK (fun e2 => c e2 = true ∧ I ds e2) Q)) → (∀ e, I [] e → Q .nx e) → I items e → FL c g b items e Q
  | [], e, _, hq, hi => ⟨.nx, e, by unfold forL; rfl, hq e hi⟩
  | d :: ds, e, hs, hq, hi => by
    obtain ⟨e1, h1, o, e2, h2, h3⟩ := hs d ds e hi
    unfold FL forL
    rw [h1]
    simp only
    rw [h2]
    cases o with
    | nx =>
      simp only
      rw [if_pos h3.1]
      exact fl_list I hs hq h3.2
    | ct =>
      simp only
      rw [if_pos h3.1]
      exact fl_list I hs hq h3.2
    | brk => exact ⟨_, _, rfl, h3⟩
    | ret r => exact ⟨_, _, rfl, h3⟩
    | err x => exact ⟨_, _, rfl, h3⟩
def forK (g : Tgt) (b : Stm) (Q : Out → Env → Prop) : IRes → Env → Prop
  | .err x, e => Q (.err x) e
  | .ok items none, e => FL (fun _ => true) g b items e Q
  | .ok items (some j), e => ∃ p xs, e[j]? = some (.own p xs) ∧ FL (slotIs j xs) g b items (e.set j (.own true xs)) fun o e' => ∃ ys, e'[j]? = some (.own true ys) ∧ o ≠ .ret (.slot j) ∧ Q o (e'.set j (.own p ys))
theorem ws_for (h : WI fi e (forK g b Q)) : WS (sFor fi g b) e Q := by
  obtain ⟨a, e1, h1, h2⟩ := h
  unfold WS sFor
  rw [h1]
  cases a with
  | err x => exact ⟨_, _, rfl, h2⟩
  | ok items gd =>
    cases gd with
    | none => exact h2
    | some j =>
      obtain ⟨p, xs, q1, o, e', q2, ys, q3, q4, q5⟩ := h2
      simp only [q1]
      rw [q2]
      unfold opened
      simp only [q3]
      refine ⟨o, e'.set j (.own p ys), ?_, q5⟩
      cases o with
      | ret r =>
        cases r with
        | slot k =>
          simp only
          rw [if_neg (fun z => q4 (by rw [z]))]
        | _ => rfl
      | _ => rfl
theorem forK_n (h : FL (fun _ => true) g b items e Q) : forK g b Q (.ok items none) e := h
/-! while -/
def whK (b : Stm) (J : Env → Prop) (Q : Out → Env → Prop) : Rs → Env → Prop := boK (fun t e => if t = true then WS b e (lpK J Q) else Q .nx e) (fun r e => match r with
  | .err x => Q (.err x) e
  | _ => False)
theorem wh_n {α : Type} {I : α → Env → Prop} {m : α → Nat} (hs : ∀ a e, I a e → WE fc e (whK b (fun e' => ∃ a', I a' e' ∧ m a' < m a) Q)) : ∀ (n : Nat) (a : α) (e : Env), m a < n → I a e → ∃ o e', whileN fc b n e = some (o, e') ∧ Q o e'
  | 0, a, e, h, _ => absurd h (Nat.not_lt_zero _)
  | n + 1, a, e, h, hi => by
    obtain ⟨r, e1, h1, h2⟩ := hs a e hi
    unfold whileN
    rw [h1]
    unfold whK boK at h2
    split at h2
    · exact ⟨_, _, rfl, h2⟩
    · rename_i t
      cases t with
      | false => exact ⟨_, _, rfl, h2⟩
      | true =>
        obtain ⟨o, e2, q1, q2⟩ := h2
        simp only
        rw [q1]
        cases o with
        | nx =>
          obtain ⟨a', z1, z2⟩ := q2
          exact wh_n hs n a' e2 (by omega) z1
        | ct =>
          obtain ⟨a', z1, z2⟩ := q2
          exact wh_n hs n a' e2 (by omega) z1
        | brk => exact ⟨_, _, rfl, q2⟩
        | ret r => exact ⟨_, _, rfl, q2⟩
        | err x => exact ⟨_, _, rfl, q2⟩
    · exact h2.elim
theorem ws_while {α : Type} (I : α → Env → Prop) (m : α → Nat) {a : α} (h0 : I a e) (hs : ∀ a e, I a e → WE fc e (whK b (fun e' => ∃ a', I a' e' ∧ m a' < m a) Q)) : WS (sWhile fc b) e Q := by
  obtain ⟨o, e', h1, h2⟩ := wh_n hs (m a + 1) a e (Nat.lt_succ_self _) h0
  exact ⟨o, e', sWhile_of h1, h2⟩
theorem whK_b {t : Bool} {J : Env → Prop} (h1 : t = true → WS b e (lpK J Q)) (h2 : t = false → Q .nx e) : whK b J Q (.val (.bool t)) e := by
  cases t with
  | true => exact h1 rfl
  | false => exact h2 rfl
/-! comprehensions -/
def LL (c : Env → Bool) (g : Tgt) (ft fe : Ev) (vs : List Nat) (items : List D) (e : Env) (acc : List D) (P : List D → Env → Prop) : Prop := ∃ ys e', lcL c g ft fe vs items e acc = some (ys, e') ∧ P ys e'
def lcE (vs : List Nat) (yes : D → Env → Prop) : Rs → Env → Prop := tkK (fun y e => noOwn e vs = true ∧ yes y (wipeE e vs)) (fun _ _ => False)
def lcT (fe : Ev) (vs : List Nat) (yes : D → Env → Prop) (no : Env → Prop) : Rs → Env → Prop := boK (fun t e => if t = true then WE fe e (lcE vs yes) else noOwn e vs = true ∧ no (wipeE e vs)) (fun _ _ => False)
theorem lcE_val {yes : D → Env → Prop} {d : D} (h0 : noOwn e vs = true) (h : yes d (wipeE e vs)) : lcE vs yes (.val d) e := ⟨h0, h⟩
theorem lcE_new {yes : D → Env → Prop} {d : List D} (h0 : noOwn e vs = true) (h : yes (.list d) (wipeE e vs)) : lcE vs yes (.new d) e := ⟨h0, h⟩
theorem lcT_t {yes : D → Env → Prop} {no : Env → Prop} (h : WE fe e (lcE vs yes)) : lcT fe vs yes no (.val (.bool true)) e := h
theorem ll_list {c : Env → Bool} {P : List D → Env → Prop} (I : List D → List D → Env → Prop) : ∀ {items acc : List D} {e : Env}, (∀ ds acc e, I ds acc e → c e = true) → (∀ d ds acc e, I (d :: ds) acc e → WG g d e fun e1 => WE ft e1 (lcT fe vs (fun y e' => I ds (acc ++ [y]) e') (fun e' => I ds acc e'))) → (∀ acc e, I [] acc e → P acc e) → I items acc e → LL c g ft fe vs items e acc P
  | [], acc, e, hc, _, hq, hi => ⟨acc, e, by unfold lcL; rw [if_pos (hc _ _ _ hi)], hq _ _ hi⟩
  | d :: ds, acc, e, hc, hs, hq, hi => by
    obtain ⟨e1, h1, r, e2, h2, h3⟩ := hs d ds acc e hi
    unfold LL lcL
    rw [if_pos (hc _ _ _ hi), h1]
    simp only
    rw [h2]
    unfold lcT boK at h3
    split at h3
    · exact h3.elim
    · rename_i t
      cases t with
      | false =>
        simp only
        obtain ⟨q1, q2⟩ := h3
        rw [if_pos q1]
        exact ll_list I hc hs hq q2
      | true =>
        obtain ⟨r, e3, q1, q2⟩ := h3
        simp only
        rw [q1]
        have go : ∀ r, (∀ x, r ≠ .err x) → lcE vs (fun y e' => I ds (acc ++ [y]) e') r e3 → ∃ y e4, tk r e3 = some (y, e4) ∧ noOwn e4 vs = true ∧ I ds (acc ++ [y]) (wipeE e4 vs) := fun r hn q => tkK_ok hn q
        cases r with
        | err x => exact q2.elim
        | val d =>
          obtain ⟨y, e4, z1, z2, z3⟩ := go (.val d) nofun q2
          simp only
          rw [z1]
          simp only
          rw [if_pos z2]
          exact ll_list I hc hs hq z3
        | new d =>
          obtain ⟨y, e4, z1, z2, z3⟩ := go (.new d) nofun q2
          simp only
          rw [z1]
          simp only
          rw [if_pos z2]
          exact ll_list I hc hs hq z3
        | slot d =>
          obtain ⟨y, e4, z1, z2, z3⟩ := go (.slot d) nofun q2
          simp only
          rw [z1]
          simp only
          rw [if_pos z2]
          exact ll_list I hc hs hq z3
    · exact h3.elim
/-- by the number of items that are done -/
theorem ll_ind {P : List D → Env → Prop} (I : Nat → List D → Env → Prop) (h0 : I 0 [] e) (hs : ∀ k d acc e, items[k]? = some d → I k acc e → WG g d e fun e1 => WE ft e1 (lcT fe vs (fun y e' => I (k + 1) (acc ++ [y]) e') (fun e' => I (k + 1) acc e'))) (hq : ∀ acc e, I items.length acc e → P acc e) : LL (fun _ => true) g ft fe vs items e [] P := by
  refine ll_list (I := fun rest acc e => ∃ k, rest = items.drop k ∧ k ≤ items.length ∧ I k acc e) (fun _ _ _ _ => rfl) (fun d ds acc e h => ?_) (fun acc e h => ?_) ⟨0, rfl, Nat.zero_le _, h0⟩
  · obtain ⟨k, h1, h2, h3⟩ := h
    have hk : k < items.length := by
      rcases Nat.lt_or_ge k items.length with q | q
      · exact q
      · rw [List.drop_eq_nil_of_le q] at h1; cases h1
    rw [List.drop_eq_getElem_cons hk] at h1
    cases h1
    obtain ⟨e1, q1, r, e2, q2, q3⟩ := hs k _ acc e (List.getElem?_eq_getElem hk) h3
    refine ⟨e1, q1, r, e2, q2, ?_⟩
    unfold lcT boK at q3 ⊢
    split at q3
    · exact q3
    · rename_i t
      cases t with
      | false => exact ⟨q3.1, k + 1, rfl, hk, q3.2⟩
      | true =>
        simp only [if_true] at q3 ⊢
        refine WE.mono q3 fun r e' z => ?_
        unfold lcE tkK at z ⊢
        cases r with
        | err x => exact z
        | val d => exact ⟨z.1, k + 1, rfl, hk, z.2⟩
        | new d => exact ⟨z.1, k + 1, rfl, hk, z.2⟩
        | slot i =>
          obtain ⟨xs, z1, z2, z3⟩ := z
          exact ⟨xs, z1, z2, k + 1, rfl, hk, z3⟩
    · exact q3
  · obtain ⟨k, h1, h2, h3⟩ := h
    have : items.length ≤ k := by
      rcases Nat.lt_or_ge k items.length with q | q
      · rw [List.drop_eq_getElem_cons q] at h1; cases h1
      · exact q
    have : k = items.length := by omega
    subst this
    exact hq _ e h3
/-- each item by itself, all else as it was -/
theorem ll_map {P : List D → Env → Prop} (Fn : D → D) (hs : ∀ d ∈ items, WG g d e fun e1 => WE ft e1 (lcT fe vs (fun y e' => y = Fn d ∧ e' = e) (fun _ => False))) (hq : P (items.map Fn) e) : LL (fun _ => true) g ft fe vs items e [] P := by
  refine ll_ind (I := fun k acc e' => acc = (items.take k).map Fn ∧ e' = e) ⟨by rw [List.take_zero]; rfl, rfl⟩ (fun k d acc e' h1 h2 => ?_) (fun acc e' h => ?_)
  · obtain ⟨rfl, rfl⟩ := h2
    obtain ⟨e1, q1, r, e2, q2, q3⟩ := hs d (List.mem_of_getElem? h1)
    refine ⟨e1, q1, r, e2, q2, ?_⟩
    have hk : (items.take k).map Fn ++ [Fn d] = (items.take (k + 1)).map Fn := by rw [List.take_add_one, h1, List.map_append]; rfl
    unfold lcT boK at q3 ⊢
    split at q3
    · exact q3
    · rename_i t
      cases t with
      | false => exact q3.2.elim
      | true =>
        simp only [if_true] at q3 ⊢
        refine WE.mono q3 fun r e' z => ?_
        unfold lcE tkK at z ⊢
        cases r with
        | err x => exact z
        | val y => exact ⟨z.1, by rw [z.2.1, hk], z.2.2⟩
        | new y => exact ⟨z.1, by rw [z.2.1, hk], z.2.2⟩
        | slot i =>
          obtain ⟨xs, z1, z2, z3⟩ := z
          exact ⟨xs, z1, z2, by rw [z3.1, hk], z3.2⟩
    · exact q3
  · obtain ⟨rfl, rfl⟩ := h
    rw [List.take_length]
    exact hq
def lcK (g : Tgt) (ft fe : Ev) (vs : List Nat) (K : Rs → Env → Prop) : IRes → Env → Prop
  | .err x, e => K (.err x) e
  | .ok items none, e => noOwn e vs = true ∧ items.length ≤ 16777216 ∧ LL (fun _ => true) g ft fe vs items (wipeE e vs) [] fun acc e2 => K (.new acc) (unwipe e e2 vs)
  | .ok items (some j), e => noOwn e vs = true ∧ items.length ≤ 16777216 ∧ ∃ p xs, e[j]? = some (.own p xs) ∧ LL (slotP j p items) g ft fe vs items (wipeE e vs) [] fun acc e2 => K (.new acc) (unwipe e e2 vs)
theorem we_lc (h : WI fi e (lcK g ft fe vs K)) : WE (sLc fi g ft fe vs) e K := by
  obtain ⟨a, e1, h1, h2⟩ := h
  unfold WE sLc
  rw [h1]
  cases a with
  | err x => exact ⟨_, _, rfl, h2⟩
  | ok items gd =>
    cases gd with
    | none =>
      obtain ⟨q1, q2, ys, e2, q3, q4⟩ := h2
      simp only
      rw [if_pos ⟨q1, q2⟩, q3]
      exact ⟨_, _, rfl, q4⟩
    | some j =>
      obtain ⟨q1, q2, p, xs, q5, ys, e2, q3, q4⟩ := h2
      simp only
      rw [if_pos ⟨q1, q2⟩, q5]
      simp only
      rw [q3]
      exact ⟨_, _, rfl, q4⟩
theorem lcK_n (h1 : noOwn e vs = true) (h2 : items.length ≤ 16777216) (h : LL (fun _ => true) g ft fe vs items (wipeE e vs) [] fun acc e2 => K (.new acc) (unwipe e e2 vs)) : lcK g ft fe vs K (.ok items none) e := ⟨h1, h2, h⟩
/-! slices -/
def ptK (k : Option Int → Env → Prop) (K : Rs → Env → Prop) : Rs → Env → Prop
  | .err x, e => K (.err x) e
  | .val (.int i), e => k (some i) e
  | _, _ => False
def WP (f : Option Ev) (e : Env) (k : Option Int → Env → Prop) (K : Rs → Env → Prop) : Prop := match f with
  | none => k none e
  | some f => WE f e (ptK k K)
theorem wp_ok {p : Option Ev} {k : Option Int → Ev} {kk : Option Int → Env → Prop} (h : WP p e kk K) (hk : ∀ o e1, kk o e1 → WE (k o) e1 K) : WE (sPart p k) e K := by
  cases p with
  | none => exact hk _ _ h
  | some f =>
    unfold sPart
    simp only
    refine we_bnd (WE.mono h fun r e1 q => ?_)
    unfold ptK at q
    split at q
    · exact q
    · exact hk _ _ q
    · exact q.elim
def cutK (fl fh : Option Ev) (K : Rs → Env → Prop) : Rs → Env → Prop := errK K fun ra e => WP fl e (fun lo e => WP fh e (fun hi e => ∃ d r, vw (settle ra) e = some d ∧ gCut d lo hi = some r ∧ K r e) K) K
theorem we_cut {fl fh : Option Ev} (h : WE fa e (cutK fl fh K)) : WE (sCut fa fl fh) e K := by
  unfold sCut
  refine we_bnd (h.mono fun ra e1 q => ?_)
  have go : ∀ ra : Rs, WP fl e1 (fun lo e => WP fh e (fun hi e => ∃ d r, vw (settle ra) e = some d ∧ gCut d lo hi = some r ∧ K r e) K) K → ∃ r' e', (sPart fl (fun lo => sPart fh fun hi => fun e2 => match vw (settle ra) e2 with
    | some d => (gCut d lo hi).map fun r => (r, e2)
    | none => none) e1) = some (r', e') ∧ K r' e' := fun ra q => wp_ok q fun lo e2 q2 => wp_ok q2 fun hi e3 q3 => by
    obtain ⟨d, r, z1, z2, z3⟩ := q3
    refine ⟨r, e3, ?_, z3⟩
    simp only [z1, z2, Option.map]
  cases ra with
  | err x => exact q
  | val d => exact go _ q
  | new d => exact go _ q
  | slot d => exact go _ q
def cutK2 (ra : Rs) (K : Rs → Env → Prop) (lo hi : Option Int) (e : Env) : Prop := ∃ d r, vw (settle ra) e = some d ∧ gCut d lo hi = some r ∧ K r e
theorem cutK_val {d : D} {fl fh : Option Ev} (h : WP fl e (fun lo e => WP fh e (cutK2 (.val d) K lo) K) K) : cutK fl fh K (.val d) e := h
theorem cutK_new {d : List D} {fl fh : Option Ev} (h : WP fl e (fun lo e => WP fh e (cutK2 (.val (.list d)) K lo) K) K) : cutK fl fh K (.new d) e := h
theorem cutK_slot {d : Nat} {fl fh : Option Ev} (h : WP fl e (fun lo e => WP fh e (cutK2 (.slot d) K lo) K) K) : cutK fl fh K (.slot d) e := h
theorem wp_none {k : Option Int → Env → Prop} (h : k none e) : WP none e k K := h
theorem wp_some {k : Option Int → Env → Prop} (h : WE f e (ptK k K)) : WP (some f) e k K := h
theorem ptK_int {k : Option Int → Env → Prop} {i : Int} (h : k (some i) e) : ptK k K (.val (.int i)) e := h
theorem cutK2_t {xs : List D} {lo hi : Option Int} (h : K (.val (.tuple (cutD xs lo hi))) e) : cutK2 (.val (.tuple xs)) K lo hi e := ⟨_, _, rfl, rfl, h⟩
theorem cutK2_l {xs : List D} {lo hi : Option Int} (h : K (.new (cutD xs lo hi)) e) : cutK2 (.val (.list xs)) K lo hi e := ⟨_, _, rfl, rfl, h⟩
theorem cutK2_s {xs : List D} {j : Nat} {p : Bool} {lo hi : Option Int} (h0 : e[j]? = some (.own p xs)) (h : K (.new (cutD xs lo hi)) e) : cutK2 (.slot j) K lo hi e := ⟨.list xs, _, by simp only [settle, vw, h0], rfl, h⟩
end
/-! isinstance -/
section
variable {fa : Ev} {e : Env} {K : Rs → Env → Prop}
def isiK (T : String) (K : Rs → Env → Prop) : Rs → Env → Prop := unK (gIsT T) K
theorem we_isi {T : String} (h : WE fa e (isiK T K)) : WE (sIsi T fa) e K := we_un h
theorem isiK_v {T : String} {d : D} {b : Bool} (h : kitB (tyD d) T = some b) (k : K (.val (.bool b)) e) (hn : noDict d = true := by rfl) : isiK T K (.val d) e := unK_val (r := .val (.bool b)) (by unfold gIsT; rw [if_pos hn, h]; rfl) k
theorem isiK_s {T : String} {i : Nat} {p : Bool} {xs : List D} {b : Bool} (h : kitB "list" T = some b) (h0 : e[i]? = some (.own p xs)) (k : K (.val (.bool b)) e) : isiK T K (.slot i) e := unK_slot (r := .val (.bool b)) h0 (by show (kitB "list" T).map _ = _; rw [h]; rfl) k
theorem isi_int_n (k : K (.val (.bool false)) e) : isiK "int" K (.val .none) e := isiK_v (b := false) (by simp only [tyD]; decide +kernel) k
theorem isi_int_b {x : Bool} (k : K (.val (.bool true)) e) : isiK "int" K (.val (.bool x)) e := isiK_v (b := true) (by simp only [tyD]; decide +kernel) k
theorem isi_int_i {x : Int} (k : K (.val (.bool true)) e) : isiK "int" K (.val (.int x)) e := isiK_v (b := true) (by simp only [tyD]; decide +kernel) k
theorem isi_int_s {x : Str} (k : K (.val (.bool false)) e) : isiK "int" K (.val (.str x)) e := isiK_v (b := false) (by simp only [tyD]; decide +kernel) k
theorem isi_int_l {x : List D} (k : K (.val (.bool false)) e) : isiK "int" K (.val (.list x)) e := isiK_v (b := false) (by simp only [tyD]; decide +kernel) k
theorem isi_int_t {x : List D} (k : K (.val (.bool false)) e) : isiK "int" K (.val (.tuple x)) e := isiK_v (b := false) (by simp only [tyD]; decide +kernel) k
theorem isi_int_o {i : Nat} {p : Bool} {xs : List D} (h0 : e[i]? = some (.own p xs)) (k : K (.val (.bool false)) e) : isiK "int" K (.slot i) e := isiK_s (b := false) (by decide +kernel) h0 k
theorem isi_bool_n (k : K (.val (.bool false)) e) : isiK "bool" K (.val .none) e := isiK_v (b := false) (by simp only [tyD]; decide +kernel) k
theorem isi_bool_b {x : Bool} (k : K (.val (.bool true)) e) : isiK "bool" K (.val (.bool x)) e := isiK_v (b := true) (by simp only [tyD]; decide +kernel) k
theorem isi_bool_i {x : Int} (k : K (.val (.bool false)) e) : isiK "bool" K (.val (.int x)) e := isiK_v (b := false) (by simp only [tyD]; decide +kernel) k
theorem isi_bool_s {x : Str} (k : K (.val (.bool false)) e) : isiK "bool" K (.val (.str x)) e := isiK_v (b := false) (by simp only [tyD]; decide +kernel) k
theorem isi_bool_l {x : List D} (k : K (.val (.bool false)) e) : isiK "bool" K (.val (.list x)) e := isiK_v (b := false) (by simp only [tyD]; decide +kernel) k
theorem isi_bool_t {x : List D} (k : K (.val (.bool false)) e) : isiK "bool" K (.val (.tuple x)) e := isiK_v (b := false) (by simp only [tyD]; decide +kernel) k
theorem isi_bool_o {i : Nat} {p : Bool} {xs : List D} (h0 : e[i]? = some (.own p xs)) (k : K (.val (.bool false)) e) : isiK "bool" K (.slot i) e := isiK_s (b := false) (by decide +kernel) h0 k
theorem isi_str_n (k : K (.val (.bool false)) e) : isiK "str" K (.val .none) e := isiK_v (b := false) (by simp only [tyD]; decide +kernel) k
theorem isi_str_b {x : Bool} (k : K (.val (.bool false)) e) : isiK "str" K (.val (.bool x)) e := isiK_v (b := false) (by simp only [tyD]; decide +kernel) k
theorem isi_str_i {x : Int} (k : K (.val (.bool false)) e) : isiK "str" K (.val (.int x)) e := isiK_v (b := false) (by simp only [tyD]; decide +kernel) k
theorem isi_str_s {x : Str} (k : K (.val (.bool true)) e) : isiK "str" K (.val (.str x)) e := isiK_v (b := true) (by simp only [tyD]; decide +kernel) k
theorem isi_str_l {x : List D} (k : K (.val (.bool false)) e) : isiK "str" K (.val (.list x)) e := isiK_v (b := false) (by simp only [tyD]; decide +kernel) k
theorem isi_str_t {x : List D} (k : K (.val (.bool false)) e) : isiK "str" K (.val (.tuple x)) e := isiK_v (b := false) (by simp only [tyD]; decide +kernel) k
theorem isi_str_o {i : Nat} {p : Bool} {xs : List D} (h0 : e[i]? = some (.own p xs)) (k : K (.val (.bool false)) e) : isiK "str" K (.slot i) e := isiK_s (b := false) (by decide +kernel) h0 k
theorem isi_tuple_n (k : K (.val (.bool false)) e) : isiK "tuple" K (.val .none) e := isiK_v (b := false) (by simp only [tyD]; decide +kernel) k
theorem isi_tuple_b {x : Bool} (k : K (.val (.bool false)) e) : isiK "tuple" K (.val (.bool x)) e := isiK_v (b := false) (by simp only [tyD]; decide +kernel) k
theorem isi_tuple_i {x : Int} (k : K (.val (.bool false)) e) : isiK "tuple" K (.val (.int x)) e := isiK_v (b := false) (by simp only [tyD]; decide +kernel) k
theorem isi_tuple_s {x : Str} (k : K (.val (.bool false)) e) : isiK "tuple" K (.val (.str x)) e := isiK_v (b := false) (by simp only [tyD]; decide +kernel) k
theorem isi_tuple_l {x : List D} (k : K (.val (.bool false)) e) : isiK "tuple" K (.val (.list x)) e := isiK_v (b := false) (by simp only [tyD]; decide +kernel) k
theorem isi_tuple_t {x : List D} (k : K (.val (.bool true)) e) : isiK "tuple" K (.val (.tuple x)) e := isiK_v (b := true) (by simp only [tyD]; decide +kernel) k
theorem isi_tuple_o {i : Nat} {p : Bool} {xs : List D} (h0 : e[i]? = some (.own p xs)) (k : K (.val (.bool false)) e) : isiK "tuple" K (.slot i) e := isiK_s (b := false) (by decide +kernel) h0 k
theorem isi_list_n (k : K (.val (.bool false)) e) : isiK "list" K (.val .none) e := isiK_v (b := false) (by simp only [tyD]; decide +kernel) k
theorem isi_list_b {x : Bool} (k : K (.val (.bool false)) e) : isiK "list" K (.val (.bool x)) e := isiK_v (b := false) (by simp only [tyD]; decide +kernel) k
theorem isi_list_i {x : Int} (k : K (.val (.bool false)) e) : isiK "list" K (.val (.int x)) e := isiK_v (b := false) (by simp only [tyD]; decide +kernel) k
theorem isi_list_s {x : Str} (k : K (.val (.bool false)) e) : isiK "list" K (.val (.str x)) e := isiK_v (b := false) (by simp only [tyD]; decide +kernel) k
theorem isi_list_l {x : List D} (k : K (.val (.bool true)) e) : isiK "list" K (.val (.list x)) e := isiK_v (b := true) (by simp only [tyD]; decide +kernel) k
theorem isi_list_t {x : List D} (k : K (.val (.bool false)) e) : isiK "list" K (.val (.tuple x)) e := isiK_v (b := false) (by simp only [tyD]; decide +kernel) k
theorem isi_list_o {i : Nat} {p : Bool} {xs : List D} (h0 : e[i]? = some (.own p xs)) (k : K (.val (.bool true)) e) : isiK "list" K (.slot i) e := isiK_s (b := true) (by decide +kernel) h0 k
end
/-! methods that read -/
section
variable {fa fb : Ev} {e : Env} {K : Rs → Env → Prop} {g : D → D → Option Rs}
def mthK (g : D → D → Option Rs) (fb : Ev) (K : Rs → Env → Prop) : Rs → Env → Prop
  | .err x, e => K (.err x) e
  | r, e => seqR r = true ∧ WE fb e (opK2 g r K)
theorem we_meth (h : WE fa e (mthK g fb K)) : WE (sMeth g fa fb) e K := by
  obtain ⟨r, e1, h1, h2⟩ := h
  have go : ∀ r, fa e = some (r, e1) → (∀ x, r ≠ .err x) → seqR r = true → WE fb e1 (opK2 g r K) → WE (sMeth g fa fb) e K := by
    intro r h1 hn hs h2
    have : WE (sOp g fa fb) e K := we_op ⟨r, e1, h1, by cases r <;> first | exact h2 | exact absurd rfl (hn _)⟩
    obtain ⟨r2, e2, q1, q2⟩ := this
    refine ⟨r2, e2, ?_, q2⟩
    unfold sMeth
    rw [h1]
    cases r with
    | err x => exact absurd rfl (hn x)
    | _ => exact (if_pos hs).trans q1
  cases r with
  | err x => exact ⟨.err x, e1, by unfold sMeth; rw [h1], h2⟩
  | val d => exact go (.val d) h1 nofun h2.1 h2.2
  | new d => exact go (.new d) h1 nofun h2.1 h2.2
  | slot d => exact go (.slot d) h1 nofun h2.1 h2.2
theorem mthK_t {d : List D} (h : WE fb e (opK2 g (.val (.tuple d)) K)) : mthK g fb K (.val (.tuple d)) e := ⟨rfl, h⟩
theorem mthK_l {d : List D} (h : WE fb e (opK2 g (.val (.list d)) K)) : mthK g fb K (.val (.list d)) e := ⟨rfl, h⟩
theorem mthK_n {d : List D} (h : WE fb e (opK2 g (.val (.list d)) K)) : mthK g fb K (.new d) e := ⟨rfl, by
  obtain ⟨r, e1, h1, h2⟩ := h
  refine ⟨r, e1, h1, ?_⟩
  cases r <;> exact h2⟩
theorem mthK_s {i : Nat} (h : WE fb e (opK2 g (.slot i) K)) : mthK g fb K (.slot i) e := ⟨rfl, h⟩
end
section
variable {fb : Ev} {e : Env} {K : Rs → Env → Prop}
theorem catK1_list {xs : List D} (h : WE fb e (catK2' (.val (.list xs)) K)) : catK1 fb K (.val (.list xs)) e := h
end
theorem xCntT {ns : List Int} {k : Int} : gCount (.tuple (ns.map PyData.int)) (.int k) = some (.val (.int (ns.count k : Nat))) := by
  unfold gCount
  simp only [intsOf_ints, Option.map]
theorem xCntL {ns : List Int} {k : Int} : gCount (.list (ns.map PyData.int)) (.int k) = some (.val (.int (ns.count k : Nat))) := by
  unfold gCount
  simp only [intsOf_ints, Option.map]
theorem xSrtT {ns : List Int} (h : ns.length < 64) : gSortSet [.tuple (ns.map PyData.int)] = some (.new ((usort ns).map PyData.int)) := by
  unfold gSortSet
  simp only [intsOf_ints]
  exact if_pos h
theorem xSrtL {ns : List Int} (h : ns.length < 64) : gSortSet [.list (ns.map PyData.int)] = some (.new ((usort ns).map PyData.int)) := by
  unfold gSortSet
  simp only [intsOf_ints]
  exact if_pos h
theorem xAddI2 {a b : List Int} (h : a.length + b.length ≤ 16777216) : gCatT (.tuple (a.map PyData.int)) (.tuple (b.map PyData.int)) = some (.val (.tuple ((a ++ b).map PyData.int))) := by
  unfold gCatT
  simp only [List.length_map]
  rw [if_pos h, List.map_append]
theorem xAddTI {a b : List Int} (h : a.length + b.length ≤ 16777216) : gAdd (.tuple (a.map PyData.int)) (.tuple (b.map PyData.int)) = some (.val (.tuple ((a ++ b).map PyData.int))) := by
  unfold gAdd gOr gAddI gInt2
  simp only
  exact xAddI2 h
theorem gLen_ti {ns : List Int} : gLen [.tuple (ns.map PyData.int)] = some (.val (.int (ns.length : Nat))) := by
  unfold gLen
  simp only [List.length_map]
theorem gLen_li {ns : List Int} : gLen [.list (ns.map PyData.int)] = some (.val (.int (ns.length : Nat))) := by
  unfold gLen
  simp only [List.length_map]
theorem xLenTI {ns : List Int} : gLen [.tuple (ns.map PyData.int)] = some (.val (.int (ns.length : Nat))) := by rw [gLen_ti]
theorem xLenLI {ns : List Int} : gLen [.list (ns.map PyData.int)] = some (.val (.int (ns.length : Nat))) := by rw [gLen_li]
/-! ### operations upon data -/
theorem xAdd {i j : Int} : gAdd (.int i) (.int j) = some (.val (.int (i + j))) := rfl
theorem xSub {i j : Int} : gSub (.int i) (.int j) = some (.val (.int (i - j))) := rfl
theorem xNeg {i : Int} : gNeg (.int i) = some (.val (.int (-i))) := rfl
theorem xLt {i j : Int} : gLt (.int i) (.int j) = some (.val (.bool (decide (i < j)))) := rfl
theorem xLe {i j : Int} : gLe (.int i) (.int j) = some (.val (.bool (decide (i ≤ j)))) := rfl
theorem xGt {i j : Int} : gGt (.int i) (.int j) = some (.val (.bool (decide (j < i)))) := rfl
theorem xGe {i j : Int} : gGe (.int i) (.int j) = some (.val (.bool (decide (j ≤ i)))) := rfl
theorem xMul {i j : Int} (h : (-(2 ^ 64) < i ∧ i < 2 ^ 64) ∨ (-(2 ^ 64) < j ∧ j < 2 ^ 64)) : gMul (.int i) (.int j) = some (.val (.int (i * j))) := by
  unfold gMul gInt2
  simp only
  rw [if_pos h]
  rfl
theorem xMod {i j : Int} (h : 0 < j) : gMod (.int i) (.int j) = some (.val (.int (i % j))) := by
  unfold gMod gInt2
  simp only
  rw [if_pos h]
  rfl
theorem xDiv {i j : Int} (h : 0 < j ∧ j < 18446744073709551616) : gDiv (.int i) (.int j) = some (.val (.int (i / j))) := by
  unfold gDiv gInt2
  simp only
  rw [if_pos h]
  rfl
theorem xEq {i j : Int} : gEq (.int i) (.int j) = some (.val (.bool (decide (i = j)))) := by
  have : PyData.eqv (.int i) (.int j) = decide (i = j) := by simp [PyData.eqv]; by_cases h : i = j <;> simp [h]
  unfold gEq
  rw [if_pos ⟨rfl, rfl⟩, this]
theorem xNe {i j : Int} : gNe (.int i) (.int j) = some (.val (.bool (!decide (i = j)))) := by
  have : PyData.eqv (.int i) (.int j) = decide (i = j) := by simp [PyData.eqv]; by_cases h : i = j <;> simp [h]
  unfold gNe
  rw [if_pos ⟨rfl, rfl⟩, this]
theorem xIsN {d : D} : gIsN d .none = some (.val (.bool (isNone d))) := rfl
theorem xNotN {d : D} : gNotN d .none = some (.val (.bool (!isNone d))) := rfl
theorem xLenT {xs : List D} : gLen [.tuple xs] = some (.val (.int xs.length)) := rfl
theorem xLenL {xs : List D} : gLen [.list xs] = some (.val (.int xs.length)) := rfl
theorem xTupL {xs : List D} : gTuple [.list xs] = some (.val (.tuple xs)) := rfl
theorem xTupT {xs : List D} : gTuple [.tuple xs] = some (.val (.tuple xs)) := rfl
theorem xLstL {xs : List D} : gList [.list xs] = some (.new xs) := rfl
theorem xLstT {xs : List D} : gList [.tuple xs] = some (.new xs) := rfl
theorem xAbs {i : Int} : gAbs [.int i] = some (.val (.int (if i < 0 then -i else i))) := rfl
theorem xGcd {i j : Int} : gGcd [.int i, .int j] = some (.val (.int ((Nat.gcd i.natAbs j.natAbs : Nat) : Int))) := rfl
theorem atI_k {α : Type} {xs : List α} {i : Int} {j : Nat} {v : α} (e : i = (j : Int)) (h : xs[j]? = some v) : atI xs i = some v := by subst e; exact atI_nat h
theorem xIxT {xs : List D} {i : Int} {j : Nat} {d : D} (e : i = (j : Int)) (h : xs[j]? = some d) : gIx (.tuple xs) (.int i) = some (.val d) := by
  unfold gIx
  simp only
  rw [atI_k e h]
  rfl
theorem xIxL {xs : List D} {i : Int} {j : Nat} {d : D} (e : i = (j : Int)) (h : xs[j]? = some d) : gIx (.list xs) (.int i) = some (.val d) := by
  unfold gIx
  simp only
  rw [atI_k e h]
  rfl
/-! ### errors -/
def raK (x f : Str) (Q : Out → Env → Prop) : Rs → Env → Prop
  | .err y, e => Q (.err y) e
  | .val (.int i), e => i.natAbs < 2 ^ 63 ∧ Q (.err ⟨x, [(f, .int i)]⟩) e
  | _, _ => False
theorem ws_raise1 {x f : Str} {fe : Ev} {e : Env} {Q : Out → Env → Prop} (h : WE fe e (raK x f Q)) : WS (sRaise1 x f fe) e Q := by
  obtain ⟨r, e1, h1, h2⟩ := h
  unfold WS sRaise1
  rw [h1]
  unfold raK at h2
  split at h2
  · exact ⟨_, _, rfl, h2⟩
  · exact ⟨_, _, if_pos h2.1, h2.2⟩
  · exact h2.elim
def SmallI (i : Int) : Prop := i.natAbs < 2 ^ 63
theorem raK_int {x f : Str} {e : Env} {Q : Out → Env → Prop} {i : Int} (h : SmallI i ∧ Q (.err ⟨x, [(f, .int i)]⟩) e) : raK x f Q (.val (.int i)) e := h
def eofK (errD : Er → Option D) (K : Rs → Env → Prop) : Rs → Env → Prop
  | .err x, e => ∃ rd, errD x = some rd ∧ K (.val rd) e
  | _, e => K (.val .none) e
theorem we_errOf {errD : Er → Option D} {fb : Ev} {e : Env} {K : Rs → Env → Prop} (h : WE fb e (eofK errD K)) : WE (sErrOf errD fb) e K := by
  obtain ⟨r, e1, h1, h2⟩ := h
  unfold WE sErrOf
  rw [h1]
  cases r with
  | err x =>
    obtain ⟨rd, h3, h4⟩ := h2
    exact ⟨_, _, by simp only [h3]; rfl, h4⟩
  | _ => exact ⟨_, _, rfl, h2⟩
theorem eofK_val {errD : Er → Option D} {e : Env} {K : Rs → Env → Prop} {d : D} (h : K (.val .none) e) : eofK errD K (.val d) e := h
theorem eofK_new {errD : Er → Option D} {e : Env} {K : Rs → Env → Prop} {d : List D} (h : K (.val .none) e) : eofK errD K (.new d) e := h
theorem retO_err {K : Rs → Env → Prop} {i : Nat} {p q : Bool} {e : Env} {d : Er} {ys : List D} {o : List Sl} (h : K (.err d) (e.set i (.own p ys))) : retO K i p e (.err d) (.own q ys :: o) := h
end MR

set_option Elab.async false
set_option linter.all false
set_option maxRecDepth 100000
set_option maxHeartbeats 4000000
namespace MR
open PySem PySem.Spec PyProof.Rows L2
/-! ### a list of a new list of lists is changed, then the new list is never looked at again -/
variable [Tq]
/-- nothing that stands is changed -/
structure Stay (H H' : Hp) : Prop where
  kp : ∀ b o, H b = some o → (∀ ps, o ≠ .tbl ps) → H' b = some o
  tk : TK H H'
  gr : ∀ b, No H' b → No H b
theorem Stay.trans {H H1 H2 : Hp} (a : Stay H H1) (b : Stay H1 H2) : Stay H H2 := ⟨fun c o h n => b.kp c o (a.kp c o h n) n, a.tk.trans b.tk, fun c h => a.gr c (b.gr c h)⟩
theorem Stay.upd {H H1 : Hp} {b : Addr} {us ws : List V} (a : Stay H H1) (nb : No H b) (hb : H1 b = some (.lst us)) : Stay H (upd H1 b (.lst ws)) := by
  refine ⟨fun c o h n => ?_, a.tk.trans (tk_upd hb nofun), fun c h => ?_⟩
  · have : c ≠ b := by
      rintro rfl
      obtain ⟨ps, e⟩ := nb o h
      exact n ps e
    rw [upd_ne this]
    exact a.kp c o h n
  · by_cases hc : c = b
    · subst hc; exact nb
    · refine a.gr c fun o q => h o ?_
      rw [upd_ne hc]
      exact q
section
variable {K : PySem.W.Frag} {F H F1 H1 : Hp} {σ σ1 : L2.St} {e e1 : Env} {O O1 : Nat → Addr → Prop}
theorem Stp.stay (t : Stp K F H σ e (fun _ _ => False) F1 H1 σ1 e1 O1) : Stay H H1 := ⟨fun b o h n => t.keep.1 b o h (fun _ z => z) n, t.keep.2, t.grow⟩
end
/-- two slots alone -/
def two (n i j : Nat) (x y : D) : Env := ((List.replicate n Sl.un).set i (.val x)).set j (.val y)
end MR

set_option Elab.async false
set_option linter.all false
set_option maxRecDepth 100000
set_option maxHeartbeats 4000000
namespace MR
open PySem PySem.Spec PyProof.Rows L2
variable [Tq]
/-! ### x, y = a, b: b a new list that y alone holds -/
end MR

set_option Elab.async false
set_option linter.all false
set_option maxRecDepth 100000
set_option maxHeartbeats 2000000
namespace MR
open PySem PySem.Spec PyProof.Rows L2
variable [Tq]
section
variable {fs : List Ev} {e : Env} {Z : IRes → Env → Prop} {Q : Out → Env → Prop}
def zipK2 (Z : IRes → Env → Prop) : ARes → Env → Prop
  | .err x, e => Z (.err x) e
  | .ok [r1, r2], e => ∃ a b, seqD r1 = some a ∧ seqD r2 = some b ∧ Z (.ok (zipD [a, b]) none) e
  | _, _ => False
theorem wi_zip2 (h : WA fs e (zipK2 Z)) : WI (sZip2 fs) e Z := by
  obtain ⟨a, e1, h1, h2⟩ := h
  unfold WI sZip2
  rw [h1]
  unfold zipK2 at h2
  split at h2
  · exact ⟨_, _, rfl, h2⟩
  · obtain ⟨a, b, ea, eb, hz⟩ := h2
    simp only [ea, eb]
    exact ⟨_, _, rfl, hz⟩
  · exact h2.elim
theorem zipK2_tt {a b : List D} (h : Z (.ok (zipD [a, b]) none) e) : zipK2 Z (.ok [.val (.tuple a), .val (.tuple b)]) e := ⟨a, b, rfl, rfl, h⟩
theorem zipK2_tl {a b : List D} (h : Z (.ok (zipD [a, b]) none) e) : zipK2 Z (.ok [.val (.tuple a), .val (.list b)]) e := ⟨a, b, rfl, rfl, h⟩
theorem zipK2_ll {a b : List D} (h : Z (.ok (zipD [a, b]) none) e) : zipK2 Z (.ok [.val (.list a), .val (.list b)]) e := ⟨a, b, rfl, rfl, h⟩
def zipK3 (Z : IRes → Env → Prop) : ARes → Env → Prop
  | .err x, e => Z (.err x) e
  | .ok [r1, r2, r3], e => ∃ a b c, seqD r1 = some a ∧ seqD r2 = some b ∧ seqD r3 = some c ∧ Z (.ok (zipD [a, b, c]) none) e
  | _, _ => False
theorem wi_zip3 (h : WA fs e (zipK3 Z)) : WI (sZip3 fs) e Z := by
  obtain ⟨a, e1, h1, h2⟩ := h
  unfold WI sZip3
  rw [h1]
  unfold zipK3 at h2
  split at h2
  · exact ⟨_, _, rfl, h2⟩
  · obtain ⟨a, b, c, ea, eb, ec, hz⟩ := h2
    simp only [ea, eb, ec]
    exact ⟨_, _, rfl, hz⟩
  · exact h2.elim
theorem zipK3_tll {a b c : List D} (h : Z (.ok (zipD [a, b, c]) none) e) : zipK3 Z (.ok [.val (.tuple a), .val (.list b), .val (.list c)]) e := ⟨a, b, c, rfl, rfl, rfl, h⟩
theorem xBackT {xs : List D} : gBack (.tuple xs) = some (.val (.tuple xs.reverse)) := rfl
theorem xBackL {xs : List D} : gBack (.list xs) = some (.new xs.reverse) := rfl
def rg3K (Z : IRes → Env → Prop) : ARes → Env → Prop
  | .err x, e => Z (.err x) e
  | .ok [.val (.int i), .val (.int j), .val (.int c)], e => (-(2 ^ 62) ≤ i ∧ i < 2 ^ 62 ∧ -(2 ^ 62) ≤ j ∧ j < 2 ^ 62 ∧ c = -1) ∧ Z (.ok (rgDown i (i - j).toNat) none) e
  | _, _ => False
theorem wi_rg3 (h : WA fs e (rg3K Z)) : WI (sRg3 fs) e Z := by
  obtain ⟨a, e1, h1, h2⟩ := h
  unfold WI sRg3
  rw [h1]
  unfold rg3K at h2
  split at h2
  · exact ⟨_, _, rfl, h2⟩
  · simp only [if_pos h2.1]
    exact ⟨_, _, rfl, h2.2⟩
  · exact h2.elim
end
end MR

set_option Elab.async false
set_option linter.all false
set_option maxRecDepth 100000
set_option maxHeartbeats 2000000
/-! divmod; min of a list with default=None; list.remove; factorial. -/
namespace MR
open PySem PySem.Spec PyProof.Rows L2
variable [Tq]
theorem new_tk {X : Cx} {pins : List (Addr × Obj)} {σ : L2.St} {H : Hp} {s : Shared} {xs : List V} {us : List Value} {Q : VK} {t : Nat} (I : Inv X pins σ H s) (r : Vals xs us) (z : xs.length ≤ sizeLine) (q : NewT H xs Q) :
    EP X pins σ Q (.ref s.heap.objs.size) { s with heap := s.heap.push (tobj us), toks := t } := by
  have f : H s.heap.objs.size = none := I.hok.fresh (Nat.le_refl _)
  have g : (s.heap.push (tobj us)).get? s.heap.objs.size = some (tobj us) := Heap.get?_push_size _ rfl
  refine ⟨.ref s.heap.objs.size, upd H s.heap.objs.size (.frz (tobj us) (.tup xs)), I.laid (t' := t) (fun b u e => Heap.get?_push_of_some _ e) (Nat.le_refl _) ?_, rfl, q _ _ rfl f⟩
  exact ⟨g, z, us, r, ⟨_, g, rfl, _, rfl⟩⟩
def rDivmod : List V → Hp → VK → Prop := fun xs H Q => ∃ i j, xs = [.int i, .int j] ∧ CDivP i j ∧ NewT H [.int (i / j), .int (i % j)] Q
theorem cr_divmodF {X : Cx} : CallR X (.builtin "divmod") rDivmod := by
  intro pins s σ H xs us Q I r h
  obtain ⟨i, j, rfl, ⟨h1, h2⟩, q⟩ := h
  obtain ⟨u, w', rfl, ⟨t, rfl⟩, ⟨t', rfl⟩⟩ := vals2 r
  refine divmod_int (by omega) ?_ (.inl h2)
  rw [Int.fdiv_eq_ediv_of_nonneg i (by omega), Int.fmod_eq_emod_of_nonneg i (by omega)]
  exact new_tk (xs := [.int (i / j), .int (i % j)]) (us := [.int (i / j) s.toks, .int (i % j) (s.toks + 1)]) I (.cons ⟨_, rfl⟩ (.cons ⟨_, rfl⟩ .nil)) (by simp only [List.length_cons, List.length_nil]; rw [sizeLine_eq]; decide) q
def gDivmod : List D → Option Rs
  | [.int i, .int j] => if 0 < j ∧ i.natAbs < 2 ^ 64 then some (.val (.tuple [.int (i / j), .int (i % j)])) else none
  | _ => none
theorem fg_divmod {K : PySem.W.Frag} : FnG K rDivmod gDivmod := by
  intro F H vs ds z Q s hv hg k
  unfold gDivmod at hg
  split at hg
  · rename_i i j
    split at hg
    · rename_i c
      cases hg
      obtain ⟨v, w, rfl, h, h2⟩ := hv.two
      cases h
      cases h2
      have b := PyProof.Rows.intBits_le c.2
      exact ⟨i, j, rfl, divp_ok c.1 (by omega), rv_tup s k (.cons (.int _) (.cons (.int _) .nil))⟩
    · cases hg
  · cases hg
/-! min(l, default=None) -/
section
variable {X : Fm} {W : WX} {e e2 : Expr} {fs : List Ev} {p pos : Pos}
theorem pd_divmod (hg : ∀ i, Gl (X.C i) "divmod") (hm : ∀ i, (X.C i).mg "divmod" = none) (ha : PAD X W [e, e2] fs) (he : ∀ i, starEach [e, e2] (X.C i).env = (false, eval e (X.C i).env) :: starEach [e2] (X.C i).env := by exact fun _ => rfl) (hpl : ∀ i, (backTo pos (starEach [e2] (X.C i).env)).any (·.1) = false := by exact fun _ => rfl) : PD X W (.Call (.Name "divmod" p) [e, e2] [] pos) (sFn gDivmod fs) :=
  pd_callB (fun i => cr_divmodF) fg_divmod hg hm (by decide +kernel) ha (by decide) (by decide) he hpl
end
/-! l.remove(k) -/
/-! factorial -/
def rFact : List V → Hp → VK → Prop := fun xs H Q => ∃ n : Nat, xs = [.int (n : Int)] ∧ n ≤ 16 ∧ Q (.int (Builtin.Math.factorialNat n : Nat)) H
theorem cr_fact {X : Cx} : CallR X (.builtin "math.factorial") rFact := by
  intro pins s σ H xs us Q I r h
  obtain ⟨n, rfl, hn, q⟩ := h
  obtain ⟨u, rfl, ⟨t, rfl⟩⟩ := vals1 r
  have h1 : ((n : Int)).toNat = n := Int.toNat_natCast n
  have h2 : ∀ m : Fin 17, ((Builtin.Math.factorialNat m.val : Nat) : Int).natAbs.log2 < 60 := by decide +kernel
  have h3 : (60 : Nat) ≤ bitsLine := by decide +kernel
  have h4 : ((16 : Nat) : Int) < Builtin.Math.maxSsize := by decide +kernel
  have h5 : ((16 : Nat) : Int) < Builtin.Math.manyFactors := by decide +kernel
  refine PySem.W.mg_factorial (by omega) (by omega) (by omega) ?_ ?_
  · rw [h1]
    exact Nat.lt_of_lt_of_le (h2 ⟨n, by omega⟩) h3
  · rw [h1]
    exact ⟨.int _, H, I.tok _, ⟨_, rfl⟩, q⟩
def gFact : List D → Option Rs
  | [.int i] => if 0 ≤ i ∧ i ≤ 16 then some (.val (.int (Builtin.Math.factorialNat i.toNat : Nat))) else none
  | _ => none
theorem fg_fact {K : PySem.W.Frag} : FnG K rFact gFact := by
  intro F H vs ds z Q s hv hg k
  unfold gFact at hg
  split at hg
  · rename_i i
    split at hg
    · rename_i c
      cases hg
      obtain ⟨v, rfl, h⟩ := hv.one
      cases h
      obtain ⟨n, rfl⟩ : ∃ n : Nat, i = n := ⟨i.toNat, by omega⟩
      exact ⟨n, rfl, by omega, rv_val s k (by rw [Int.toNat_natCast]; exact .int _)⟩
    · cases hg
  · cases hg
section
variable {X : Fm} {W : WX} {e : Expr} {fs : List Ev} {p pos : Pos}
theorem pd_fact (hg : ∀ i, Gl (X.C i) "factorial") (hm : ∀ i, (X.C i).mg "factorial" = some (.builtin "math.factorial")) (ha : PAD X W [e] fs) (he : ∀ i, starEach [e] (X.C i).env = (false, eval e (X.C i).env) :: starEach [] (X.C i).env := by exact fun _ => rfl) (hpl : ∀ i, (backTo pos (starEach [] (X.C i).env)).any (·.1) = false := by exact fun _ => rfl) : PD X W (.Call (.Name "factorial" p) [e] [] pos) (sFn gFact fs) :=
  pd_callM (fun i => cr_fact) fg_fact hg hm ha (by decide) he hpl
end
/-! // and % by a divisor of any sign -/
section
variable {X : Fm} {W : WX} {a b : Expr} {fa fb : Ev} {pos : Pos}
end
end MR

set_option Elab.async false
set_option linter.all false
set_option maxRecDepth 100000
set_option maxHeartbeats 2000000
/-! a[i], a[j] = x, y -/
namespace MR
open PySem PySem.Spec PyProof.Rows L2
variable [Tq]
section
variable {X : Fm} {W : WX}
end
end MR

set_option Elab.async false
set_option linter.all false
set_option maxRecDepth 100000
set_option maxHeartbeats 2000000
/-! a comprehension within a comprehension; reversed -/
namespace MR
open PySem PySem.Spec PyProof.Rows L2
variable [Tq]
section
variable {X : Fm} {W : WX} {s scope : Scope} {tg iter elt : Expr} {ifs : List Expr} {own : List (Str × Nat)} {vs : List Nat} {fi : Iv} {g : Tgt} {ft fe : Ev} {pos : Pos} {N0 : List Str}
end
/-! for x in reversed(l) -/
/-! l.index(d) -/
section
variable {X : Fm} {W : WX} {o e : Expr} {fo fe : Ev} {apos cpos : Pos}
end
end MR

set_option Elab.async false
set_option linter.all false
set_option maxRecDepth 100000
set_option maxHeartbeats 2000000
/-! a, b = two new lists, both held alone -/
namespace L2
end L2
namespace MR
open PySem PySem.Spec PyProof.Rows L2
variable [Tq]
end MR

set_option Elab.async false
set_option linter.all false
set_option maxRecDepth 100000
set_option maxHeartbeats 4000000
/-! x, y = a, b: a a new list that x alone holds -/
namespace MR
open PySem PySem.Spec PyProof.Rows L2
variable [Tq]
end MR

set_option Elab.async false
set_option linter.all false
set_option maxRecDepth 100000
set_option maxHeartbeats 2000000
/-! a list times an int -/
namespace MR
open PySem PySem.Spec PyProof.Rows L2
variable [Tq]
section
open PySem.P
end
section
variable {X : Fm} {W : WX} {a b : Expr} {fa fb : Ev} {pos : Pos}
end
/-! a == b == c -/
section
variable {X : Fm} {W : WX} {a b c : Expr} {fa fb fc : Ev} {pos : Pos}
theorem pd_chainEq (hu : EqRoom X) (ha : PDs X W a fa) (hb : PDs X W b fb) (hc : PDs X W c fc) (hm : lastMarks [.Eq, .Eq] [b, c] = false := by with_unfolding_all rfl) : PD X W (.Compare a [.Eq, .Eq] [b, c] pos) (sChain gEq gEq fa fb fc) :=
  pd_chain (R := rEqD X.K) (R' := rEqD X.K) (fun i => X.hK i ▸ op_eqD (hu i)) og_eq (fun i => X.hK i ▸ op_eqD (hu i)) og_eq ha hb hc hm
end
end MR

set_option Elab.async false
set_option linter.all false
set_option maxRecDepth 100000
set_option maxHeartbeats 2000000
/-! raise C('..') of a class of errors without an __init__ of its own -/
namespace MR
open PySem PySem.Spec PyProof.Rows L2
variable [Tq]
structure ExOk0 (K : PySem.W.Frag) (mg : Str → Option Value) (x : Str) : Prop where
  ex : ∃ C : Addr, mg x = some (.ref C) ∧ PySem.W.excIn K C [.type "ValueError", .type "Exception", .type "BaseException", .type "object"] "ValueError.__new__" = true ∧ PySem.W.keepIn K (.ref C) = true ∧ PySem.W.subIn K (.ref C) (.type "BaseException") = some true ∧ PySem.W.typeIn K (.ref C) = some (.type "type")
def sRaise0 (x : Str) : Stm := fun e => some (.err ⟨x, []⟩, e)
section
variable {P : Program} {w : World} {K : PySem.W.Frag} {mg : Str → Option Value} {base : Heap} {X : Fm} {W : WX} {x m : Str} {j : Nat} {p p2 pos pos2 : Pos}
theorem sd_raise0 (T : ExOk0 K mg x) (hX : Of X P w K mg base) (hc : ∀ i, (X.C i).calm = true) (hg : ∀ i, Gl (X.C i) x) (tk : ∀ i, Takes (X.C i) W) (hdb : (x == ("__debug__" : Str)) = false := by decide) :
    SD X W (.Raise (some (.Call (.Name x p) [.Constant (.str m) j p2] [] pos)) none pos2) (sRaise0 x) := by
  obtain ⟨C, h1, h2, h3, h4, h5⟩ := T.ex
  have eK := hX.k
  have em := hX.m
  subst eK
  subst em
  refine ⟨fun _ σ H => W (.ref C) none σ H, fun i => ?_, fun F H σ e O o e' Dn s h k => ?_⟩
  · refine ps_raise (hc i) (tk i) (pmk_own PySem.F.excBase_ValueError ?_ ?_ ?_ (raises_own ?_ ?_) (hg i) hdb)
    · rw [X.hK i]; exact h2
    · rw [X.hM i]; exact h1
    · rw [X.hK i]; exact h3
    · rw [X.hK i]; exact h4
    · rw [X.hK i]; exact h5
  · cases h
    exact k _ _ _ _ _ _ (Stp.refl s) ⟨C, h1, rfl, .inl ⟨rfl, rfl⟩⟩
end
end MR

set_option Elab.async false
set_option linter.all false
set_option maxRecDepth 100000
set_option maxHeartbeats 2000000
namespace MR
open PySem PySem.Spec PyProof.Rows L2
variable [Tq]
theorem xDivmod {i j : Int} (h : 0 < j) (h2 : i.natAbs < 2 ^ 64) : gDivmod [.int i, .int j] = some (.val (.tuple [.int (i / j), .int (i % j)])) := if_pos ⟨h, h2⟩
theorem xFact {n : Nat} (h : n ≤ 16) : gFact [.int (n : Int)] = some (.val (.int (Builtin.Math.factorialNat n : Nat))) := by
  show (if (0 : Int) ≤ n ∧ (n : Int) ≤ 16 then some (Rs.val (.int (Builtin.Math.factorialNat ((n : Int)).toNat : Nat))) else none) = _
  rw [if_pos ⟨by omega, by omega⟩, Int.toNat_natCast]
/-! reversed, index -/
end MR

set_option Elab.async false
set_option linter.all false
set_option maxRecDepth 100000
set_option maxHeartbeats 4000000
namespace MR
open PySem PySem.Spec PyProof.Rows L2
noncomputable def f_is_whole : FnSem := sDef 1 ((sRet (sAnd (sIsi "int" (sVar 0)) (sNot (sIsi "bool" (sVar 0))))))
noncomputable def f_is_seat : FnSem := sDef 2 ((sRet (sAnd (sCall f_is_whole [(sVar 0)]) (sChain gLe gLt (sC (.int 0)) (sVar 0) (sVar 1)))))
noncomputable def f_first_invalid : FnSem := sDef 4 ((sSeq (sFor (sEnum (sVar 0)) (gTupD [(gNm 2), (gNm 3)]) (sSeq (sIf (sOp gEq (sVar 2) (sC (.int 8))) (sRet (sVar 2)) sSkip)
    (sIf (sOr (sNot (sCall f_is_whole [(sVar 3)])) (sNot (sChain gLe gLe (sUn gNeg (sVar 1)) (sVar 3) (sVar 1)))) (sRet (sVar 2)) sSkip)))
    (sRet (sC .none))))
noncomputable def f_check_ring : FnSem := sDef 2 ((sSeq (sIf (sNot (sIsi "tuple" (sVar 0))) (sRaise1 "InvalidMarks" "position" (sC (.int 0))) sSkip)
    (sSeq (sSet 1 (sCall f_first_invalid [(sVar 0), (sC (.int 1000000))]))
    (sSeq (sIf (sOp gNotN (sVar 1) (sC .none)) (sRaise1 "InvalidMarks" "position" (sVar 1)) sSkip)
    (sIf (sOp gLt (sFn gLen [(sVar 0)]) (sC (.int 3))) (sRaise1 "InvalidMarks" "position" (sFn gLen [(sVar 0)])) sSkip)))))
noncomputable def f_check_pins : FnSem := sDef 4 ((sSeq (sIf (sNot (sIsi "tuple" (sVar 0))) sNever sSkip)
    (sSeq (sSet 2 (sC (.int 0)))
    (sFor (sSeqIt (sVar 0)) (gNm 3) (sSeq (sIf (sOr (sNot (sCall f_is_seat [(sVar 3), (sVar 1)])) (sOp gLt (sVar 3) (sVar 2))) sNever sSkip)
    (sSet 2 (sOp gAdd (sVar 3) (sC (.int 1)))))))))
noncomputable def f_check_some_pins : FnSem := sDef 2 ((sSeq (sExpr (sCall f_check_pins [(sVar 0), (sVar 1)]))
    (sIf (sOp gEq (sVar 0) (sTup [])) sNever sSkip)))
noncomputable def f_check_moves : FnSem := sDef 5 ((sSeq (sIf (sNot (sIsi "list" (sVar 0))) sNever sSkip)
    (sFor (sEnum (sVar 0)) (gTupD [(gNm 3), (gNm 4)]) (sSeq (sIf (sNot (sCall f_is_seat [(sVar 4), (sVar 1)])) sNever sSkip)
    (sIf (sOp (gInF false) (sVar 4) (sVar 2)) sNever sSkip)))))
noncomputable def f_check_times : FnSem := sDef 1 ((sIf (sOr (sNot (sCall f_is_whole [(sVar 0)])) (sNot (sChain gLe gLe (sC (.int 0)) (sVar 0) (sC (.int 1000000000000000000))))) (sRaise0 "InvalidTimes") sSkip))
noncomputable def f_steps_between : FnSem := sDef 3 ((sSeq (sSet 1 (sFn gLen [(sVar 0)]))
    (sRet (sFn gTuple [(sLc (sRg [(sVar 1)]) (gNm 2) (sC (.bool true)) (sOp gSub (sOp gIx (sVar 0) (sOp gMod (sOp gAdd (sVar 2) (sC (.int 1))) (sVar 1))) (sOp gIx (sVar 0) (sVar 2))) [2])]))))
noncomputable def f_step_modulus : FnSem := sDef 3 ((sSeq (sSet 1 (sC (.int 0)))
    (sSeq (sFor (sSeqIt (sVar 0)) (gNm 2) (sSet 1 (sFn gGcd [(sVar 1), (sOp gSub (sVar 2) (sOp gIx (sVar 0) (sC (.int 0))))])))
    (sRet (sVar 1)))))
noncomputable def f_find_modulus : FnSem := sDef 1 ((sSeq (sExpr (sCall f_check_ring [(sVar 0)]))
    (sRet (sCall f_step_modulus [(sCall f_steps_between [(sVar 0)])]))))
noncomputable def f_reflected_mark : FnSem := sDef 3 ((sSeq (sSet 2 (sOp gMod (sOp gAdd (sVar 1) (sC (.int 1))) (sFn gLen [(sVar 0)])))
    (sRet (sOp gSub (sOp gAdd (sOp gIx (sVar 0) (sOp gSub (sVar 1) (sC (.int 1)))) (sOp gIx (sVar 0) (sVar 2))) (sOp gIx (sVar 0) (sVar 1))))))
noncomputable def f_reflect_seats : FnSem := sDef 4 ((sSeq (sSet 2 (sFn gList [(sVar 0)]))
    (sSeq (sFor (sSeqIt (sVar 1)) (gNm 3) (sSetIx 2 (sVar 3) (sCall f_reflected_mark [(sVar 2), (sVar 3)])))
    (sRet (sFn gTuple [(sVar 2)])))))
noncomputable def f_apply_moves : FnSem := sDef 3 ((sSeq (sExpr (sCall f_check_ring [(sVar 0)]))
    (sSeq (sExpr (sCall f_check_pins [(sVar 2), (sFn gLen [(sVar 0)])]))
    (sSeq (sExpr (sCall f_check_moves [(sVar 1), (sFn gLen [(sVar 0)]), (sVar 2)]))
    (sRet (sCall f_reflect_seats [(sVar 0), (sVar 1)]))))))
noncomputable def f_count_orders : FnSem := sDef 3 ((sSeq (sSet 1 (sFn gFact [(sFn gLen [(sVar 0)])]))
    (sSeq (sFor (sSeqIt (sFn gSortSet [(sVar 0)])) (gNm 2) (sAug 1 gDiv (sFn gFact [(sMeth gCount (sVar 0) (sVar 2))])))
    (sRet (sVar 1)))))
noncomputable def f_find_step_difference : FnSem := sDef 3 ((sSeq (sFor (sSeqIt (sFn gSortSet [(sOp gAdd (sVar 0) (sVar 1))])) (gNm 2) (sIf (sOp gNe (sMeth gCount (sVar 0) (sVar 2)) (sMeth gCount (sVar 1) (sVar 2))) (sRet (sTup [(sC (.str "step")), (sVar 2), (sMeth gCount (sVar 0) (sVar 2)), (sMeth gCount (sVar 1) (sVar 2))])) sSkip))
    (sRet (sC .none))))
noncomputable def f_find_mark_difference : FnSem := sDef 5 ((sSeq (sPar 2 3 [(sOp gIx (sVar 0) (sC (.int 0))), (sOp gIx (sVar 1) (sC (.int 0)))])
    (sSeq (sSet 4 (sCall f_step_modulus [(sCall f_steps_between [(sVar 0)])]))
    (sSeq (sIf (sOp gNe (sVar 4) (sC (.int 0))) (sPar 2 3 [(sOp gMod (sVar 2) (sVar 4)), (sOp gMod (sVar 3) (sVar 4))]) sSkip)
    (sSeq (sIf (sOp gNe (sVar 2) (sVar 3)) (sRet (sTup [(sC (.str "mark")), (sVar 2), (sVar 3)])) sSkip)
    (sRet (sC .none)))))))
noncomputable def f_difference_between : FnSem := sDef 3 ((sSeq (sIf (sOp gNe (sFn gLen [(sVar 0)]) (sFn gLen [(sVar 1)])) (sRet (sTup [(sC (.str "seats")), (sFn gLen [(sVar 0)]), (sFn gLen [(sVar 1)])])) sSkip)
    (sSeq (sSet 2 (sCall f_find_step_difference [(sCall f_steps_between [(sVar 0)]), (sCall f_steps_between [(sVar 1)])]))
    (sSeq (sIf (sOp gNotN (sVar 2) (sC .none)) (sRet (sVar 2)) sSkip)
    (sRet (sCall f_find_mark_difference [(sVar 0), (sVar 1)]))))))
noncomputable def f_find_difference : FnSem := sDef 2 ((sSeq (sExpr (sCall f_check_ring [(sVar 0)]))
    (sSeq (sExpr (sCall f_check_ring [(sVar 1)]))
    (sRet (sCall f_difference_between [(sVar 0), (sVar 1)])))))
noncomputable def f_check_pinned_ring : FnSem := sDef 2 ((sSeq (sExpr (sCall f_check_ring [(sVar 0)]))
    (sExpr (sCall f_check_some_pins [(sVar 1), (sFn gLen [(sVar 0)])]))))
noncomputable def f_arcs_between : FnSem := sDef 6 ((sSeq (sSet 2 (sOp gRepT (sCall f_steps_between [(sVar 0)]) (sC (.int 2))))
    (sSeq (sSet 3 (sOp gAdd (sCut (sVar 1) (some (sC (.int 1))) none) (sTup [(sOp gAdd (sOp gIx (sVar 1) (sC (.int 0))) (sFn gLen [(sVar 0)]))])))
    (sRet (sLc (sZip2 [(sVar 1), (sVar 3)]) (gTupD [(gNm 4), (gNm 5)]) (sC (.bool true)) (sFn gList [(sCut (sVar 2) (some (sVar 4)) (some (sVar 5)))]) [4, 5])))))
noncomputable def f_count_rings : FnSem := sDef 4 ((sSeq (sSet 2 (sC (.int 1)))
    (sSeq (sFor (sSeqIt (sCall f_arcs_between [(sVar 0), (sVar 1)])) (gNm 3) (sAug 2 gMul (sCall f_count_orders [(sVar 3)])))
    (sRet (sVar 2)))))
noncomputable def f_count_pinned : FnSem := sDef 2 ((sSeq (sExpr (sCall f_check_pinned_ring [(sVar 0), (sVar 1)]))
    (sRet (sCall f_count_rings [(sVar 0), (sVar 1)]))))
noncomputable def f_rings_of_round : FnSem := sDef 4 ((sSeq (sSet 2 (sCall f_steps_between [(sVar 0)]))
    (sSeq (sSet 3 (sLst [(sVar 0), (sCall f_reflect_seats [(sVar 0), (sVar 1)])]))
    (sSeq (sWhile (sOp gNe (sCall f_steps_between [(sOp gIx (sVar 3) (sUn gNeg (sC (.int 1))))]) (sVar 2)) (sExpr (sMut gApp 3 [(sCall f_reflect_seats [(sOp gIx (sVar 3) (sUn gNeg (sC (.int 1)))), (sVar 1)])])))
    (sRet (sVar 3))))))
noncomputable def f_repeat_seats : FnSem := sDef 8 ((sSeq (sSet 3 (sCall f_rings_of_round [(sVar 0), (sVar 1)]))
    (sSeq (sAsg (gTupD [(gNm 4), (gNm 5)]) (sFn gDivmod [(sVar 2), (sOp gSub (sFn gLen [(sVar 3)]) (sC (.int 1)))]))
    (sSeq (sSet 6 (sOp gMul (sVar 4) (sOp gSub (sOp gIx (sOp gIx (sVar 3) (sUn gNeg (sC (.int 1)))) (sC (.int 0))) (sOp gIx (sVar 0) (sC (.int 0))))))
    (sRet (sFn gTuple [(sLc (sSeqIt (sOp gIx (sVar 3) (sVar 5))) (gNm 7) (sC (.bool true)) (sOp gAdd (sVar 7) (sVar 6)) [7])]))))))
noncomputable def f_l_random : FnSem := sDef 4 ((sSeq (sSet 2 (sVar 1))
    (sSeq (sFor (sSeqIt (sVar 0)) (gNm 3) (sSet 2 (sOp gMod (sOp gAdd (sOp gMul (sVar 2) (sC (.int 31))) (sFn gAbs [(sVar 3)])) (sC (.int 2147483647)))))
    (sRet (sCat (sLst [(sVar 2), (sC (.int 0))]) (sLc (sSeqIt (sVar 0)) (gNm 3) (sOp gGe (sVar 3) (sOp gPow (sC (.int 10)) (sC (.int 18)))) (sVar 3) [3]))))))
noncomputable def f_l_below : FnSem := sDef 3 ((sSeq (sIf (sAnd (sOp gEq (sOp gIx (sVar 0) (sC (.int 1))) (sC (.int 0))) (sOp gGt (sFn gLen [(sVar 0)]) (sC (.int 2)))) (sSetIx 0 (sC (.int 1)) (sMut gPopAt 0 [(sC (.int 2))])) sSkip)
    (sSeq (sIf (sOp gGt (sOp gIx (sVar 0) (sC (.int 1))) (sC (.int 0))) (sSeq (sSet 2 (sOp gMod (sOp gIx (sVar 0) (sC (.int 1))) (sVar 1)))
    (sSeq (sSetIx 0 (sC (.int 1)) (sOp gDiv (sOp gIx (sVar 0) (sC (.int 1))) (sVar 1)))
    (sRet (sVar 2)))) sSkip)
    (sSeq (sSetIx 0 (sC (.int 0)) (sOp gMod (sOp gAdd (sOp gMul (sOp gIx (sVar 0) (sC (.int 0))) (sC (.int 48271))) (sC (.int 11))) (sC (.int 2147483647))))
    (sRet (sOp gMod (sOp gDiv (sOp gIx (sVar 0) (sC (.int 0))) (sC (.int 64))) (sVar 1)))))))
noncomputable def f_l_shuffled : FnSem := sDef 4 ((sSeq (sSet 2 (sFn gList [(sVar 1)]))
    (sSeq (sSet 3 (sLst []))
    (sSeq (sWhile (sOp gNe (sVar 2) (sLst [])) (sExpr (sMut gApp 3 [(sMut gPopAt 2 [(sCall f_l_below [(sVar 0), (sFn gLen [(sVar 2)])])])])))
    (sRet (sVar 3))))))
noncomputable def f_l_pins : FnSem := sDef 3 ((sSeq (sSet 2 (sCut (sCall f_l_shuffled [(sVar 0), (sListRg (sVar 1))]) none (some (sOp gAdd (sC (.int 1)) (sCall f_l_below [(sVar 0), (sOp gIx (sLst [(sC (.int 1)), (sC (.int 3))]) (sCall f_l_below [(sVar 0), (sC (.int 2))]))])))))
    (sRet (sFn gTuple [(sFn gSorted [(sVar 2)])]))))
noncomputable def f_check_block : FnSem := sDef 2 ((sSeq (sExpr (sCall f_check_ring [(sVar 0)]))
    (sExpr (sCall f_check_moves [(sVar 1), (sFn gLen [(sVar 0)]), (sTup [])]))))
noncomputable def f_repeat_block : FnSem := sDef 3 ((sSeq (sExpr (sCall f_check_block [(sVar 0), (sVar 1)]))
    (sSeq (sExpr (sCall f_check_times [(sVar 2)]))
    (sRet (sCall f_repeat_seats [(sVar 0), (sVar 1), (sVar 2)])))))
noncomputable def f_block_drift : FnSem := sDef 3 ((sSeq (sExpr (sCall f_check_block [(sVar 0), (sVar 1)]))
    (sSeq (sSet 2 (sCall f_rings_of_round [(sVar 0), (sVar 1)]))
    (sRet (sTup [(sOp gSub (sFn gLen [(sVar 2)]) (sC (.int 1))), (sOp gSub (sOp gIx (sOp gIx (sVar 2) (sUn gNeg (sC (.int 1)))) (sC (.int 0))) (sOp gIx (sVar 0) (sC (.int 0))))])))))
noncomputable def f_l_seats : FnSem := sDef 4 ((sRet (sLc (sRg [(sCall f_l_below [(sVar 0), (sOp gAdd (sVar 2) (sC (.int 1)))])]) (gNm 3) (sC (.bool true)) (sCall f_l_below [(sVar 0), (sVar 1)]) [3])))
noncomputable def f_l_little : FnSem := sDef 3 ((sRet (sFn gTuple [(sLc (sRg [(sOp gAdd (sC (.int 3)) (sCall f_l_below [(sVar 0), (sOp gSub (sVar 1) (sC (.int 2)))]))]) (gNm 2) (sC (.bool true)) (sCall f_l_below [(sVar 0), (sOp gIx (sLst [(sC (.int 3)), (sC (.int 9)), (sC (.int 30))]) (sCall f_l_below [(sVar 0), (sC (.int 3))]))]) [2])])))
end MR

set_option Elab.async false
set_option linter.all false
set_option maxRecDepth 100000
set_option maxHeartbeats 4000000
namespace MR
open PySem PySem.Spec PyProof.Rows L2
variable [Tq]
noncomputable def f_law_k42 : FnSem := sDef 21 ((sSeq (sSet 1 (sCall f_l_random [(sVar 0), (sC (.int 42))]))
    (sSeq (sSet 2 (sCall f_l_little [(sVar 1), (sC (.int 8))]))
    (sSeq (sAsg (gTupD [(gNm 3), (gNm 4)]) (sTup [(sFn gLen [(sVar 2)]), (sCall f_l_seats [(sVar 1), (sFn gLen [(sVar 2)]), (sC (.int 9))])]))
    (sSeq (sAsg (gTupD [(gNm 5), (gNm 6)]) (sTup [(sCall f_l_below [(sVar 1), (sVar 3)]), (sOp gSub (sCall f_l_below [(sVar 1), (sC (.int 99))]) (sC (.int 50)))]))
    (sSeq (sSet 7 (sCall f_apply_moves ([(sVar 2), (sVar 4)] ++ [PyData.tuple []].map sC)))
    (sSeq (sSet 8 (sFrz (sLc (sSeqIt (sTup [(sVar 2), (sVar 7)])) (gNm 18) (sC (.bool true)) (sOp gAdd (sCut (sVar 18) (some (sVar 5)) none) (sCut (sVar 18) none (some (sVar 5)))) [18])))
    (sSeq (sSet 9 (sFrz (sLc (sSeqIt (sTup [(sVar 2), (sVar 7)])) (gNm 18) (sC (.bool true)) (sFn gTuple [(sLc (sSeqIt (sVar 18)) (gNm 19) (sC (.bool true)) (sOp gAdd (sVar 19) (sVar 6)) [19])]) [18])))
    (sSeq (sSet 10 (sFrz (sLc (sSeqIt (sTup [(sVar 2), (sVar 7)])) (gNm 18) (sC (.bool true)) (sFn gTuple [(sLc (sSeqIt (sVar 18)) (gNm 19) (sC (.bool true)) (sOp gSub (sC (.int 0)) (sVar 19)) [19])]) [18])))
    (sSeq (sSet 11 (sFrz (sLc (sSeqIt (sTup [(sVar 2), (sVar 7)])) (gNm 18) (sC (.bool true)) (sUn gBack (sVar 18)) [18])))
    (sSeq (sIf (sOp gNe (sCall f_apply_moves ([(sOp gIx (sVar 8) (sC (.int 0))), (sLc (sSeqIt (sVar 4)) (gNm 20) (sC (.bool true)) (sOp gMod (sOp gSub (sVar 20) (sVar 5)) (sVar 3)) [20])] ++ [PyData.tuple []].map sC)) (sOp gIx (sVar 8) (sC (.int 1)))) (sRet (sC (.bool false))) sSkip)
    (sSeq (sIf (sOr (sOp gNe (sCall f_apply_moves ([(sOp gIx (sVar 9) (sC (.int 0))), (sVar 4)] ++ [PyData.tuple []].map sC)) (sOp gIx (sVar 9) (sC (.int 1)))) (sOp gNe (sCall f_apply_moves ([(sOp gIx (sVar 10) (sC (.int 0))), (sVar 4)] ++ [PyData.tuple []].map sC)) (sOp gIx (sVar 10) (sC (.int 1))))) (sRet (sC (.bool false))) sSkip)
    (sSeq (sIf (sOp gNe (sCall f_apply_moves ([(sOp gIx (sVar 11) (sC (.int 0))), (sLc (sSeqIt (sVar 4)) (gNm 20) (sC (.bool true)) (sOp gSub (sOp gSub (sVar 3) (sC (.int 1))) (sVar 20)) [20])] ++ [PyData.tuple []].map sC)) (sOp gIx (sVar 11) (sC (.int 1)))) (sRet (sC (.bool false))) sSkip)
    (sSeq (sFor (sSeqIt (sTup [(sVar 8), (sVar 9), (sVar 10), (sVar 11)])) (gNm 12) (sIf (sOr (sOp gNotN (sCall f_find_difference [(sOp gIx (sVar 12) (sC (.int 0))), (sOp gIx (sVar 12) (sC (.int 1)))]) (sC .none)) (sOp gNe (sCall f_find_modulus [(sOp gIx (sVar 12) (sC (.int 0)))]) (sCall f_find_modulus [(sVar 2)]))) (sRet (sC (.bool false))) sSkip))
    (sSeq (sSet 13 (sCall f_l_below [(sVar 1), (sOp gPow (sC (.int 10)) (sC (.int 6)))]))
    (sSeq (sSet 14 (sCall f_repeat_block [(sVar 2), (sVar 4), (sVar 13)]))
    (sSeq (sIf (sOp gNe (sCall f_repeat_block [(sOp gIx (sVar 9) (sC (.int 0))), (sVar 4), (sVar 13)]) (sFn gTuple [(sLc (sSeqIt (sVar 14)) (gNm 19) (sC (.bool true)) (sOp gAdd (sVar 19) (sVar 6)) [19])])) (sRet (sC (.bool false))) sSkip)
    (sSeq (sIf (sOp gNe (sCall f_repeat_block [(sOp gIx (sVar 10) (sC (.int 0))), (sVar 4), (sVar 13)]) (sFn gTuple [(sLc (sSeqIt (sVar 14)) (gNm 19) (sC (.bool true)) (sOp gSub (sC (.int 0)) (sVar 19)) [19])])) (sRet (sC (.bool false))) sSkip)
    (sSeq (sSet 15 (sCall f_block_drift [(sVar 2), (sVar 4)]))
    (sSeq (sIf (sOr (sOp gNe (sCall f_block_drift [(sOp gIx (sVar 9) (sC (.int 0))), (sVar 4)]) (sVar 15)) (sOp gNe (sCall f_block_drift [(sOp gIx (sVar 10) (sC (.int 0))), (sVar 4)]) (sTup [(sOp gIx (sVar 15) (sC (.int 0))), (sOp gSub (sC (.int 0)) (sOp gIx (sVar 15) (sC (.int 1))))]))) (sRet (sC (.bool false))) sSkip)
    (sSeq (sSet 16 (sCall f_l_pins [(sVar 1), (sVar 3)]))
    (sSeq (sSet 17 (sFn gTuple [(sFn gSorted [(sLc (sSeqIt (sVar 16)) (gNm 20) (sC (.bool true)) (sOp gMod (sOp gSub (sVar 20) (sVar 5)) (sVar 3)) [20])])]))
    (sRet (sChain gEq gEq (sCall f_count_pinned [(sOp gIx (sVar 8) (sC (.int 0))), (sVar 17)]) (sCall f_count_pinned [(sVar 2), (sVar 16)]) (sCall f_count_pinned [(sOp gIx (sVar 10) (sC (.int 0))), (sVar 16)])))))))))))))))))))))))))
end MR

set_option Elab.async false
set_option linter.all false
set_option maxRecDepth 100000
set_option maxHeartbeats 1000000
namespace MR
open PySem PySem.Spec PyProof.Rows L2
variable [Tq]

theorem atI_at {α : Type} {xs : List α} {i : Int} {j : Nat} {v : α} (e : i = (j : Int)) (h : xs[j]? = some v) : atI xs i = some v := by subst e; exact atI_nat h
theorem atI_c0 {α : Type} (x : α) (xs : List α) : atI (x :: xs) 0 = some x := atI_at (j := 0) rfl rfl
theorem atI_c1 {α : Type} (x y : α) (xs : List α) : atI (x :: y :: xs) 1 = some y := atI_at (j := 1) rfl rfl
theorem atI_c2 {α : Type} (x y z : α) (xs : List α) : atI (x :: y :: z :: xs) 2 = some z := atI_at (j := 2) rfl rfl
theorem ixN_at {n : Nat} {i : Int} {j : Nat} (e : i = (j : Int)) (h : j < n) : ixN n i = some j := by
  subst e
  unfold ixN
  rw [if_pos (by omega), if_pos (by omega)]
  simp
theorem ixN_c0 (n : Nat) : ixN (n + 1) 0 = some 0 := ixN_at (j := 0) rfl (by omega)
theorem ixN_c1 (n : Nat) : ixN (n + 1 + 1) 1 = some 1 := ixN_at (j := 1) rfl (by omega)
theorem seqIx_at {n : Nat} {i : Int} {j : Nat} (e : i = (j : Int)) (h : j < n) : seqIndex? i n = some j := (ixN_seq (ixN_at e h)).1
theorem seqIx_c2 (n : Nat) : seqIndex? 2 (n + 1 + 1 + 1) = some 2 := seqIx_at (j := 2) rfl (by omega)
local macro_rules | `(tactic| walk_at "ev") => `(tactic| simp [sDef, sSeq, sIf, sAnd, sOr, sNot, sIfE, tBnd, bnd, sOp, sUn, sVar, sC, vw, settle, gEq, gNe, gLt, gLe, gGt, gGe, gInt2, gIx, atI_c0, atI_c1, atI_c2, ixN_c0, ixN_c1, seqIx_c2, SeqAt.shaped, PyData.canLay0, PyData.depth, PyData.eqv, sFn, sArgs, slotOk, isOwn, vws, gLen, gAdd, gAddI, gOr, gSub, gMul, gDiv, gMod, gNeg, sRet, sSet, sSetIx, sMut, sTaken, tk, noPin, sExpr, sSkip, gPopAt, gApp, outsOf, *])
/-- the source of numbers: two ints and more -/
def Src (xs : List D) : Prop := ∃ (a b : Int) (r : List Int), xs = .int a :: .int b :: r.map PyData.int
theorem below_pos {a b k : Int} {r : List D} (hb : 0 < b) (h0 : 0 < k) (h1 : k < 18446744073709551616) : f_l_below [.own true (.int a :: .int b :: r), .val (.int k)] = some (.val (.int (b % k)), [.own true (.int a :: .int (b / k) :: r), .val (.int k)]) := by
  have hb0 : ¬ b = 0 := by omega
  unfold f_l_below
  walk_at "ev"
theorem below_neg {a b k : Int} {r : List D} (hb : b ≤ 0) (hr : b = 0 → r = []) (h0 : 0 < k) (h1 : k < 18446744073709551616) :
    f_l_below [.own true (.int a :: .int b :: r), .val (.int k)] = some (.val (.int ((a * 48271 + 11) % 2147483647 / 64 % k)), [.own true (.int ((a * 48271 + 11) % 2147483647) :: .int b :: r), .val (.int k)]) := by
  have hb0 : ¬ 0 < b := by omega
  unfold f_l_below
  by_cases hz : b = 0
  · have := hr hz
    subst this
    subst hz
    walk_at "ev"
  · walk_at "ev"
theorem below_pull {a c k : Int} {r : List D} (hc : 0 < c) (h0 : 0 < k) (h1 : k < 18446744073709551616) : f_l_below [.own true (.int a :: .int 0 :: .int c :: r), .val (.int k)] = some (.val (.int (c % k)), [.own true (.int a :: .int (c / k) :: r), .val (.int k)]) := by
  have h2 : (2 : Int) < (r.length : Int) + 1 + 1 + 1 := by omega
  unfold f_l_below
  walk_at "ev"
theorem below_pull' {a c k : Int} {r : List D} (hc : c ≤ 0) (h0 : 0 < k) (h1 : k < 18446744073709551616) : f_l_below [.own true (.int a :: .int 0 :: .int c :: r), .val (.int k)] = some (.val (.int ((a * 48271 + 11) % 2147483647 / 64 % k)), [.own true (.int ((a * 48271 + 11) % 2147483647) :: .int c :: r), .val (.int k)]) := by
  have h2 : (2 : Int) < (r.length : Int) + 1 + 1 + 1 := by omega
  have hb0 : ¬ 0 < c := by omega
  unfold f_l_below
  walk_at "ev"
theorem below_spec {xs : List D} {k : Int} (h : Src xs) (h0 : 0 < k) (h1 : k < 18446744073709551616) : ∃ r ys, Src ys ∧ 0 ≤ r ∧ r < k ∧ f_l_below [.own true xs, .val (.int k)] = some (.val (.int r), [.own true ys, .val (.int k)]) := by
  obtain ⟨a, b, r, rfl⟩ := h
  have m := fun x => Int.emod_nonneg x (show k ≠ 0 by omega)
  have l := fun x => Int.emod_lt_of_pos x h0
  by_cases hb : 0 < b
  · exact ⟨_, _, ⟨a, b / k, r, rfl⟩, m _, l _, below_pos hb h0 h1⟩
  · by_cases hz : b = 0
    · cases r with
      | nil => exact ⟨_, _, ⟨_, b, [], rfl⟩, m _, l _, below_neg (by omega) (fun _ => rfl) h0 h1⟩
      | cons c r =>
        subst hz
        by_cases hc : 0 < c
        · exact ⟨_, _, ⟨a, c / k, r, rfl⟩, m _, l _, below_pull hc h0 h1⟩
        · exact ⟨_, _, ⟨_, c, r, rfl⟩, m _, l _, below_pull' (by omega) h0 h1⟩
    · exact ⟨_, _, ⟨_, b, r, rfl⟩, m _, l _, below_neg (by omega) (fun z => absurd z hz) h0 h1⟩
/-- a call of it: the slot i holds the source -/
theorem below_call {e : Env} {i : Nat} {p : Bool} {xs : List D} {fk : Ev} {k : Int} (he : e[i]? = some (.own p xs)) (hs : Src xs) (hk : fk e = some (.val (.int k), e)) (h0 : 0 < k) (h1 : k < 18446744073709551616) :
    ∃ r ys, Src ys ∧ 0 ≤ r ∧ r < k ∧ sCall f_l_below [(sVar i), fk] e = some (.val (.int r), e.set i (.own p ys)) := by
  obtain ⟨r, ys, h2, h3, h4, h5⟩ := below_spec hs h0 h1
  refine ⟨r, ys, h2, h3, h4, ?_⟩
  simp [sCall, sArgs, sVar_own he, hk, settle, slotOk, isOwn, he, slotsApart, noSlot, argSls, argSl, h5, writeBack]

local macro_rules | `(tactic| walk_at "ew") => `(tactic| simp [sDef, sSeq, sIf, sAnd, sOr, sNot, sIfE, tBnd, bnd, sOp, sUn, sVar, sC, vw, settle, gEq, gNe, gLt, gLe, gGt, gGe, gInt2, gIx, atI_c0, atI_c1, atI_c2, ixN_c0, ixN_c1, seqIx_c2, SeqAt.shaped, PyData.canLay0, PyData.depth, PyData.eqv, sFn, sArgs, slotOk, isOwn, vws, gLen, gAdd, gAddI, gOr, gSub, gMul, gDiv, gMod, gPow, gNeg, gAbs, gTuple, sRet, sSet, sSetIx, sMut, sTaken, tk, noPin, sExpr, sSkip, gPopAt, gApp, outsOf, sFor, sSeqIt, sLc, noOwn, wipeE, unwipe, sCat, vwL, sLst, sRg, gNm, sTup, sPar, sAsg, gTupD, gTs, sEnum, sIsi, sChain, *])
/-- a slot with nothing of its own -/
def Lt : Sl → Prop
  | .own _ _ => False
  | _ => True

theorem gNm_ok {j : Nat} {d : D} {e : Env} (h : noPin e j = true) : gNm j d e = some (e.set j (.val d)) := by unfold gNm; rw [if_pos h]
theorem random_step (L : D) (s z n : Int) (w : Sl) : sSet 2 (sOp gMod (sOp gAdd (sOp gMul (sVar 2) (sC (.int 31))) (sFn gAbs [(sVar 3)])) (sC (.int 2147483647))) [.val L, .val (.int s), .val (.int z), .val (.int n)] = some (.nx, [.val L, .val (.int s), .val (.int ((z * 31 + if n < 0 then -n else n) % 2147483647)), .val (.int n)]) := by
  walk_at "ew"
theorem random_loop (L : D) (s : Int) (l : List Int) (z : Int) : ∃ z' w', Lt w' ∧
    forL (gNm 3) (fun _ => true) (sSet 2 (sOp gMod (sOp gAdd (sOp gMul (sVar 2) (sC (.int 31))) (sFn gAbs [(sVar 3)])) (sC (.int 2147483647)))) (l.map PyData.int) [.val L, .val (.int s), .val (.int z), .un] = some (.nx, [.val L, .val (.int s), .val (.int z'), w']) := by
  obtain ⟨e', h, z', w', l', _, h1, rfl⟩ := forL_ind (g := gNm 3) (c := fun _ => true) (I := fun items e => ∃ (z : Int) (w : Sl) (l : List Int), items = l.map PyData.int ∧ Lt w ∧ e = [.val L, .val (.int s), .val (.int z), w]) (items := l.map PyData.int) (e := [.val L, .val (.int s), .val (.int z), .un]) (fun d ds e h => by
      obtain ⟨z, w, l, h1, h2, rfl⟩ := h
      cases l with
      | nil => cases h1
      | cons n l =>
        cases h1
        refine ⟨_, _, gNm_ok ?_, random_step L s z n w, rfl, _, _, l, rfl, ?_, rfl⟩
        · cases w with
          | own p xs => exact h2.elim
          | _ => rfl
        · trivial) ⟨z, .un, l, rfl, trivial, rfl⟩
  exact ⟨z', w', h1, h⟩
def isBig : D → Bool
  | .int n => decide (1000000000000000000 ≤ n)
  | _ => false
theorem random_test (L : D) (s z n : Int) : sOp gGe (sVar 3) (sOp gPow (sC (.int 10)) (sC (.int 18))) [.val L, .val (.int s), .val (.int z), .val (.int n)] = some (.val (.bool (isBig (.int n))), [.val L, .val (.int s), .val (.int z), .val (.int n)]) := by
  walk_at "ew"
  rfl
theorem random_comp (L : D) (s z : Int) (ns : List Int) :
    lcL (fun _ => true) (gNm 3) (sOp gGe (sVar 3) (sOp gPow (sC (.int 10)) (sC (.int 18)))) (sVar 3) [3] (ns.map PyData.int) [.val L, .val (.int s), .val (.int z), .un] [] = some ([] ++ ((ns.map PyData.int).filter isBig).map id, [.val L, .val (.int s), .val (.int z), .un]) :=
  lcL_filter (c := fun _ => true) rfl (fun d hd => by
    obtain ⟨n, _, rfl⟩ := List.mem_map.mp hd
    exact ⟨_, _, rfl, random_test L s z n, fun _ => ⟨rfl, rfl⟩, fun _ => ⟨_, _, _, rfl, nofun, rfl, rfl, rfl⟩⟩)
theorem def_val {n : Nat} {b : Stm} {args e' outs : Env} {d : D} (h : b (args ++ List.replicate (n - args.length) .un) = some (.ret (.val d), e')) (ho : outsOf args e' = outs) : sDef n b args = some (.val d, outs) := by unfold sDef; rw [h, ← ho]
theorem def_new {n : Nat} {b : Stm} {args e' outs : Env} {d : List D} (h : b (args ++ List.replicate (n - args.length) .un) = some (.ret (.new d), e')) (ho : outsOf args e' = outs) : sDef n b args = some (.new d, outs) := by unfold sDef; rw [h, ← ho]
theorem def_nx {n : Nat} {b : Stm} {args e' outs : Env} (h : b (args ++ List.replicate (n - args.length) .un) = some (.nx, e')) (ho : outsOf args e' = outs) : sDef n b args = some (.val .none, outs) := by unfold sDef; rw [h, ← ho]
theorem ret_ok {f : Ev} {e e1 : Env} {r : Rs} (h : f e = some (r, e1)) (hn : ∀ x, r ≠ .err x) : sRet f e = some (.ret r, e1) := by
  unfold sRet
  rw [h]
  cases r with
  | err x => exact absurd rfl (hn x)
  | _ => rfl
theorem random_spec (ns : List Int) (s : Int) (hn : ns.length ≤ 63) : ∃ xs, Src xs ∧ ∃ outs, f_l_random [.val (.list (ns.map PyData.int)), .val (.int s)] = some (.new xs, outs) := by
  obtain ⟨z', w', h1, h2⟩ := random_loop (.list (ns.map PyData.int)) s ns s
  have q := random_comp (.list (ns.map PyData.int)) s z' ns
  have hl : ((ns.map PyData.int).filter isBig).length ≤ 63 := Nat.le_trans (List.length_filter_le _ _) (by simpa using hn)
  have hl2 : 2 + ((ns.map PyData.int).filter isBig).length ≤ 16777216 := by omega
  have hl3 : ns.length ≤ 16777216 := by omega
  have hf : (ns.map PyData.int).filter isBig = (ns.filter fun n => isBig (.int n)).map PyData.int := by rw [List.filter_map]; rfl
  rw [List.nil_append, List.map_id] at q
  have e1 : sSeq (sSet 2 (sVar 1)) (sFor (sSeqIt (sVar 0)) (gNm 3) (sSet 2 (sOp gMod (sOp gAdd (sOp gMul (sVar 2) (sC (.int 31))) (sFn gAbs [(sVar 3)])) (sC (.int 2147483647))))) [.val (.list (ns.map PyData.int)), .val (.int s), .un, .un] = some (.nx, [.val (.list (ns.map PyData.int)), .val (.int s), .val (.int z'), w']) := h2
  have e2 : sLc (sSeqIt (sVar 0)) (gNm 3) (sOp gGe (sVar 3) (sOp gPow (sC (.int 10)) (sC (.int 18)))) (sVar 3) [3] [.val (.list (ns.map PyData.int)), .val (.int s), .val (.int z'), w'] = some (.new ((ns.map PyData.int).filter isBig), [.val (.list (ns.map PyData.int)), .val (.int s), .val (.int z'), w']) := by
    unfold sLc
    have : sSeqIt (sVar 0) [.val (.list (ns.map PyData.int)), .val (.int s), .val (.int z'), w'] = some (.ok (ns.map PyData.int) none, [.val (.list (ns.map PyData.int)), .val (.int s), .val (.int z'), w']) := rfl
    rw [this]
    simp only
    have c : noOwn [.val (.list (ns.map PyData.int)), .val (.int s), .val (.int z'), w'] [3] = true := by
      cases w' with
      | own p xs => exact h1.elim
      | _ => rfl
    rw [if_pos ⟨c, by rw [List.length_map]; exact hl3⟩]
    have : wipeE [.val (.list (ns.map PyData.int)), .val (.int s), .val (.int z'), w'] [3] = [.val (.list (ns.map PyData.int)), .val (.int s), .val (.int z'), .un] := rfl
    rw [this, q]
    rfl
  have e3 : sCat (sLst [(sVar 2), (sC (.int 0))]) (sLc (sSeqIt (sVar 0)) (gNm 3) (sOp gGe (sVar 3) (sOp gPow (sC (.int 10)) (sC (.int 18)))) (sVar 3) [3]) [.val (.list (ns.map PyData.int)), .val (.int s), .val (.int z'), w'] = some (.new ([.int z', .int 0] ++ (ns.map PyData.int).filter isBig), [.val (.list (ns.map PyData.int)), .val (.int s), .val (.int z'), w']) := by
    unfold sCat
    rw [bnd_ok (r := .new [.int z', .int 0]) rfl nofun, bnd_ok e2 nofun]
    simp only [vwL]
    exact if_pos hl2
  refine ⟨.int z' :: .int 0 :: (ns.filter fun n => isBig (.int n)).map PyData.int, ⟨z', 0, _, rfl⟩, [.val (.list (ns.map PyData.int)), .val (.int s)], ?_⟩
  rw [← hf]
  refine def_new (e' := [.val (.list (ns.map PyData.int)), .val (.int s), .val (.int z'), w']) ?_ rfl
  refine (seq_nx (e1 := [.val (.list (ns.map PyData.int)), .val (.int s), .val (.int s), .un]) rfl).trans ?_
  refine (seq_nx (e1 := [.val (.list (ns.map PyData.int)), .val (.int s), .val (.int z'), w']) h2).trans ?_
  exact ret_ok e3 nofun


theorem sOp_eq {g : D → D → Option Rs} {fa fb : Ev} {e e1 e2 : Env} {ra rb : Rs} {da db : D} (ha : fa e = some (ra, e1)) (hna : ∀ x, ra ≠ .err x) (hb : fb e1 = some (rb, e2)) (hnb : ∀ x, rb ≠ .err x)
    (h1 : vw (settle ra) e2 = some da) (h2 : vw (settle rb) e2 = some db) : sOp g fa fb e = (g da db).map fun r => (r, e2) := by
  unfold sOp
  rw [ha]
  cases ra with
  | err x => exact absurd rfl (hna x)
  | _ =>
    simp only
    rw [hb]
    cases rb with
    | err x => exact absurd rfl (hnb x)
    | _ =>
      simp only
      rw [h1, h2]
theorem rgI_mem {lo : Int} {n : Nat} {d : D} (h : d ∈ rgI lo n) : ∃ k : Nat, k < n ∧ d = .int (lo + k) := by
  unfold rgI at h
  obtain ⟨k, h1, rfl⟩ := List.mem_map.mp h
  exact ⟨k, List.mem_range.mp h1, rfl⟩
theorem rgI_len (lo : Int) (n : Nat) : (rgI lo n).length = n := by unfold rgI; simp
theorem sRg_ok {f : Ev} {e e1 : Env} {n : Int} (h : f e = some (.val (.int n), e1)) (hn : -(2 ^ 62) ≤ n ∧ n < 2 ^ 62) : sRg [f] e = some (.ok (rgI 0 n.toNat) none, e1) := by
  have : sArgs [f] e = some (.ok [.val (.int n)], e1) := by simp [sArgs, h, settle, slotOk]
  unfold sRg
  rw [this]
  exact if_pos hn
theorem small62 {n : Nat} (hn : n ≤ 8) : -(2 ^ 62) ≤ (n : Int) ∧ (n : Int) < 2 ^ 62 := ⟨by omega, by omega⟩
theorem sLc_ok {fi : Iv} {g : Tgt} {ft fe : Ev} {vs : List Nat} {e e1 e2 : Env} {items acc : List D} (h : fi e = some (.ok items none, e1)) (hn : noOwn e1 vs = true) (hl : items.length ≤ 16777216)
    (hL : lcL (fun _ => true) g ft fe vs items (wipeE e1 vs) [] = some (acc, e2)) : sLc fi g ft fe vs e = some (.new acc, unwipe e1 e2 vs) := by
  unfold sLc
  rw [h]
  simp only
  rw [if_pos ⟨hn, hl⟩, hL]
theorem sFor_ok {fi : Iv} {g : Tgt} {b : Stm} {e e1 : Env} {items : List D} (h : fi e = some (.ok items none, e1)) : sFor fi g b e = forL g (fun _ => true) b items e1 := by
  unfold sFor
  rw [h]
/-- a call of _law_below upon slot 0 -/
theorem below_at {xs : List D} {r : Env} {fk : Ev} {k : Int} (hs : Src xs) (hk : fk (.own true xs :: r) = some (.val (.int k), .own true xs :: r)) (h0 : 0 < k) (h1 : k < 18446744073709551616) :
    ∃ m ys, Src ys ∧ 0 ≤ m ∧ m < k ∧ sCall f_l_below [(sVar 0), fk] (.own true xs :: r) = some (.val (.int m), .own true ys :: r) :=
  below_call (i := 0) (p := true) rfl hs hk h0 h1
/-- the same, the limit reckoned upon the source itself -/
theorem below_at' {xs ys : List D} {r : Env} {fk : Ev} {k : Int} (hs : Src ys) (hk : fk (.own true xs :: r) = some (.val (.int k), .own true ys :: r)) (h0 : 0 < k) (h1 : k < 18446744073709551616) :
    ∃ m zs, Src zs ∧ 0 ≤ m ∧ m < k ∧ sCall f_l_below [(sVar 0), fk] (.own true xs :: r) = some (.val (.int m), .own true zs :: r) := by
  obtain ⟨m, zs, h2, h3, h4, h5⟩ := below_spec hs h0 h1
  refine ⟨m, zs, h2, h3, h4, ?_⟩
  have hv : sVar 0 (.own true xs :: r) = some (.slot 0, .own true xs :: r) := rfl
  simp [sCall, sArgs, hv, hk, settle, slotOk, isOwn, slotsApart, noSlot, argSls, argSl, h5, writeBack]
theorem sTaken1 {fa : Ev} {e e1 : Env} {da : D} (ha : fa e = some (.val da, e1)) : sTaken [fa] e = some (.ok [da], e1) := by simp [sTaken, ha, tk]
theorem sFn1 {g : List D → Option Rs} {f : Ev} {e e1 : Env} {r : Rs} {d : D} (h : f e = some (r, e1)) (hn : ∀ x, r ≠ .err x) (hs : slotOk (settle r) e1 = true) (hv : vw (settle r) e1 = some d) : sFn g [f] e = (g [d]).map fun r => (r, e1) := by
  have : sArgs [f] e = some (.ok [settle r], e1) := by
    simp only [sArgs, h]
    cases r with
    | err x => exact absurd rfl (hn x)
    | _ => exact if_pos hs
  unfold sFn
  rw [this]
  simp [vws, hv]
theorem sFnNew {g : List D → Option Rs} {f : Ev} {e e1 : Env} {xs : List D} (h : f e = some (.new xs, e1)) : sFn g [f] e = (g [.list xs]).map fun r => (r, e1) := sFn1 h nofun rfl rfl
/-- what _law_marks gives -/
def Mk (ms : List Int) : Prop := 3 ≤ ms.length ∧ ms.length ≤ 8 ∧ ∀ m ∈ ms, -1000000 ≤ m ∧ m ≤ 1000000
theorem set_same {e : Env} {v : Nat} {s : Sl} (h : e[v]? = some s) : e.set v s = e := by
  apply List.ext_getElem?
  intro k
  rw [List.getElem?_set]
  split
  · rename_i c
    subst c
    rw [h]
    rw [if_pos (List.getElem?_eq_some_iff.mp h).1]
  · rfl
theorem setv_ok {j : Nat} {fe : Ev} {e e1 : Env} {d : D} (h : fe e = some (.val d, e1)) (hn : noPin e1 j = true) : sSet j fe e = some (.nx, e1.set j (.val d)) := by
  unfold sSet
  rw [h]
  simp only [tk]
  rw [if_pos hn]
theorem setn_ok {j : Nat} {fe : Ev} {e e1 : Env} {xs : List D} (h : fe e = some (.new xs, e1)) (hn : noPin e1 j = true) : sSet j fe e = some (.nx, e1.set j (.own false xs)) := by
  unfold sSet
  rw [h]
  simp only
  rw [if_pos hn]
theorem expr_ok {fe : Ev} {e e1 : Env} {r : Rs} (h : fe e = some (r, e1)) (hn : ∀ x, r ≠ .err x) : sExpr fe e = some (.nx, e1) := by
  unfold sExpr
  rw [h]
  cases r with
  | err x => exact absurd rfl (hn x)
  | _ => rfl
/-- the step from seat i -/
def dAt (ms : List Int) (i : Nat) : Int := ms.getD ((i + 1) % ms.length) 0 - ms.getD i 0
def ds (ms : List Int) : List Int := (List.range ms.length).map (dAt ms)
theorem ds_len (ms : List Int) : (ds ms).length = ms.length := by unfold ds; simp
theorem ints_at {ms : List Int} {i : Nat} (h : i < ms.length) : (ms.map PyData.int)[i]? = some (.int (ms.getD i 0)) := by
  rw [List.getElem?_map, List.getD_eq_getElem?_getD, List.getElem?_eq_getElem h]
  rfl
theorem ix_at {ms : List Int} {e : Env} {j i : Nat} {f : Ev} {z : Int} (h0 : e[j]? = some (.val (.tuple (ms.map PyData.int)))) (hf : f e = some (.val (.int z), e)) (hz : z = (i : Int)) (hi : i < ms.length) : sOp gIx (sVar j) f e = some (.val (.int (ms.getD i 0)), e) := by
  rw [sOp_ok (sVar_val h0) hf]
  have : gIx (.tuple (ms.map PyData.int)) (.int z) = some (.val (.int (ms.getD i 0))) := by
    unfold gIx
    simp only
    rw [atI_at hz (ints_at hi)]
    rfl
  rw [this]
  rfl
theorem len_at {xs : List D} {e : Env} {j : Nat} (h0 : e[j]? = some (.val (.tuple xs))) : sFn gLen [(sVar j)] e = some (.val (.int xs.length), e) := by
  rw [sFn1 (sVar_val h0) nofun rfl rfl]
  rfl
/-- the reckoning of one step -/
theorem diff_at {ms : List Int} {e : Env} {j i v : Nat} {fl : Ev} (h0 : e[j]? = some (.val (.tuple (ms.map PyData.int)))) (hv : e[v]? = some (.val (.int (i : Int)))) (hl : fl e = some (.val (.int ms.length), e)) (hi : i < ms.length) :
    sOp gSub (sOp gIx (sVar j) (sOp gMod (sOp gAdd (sVar v) (sC (.int 1))) fl)) (sOp gIx (sVar j) (sVar v)) e = some (.val (.int (dAt ms i)), e) := by
  have a1 : sOp gMod (sOp gAdd (sVar v) (sC (.int 1))) fl e = some (.val (.int (((i : Int) + 1) % ms.length)), e) := by
    refine (sOp_ok (da := .int ((i : Int) + 1)) ((sOp_ok (sVar_val hv) rfl).trans rfl) hl).trans ?_
    have : gMod (.int ((i : Int) + 1)) (.int ms.length) = some (.val (.int (((i : Int) + 1) % ms.length))) := by
      unfold gMod gInt2
      simp only
      rw [if_pos (by omega)]
      rfl
    rw [this]
    rfl
  have a2 := ix_at (i := (i + 1) % ms.length) h0 a1 (by rw [Int.natCast_emod]; rfl) (Nat.mod_lt _ (by omega))
  have a3 := ix_at h0 (sVar_val hv) rfl hi
  exact (sOp_ok a2 a3).trans rfl
theorem diffs_comp {ms : List Int} {e : Env} {v j : Nat} {fl fa : Ev} (h0 : e[j]? = some (.val (.tuple (ms.map PyData.int)))) (hv : e[v]? = some .un) (hj : j ≠ v) (hl : fl e = some (.val (.int ms.length), e))
    (hl2 : ∀ i : Int, fa (e.set v (.val (.int i))) = some (.val (.int ms.length), e.set v (.val (.int i)))) (hm : ms.length ≤ 8) :
    sLc (sRg [fl]) (gNm v) (sC (.bool true)) (sOp gSub (sOp gIx (sVar j) (sOp gMod (sOp gAdd (sVar v) (sC (.int 1))) fa)) (sOp gIx (sVar j) (sVar v))) [v] e = some (.new ((ds ms).map PyData.int), e) := by
  have hlt : v < e.length := (List.getElem?_eq_some_iff.mp hv).1
  have hw : ∀ s, (e.set v s).set v .un = e := by
    intro s
    rw [List.set_set]
    exact set_same hv
  have np : noPin e v = true := by unfold noPin; rw [hv]
  have hno : ∀ {e : Env} {s : Sl}, e[v]? = some s → Lt s → noOwn e [v] = true := by
    intro e s h1 h2
    simp only [noOwn, isOwn, h1]
    cases s with
    | own p xs => exact h2.elim
    | _ => rfl
  have m := lcL_map (c := fun _ => true) (g := gNm v) (ft := sC (.bool true)) (fe := sOp gSub (sOp gIx (sVar j) (sOp gMod (sOp gAdd (sVar v) (sC (.int 1))) fa)) (sOp gIx (sVar j) (sVar v))) (vs := [v]) (e := e) (Fn := fun d => match d with
      | .int z => .int (dAt ms z.toNat)
      | d => d) rfl (items := rgI 0 ms.length) (acc := []) (fun d hd => by
    obtain ⟨i, hi, rfl⟩ := rgI_mem hd
    have z : (0 : Int) + (i : Int) = (i : Int) := by omega
    have hg : (e.set v (.val (.int (0 + (i : Int)))))[v]? = some (.val (.int (0 + (i : Int)))) := by rw [List.getElem?_set_self hlt]
    refine ⟨_, _, _, _, _, gNm_ok np, rfl, diff_at (ms := ms) (i := i) ?_ ?_ (hl2 _) hi, nofun, ?_, hno hg trivial, ?_⟩
    · rw [List.getElem?_set_ne (by omega)]
      exact h0
    · rw [hg, z]
    · simp only [tk, z, Int.toNat_natCast]
    · exact hw _)
  have e1 := sRg_ok hl (small62 hm)
  rw [Int.toNat_natCast] at e1
  have c2 : (rgI 0 ms.length).length ≤ 16777216 := Nat.le_trans (Nat.le_of_eq (rgI_len 0 _)) (Nat.le_trans hm (by decide))
  have w0 : wipeE e [v] = e := by
    show e.set v .un = e
    exact set_same hv
  have h2 : (rgI 0 ms.length).map (fun d => match d with
      | .int z => PyData.int (dAt ms z.toNat)
      | d => d) = (ds ms).map PyData.int := by
    unfold rgI ds
    rw [List.map_map, List.map_map]
    refine List.map_congr_left fun i _ => ?_
    simp
  rw [List.nil_append, h2] at m
  refine (sLc_ok (vs := [v]) e1 (hno hv trivial) c2 (w0.symm ▸ m)).trans ?_
  have : unwipe e (wipeE e [v]) [v] = e := by
    rw [w0]
    show e.set v (e.getD v .un) = e
    rw [List.getD_eq_getElem?_getD, hv]
    exact set_same hv
  rw [this]
theorem steps_spec {ms : List Int} (hm : ms.length ≤ 8) : f_steps_between [.val (.tuple (ms.map PyData.int))] = some (.val (.tuple ((ds ms).map PyData.int)), [.val (.tuple (ms.map PyData.int))]) := by
  have hl : sFn gLen [(sVar 0)] [.val (.tuple (ms.map PyData.int)), .un, .un] = some (.val (.int ms.length), [.val (.tuple (ms.map PyData.int)), .un, .un]) := by
    rw [len_at rfl, List.length_map]
  refine def_val (e' := [.val (.tuple (ms.map PyData.int)), .val (.int ms.length), .un]) ?_ rfl
  refine (seq_nx (e1 := [.val (.tuple (ms.map PyData.int)), .val (.int ms.length), .un]) (setv_ok hl rfl)).trans ?_
  refine ret_ok ?_ nofun
  refine (sFnNew ?_).trans rfl
  exact diffs_comp (e := [.val (.tuple (ms.map PyData.int)), .val (.int ms.length), .un]) rfl rfl (by omega) rfl (fun i => rfl) hm


local macro_rules | `(tactic| walk_at "ev") => `(tactic| simp [sSeq, sIf, sAnd, sOr, sNot, sIfE, tBnd, bnd, sOp, sUn, sVar, sC, vw, settle, gEq, gNe, gLt, gLe, gGt, gGe, gInt2, sRet, sSkip, sChain, gNeg, PyData.eqv, SeqAt.shaped, PyData.canLay0, PyData.depth, *])
theorem gLt_eq (i j : Int) : gLt (.int i) (.int j) = some (.val (.bool (decide (i < j)))) := rfl
theorem whole_at {e : Env} {i : Nat} {z : Int} (h : e[i]? = some (.val (.int z))) : sCall f_is_whole [(sVar i)] e = some (.val (.bool true), e) := by
  have : f_is_whole [.val (.int z)] = some (.val (.bool true), [.val (.int z)]) := rfl
  simp [sCall, sArgs, sVar_val h, settle, slotOk, slotsApart, argSls, argSl, this, writeBack]
theorem fi_step (A : Sl) (L x : Int) (i : Nat) (hi : i < 8) (h1 : -L ≤ x) (h2 : x ≤ L) : (sSeq (sIf (sOp gEq (sVar 2) (sC (.int 8))) (sRet (sVar 2)) sSkip)
    (sIf (sOr (sNot (sCall f_is_whole [(sVar 3)])) (sNot (sChain gLe gLe (sUn gNeg (sVar 1)) (sVar 3) (sVar 1)))) (sRet (sVar 2)) sSkip)) [A, .val (.int L), .val (.int (i : Int)), .val (.int x)] = some (.nx, [A, .val (.int L), .val (.int (i : Int)), .val (.int x)]) := by
  have w := whole_at (e := [A, .val (.int L), .val (.int (i : Int)), .val (.int x)]) (i := 3) (z := x) rfl
  have n : ¬ (i : Int) = 8 := by omega
  walk_at "ev"
theorem first_invalid_spec {l : List Int} {L : Int} (hl : l.length ≤ 8) (h : ∀ x ∈ l, -L ≤ x ∧ x ≤ L) : f_first_invalid [.val (.tuple (l.map PyData.int)), .val (.int L)] = some (.val .none, [.val (.tuple (l.map PyData.int)), .val (.int L)]) := by
  obtain ⟨e', q, i, l', w1, w2, _, _, _, _, _, rfl⟩ := forL_ind (g := gTupD [(gNm 2), (gNm 3)]) (c := fun _ => true) (b := (sSeq (sIf (sOp gEq (sVar 2) (sC (.int 8))) (sRet (sVar 2)) sSkip)
    (sIf (sOr (sNot (sCall f_is_whole [(sVar 3)])) (sNot (sChain gLe gLe (sUn gNeg (sVar 1)) (sVar 3) (sVar 1)))) (sRet (sVar 2)) sSkip)))
    (I := fun items e => ∃ (i : Nat) (l' : List Int) (w1 w2 : Sl), items = numbered i (l'.map PyData.int) ∧ i + l'.length ≤ 8 ∧ (∀ x ∈ l', -L ≤ x ∧ x ≤ L) ∧ Lt w1 ∧ Lt w2 ∧ e = [.val (.tuple (l.map PyData.int)), .val (.int L), w1, w2])
    (items := numbered 0 (l.map PyData.int)) (e := [.val (.tuple (l.map PyData.int)), .val (.int L), .un, .un]) (fun d ds e he => by
      obtain ⟨i, l', w1, w2, h1, h2, h3, h4, h5, rfl⟩ := he
      cases l' with
      | nil => cases h1
      | cons x l' =>
        cases h1
        have hx := h3 x List.mem_cons_self
        rw [List.length_cons] at h2
        refine ⟨[.val (.tuple (l.map PyData.int)), .val (.int L), .val (.int (i : Int)), .val (.int x)], _, ?_, fi_step _ L x i (by omega) hx.1 hx.2, rfl, i + 1, l', _, _, rfl, by omega, fun y hy => h3 y (List.mem_cons_of_mem _ hy), ?_, ?_, rfl⟩
        · cases w1 with
          | own p xs => exact h4.elim
          | _ =>
            cases w2 with
            | own p xs => exact h5.elim
            | _ => rfl
        · trivial
        · trivial) ⟨0, l, .un, .un, rfl, by omega, h, trivial, trivial, rfl⟩
  refine def_val (e' := [.val (.tuple (l.map PyData.int)), .val (.int L), w1, w2]) ?_ rfl
  refine (seq_nx ((sFor_ok (fi := sEnum (sVar 0)) rfl).trans q)).trans ?_
  rfl
theorem call1 {φ : FnSem} {i : Nat} {e : Env} {d : D} {r : Rs} (h : e[i]? = some (.val d)) (hf : φ [.val d] = some (r, [.val d])) (hr : ∀ k, r ≠ .slot k) : sCall φ [(sVar i)] e = some (r, e) := by
  cases r with
  | slot k => exact absurd rfl (hr k)
  | _ => simp [sCall, sArgs, sVar_val h, settle, slotOk, slotsApart, argSls, argSl, hf, writeBack]
theorem call2 {φ : FnSem} {fa fb : Ev} {e : Env} {d d2 : D} {r : Rs} (h : fa e = some (.val d, e)) (h2 : fb e = some (.val d2, e)) (hf : φ [.val d, .val d2] = some (r, [.val d, .val d2])) (hr : ∀ k, r ≠ .slot k) : sCall φ [fa, fb] e = some (r, e) := by
  cases r with
  | slot k => exact absurd rfl (hr k)
  | _ => simp [sCall, sArgs, h, h2, settle, slotOk, slotsApart, argSls, argSl, hf, writeBack]
theorem not_tup {i : Nat} {e : Env} {xs : List D} (h : e[i]? = some (.val (.tuple xs))) : sNot (sIsi "tuple" (sVar i)) e = some (.val (.bool false), e) := by
  have : sIsi "tuple" (sVar i) e = some (.val (.bool true), e) := by
    unfold sIsi sUn
    rw [bnd_val (sVar_val h)]
    rfl
  unfold sNot
  simp [tBnd, this, bnd]
theorem not_none {i : Nat} {e : Env} (h : e[i]? = some (.val .none)) : sOp gNotN (sVar i) (sC .none) e = some (.val (.bool false), e) := (sOp_ok (sVar_val h) rfl).trans rfl
theorem check_ring_spec {ms : List Int} (h : Mk ms) : f_check_ring [.val (.tuple (ms.map PyData.int))] = some (.val .none, [.val (.tuple (ms.map PyData.int))]) := by
  obtain ⟨h1, h2, h3⟩ := h
  refine def_nx (e' := [.val (.tuple (ms.map PyData.int)), .val .none]) ?_ rfl
  refine (seq_nx (e1 := [.val (.tuple (ms.map PyData.int)), .un]) (if_f (not_tup rfl))).trans ?_
  refine (seq_nx (e1 := [.val (.tuple (ms.map PyData.int)), .val .none]) (setv_ok (call2 (fa := sVar 0) rfl rfl (first_invalid_spec h2 h3) nofun) rfl)).trans ?_
  refine (seq_nx (e1 := [.val (.tuple (ms.map PyData.int)), .val .none]) (if_f (not_none rfl))).trans ?_
  refine if_f ?_
  refine (sOp_ok (len_at rfl) rfl).trans ?_
  rw [List.length_map]
  have : gLt (.int ms.length) (.int 3) = some (.val (.bool false)) := by
    rw [gLt_eq, decide_eq_false (by omega)]
  rw [this]
  rfl
/-! #### the steps add up to nothing -/
theorem dAt_lt {ms : List Int} {i : Nat} (h : i + 1 < ms.length) : dAt ms i = ms.getD (i + 1) 0 - ms.getD i 0 := by unfold dAt; rw [Nat.mod_eq_of_lt h]
theorem getD_mem {ms : List Int} {i : Nat} (h : i < ms.length) : ms.getD i 0 ∈ ms := by
  rw [List.getD_eq_getElem?_getD, List.getElem?_eq_getElem h]
  exact List.getElem_mem h
theorem atI_last {α : Type} {xs : List α} {v : α} (h : xs[xs.length - 1]? = some v) : atI xs (-1) = some v := by
  have hl : xs.length ≠ 0 := by
    intro z
    rw [List.length_eq_zero_iff.mp z] at h
    simp at h
  unfold atI ixN
  rw [if_neg (by omega), if_pos (by omega)]
  have : ((-1 : Int) + (xs.length : Int)).toNat = xs.length - 1 := by omega
  simp only [this, Option.bind_some]
  exact h
theorem not_true {f : Ev} {e : Env} (h : f e = some (.val (.bool true), e)) : sNot f e = some (.val (.bool false), e) := by
  unfold sNot
  simp [tBnd, bnd, h]
theorem sFn2 {g : List D → Option Rs} {fa fb : Ev} {e : Env} {da db : D} (h : fa e = some (.val da, e)) (h2 : fb e = some (.val db, e)) : sFn g [fa, fb] e = (g [da, db]).map fun r => (r, e) := by
  have : sArgs [fa, fb] e = some (.ok [.val da, .val db], e) := by simp [sArgs, h, h2, settle, slotOk]
  unfold sFn
  rw [this]
  simp [vws, vw]
theorem setv_to {j : Nat} {fe : Ev} {e e1 e2 : Env} {d : D} (h : fe e = some (.val d, e1)) (hn : noPin e1 j = true) (he : e1.set j (.val d) = e2) : sSet j fe e = some (.nx, e2) := he ▸ setv_ok h hn
def gfold (d0 : Int) (l : List Int) (m : Nat) : Nat := l.foldl (fun m d => Nat.gcd m (d - d0).natAbs) m
theorem loop_fold {d0 : Int} {g : Tgt} {b : Stm} {F : Nat → Env → Prop} (hb : ∀ (d : Int) (m : Nat) e, F m e → ∃ e1 e2, g (.int d) e = some e1 ∧ b e1 = some (.nx, e2) ∧ F (Nat.gcd m (d - d0).natAbs) e2) :
    ∀ {ds : List Int} {m : Nat} {e : Env}, F m e → ∃ e', forL g (fun _ => true) b (ds.map PyData.int) e = some (.nx, e') ∧ F (gfold d0 ds m) e'
  | [], m, e, h => ⟨e, by rw [List.map_nil]; unfold forL; rfl, h⟩
  | d :: ds, m, e, h => by
    obtain ⟨e1, e2, h1, h2, h3⟩ := hb d m e h
    obtain ⟨e', h4, h5⟩ := loop_fold (d0 := d0) hb (ds := ds) h3
    refine ⟨e', ?_, h5⟩
    rw [List.map_cons]
    unfold forL
    rw [h1]
    simp only
    rw [h2]
    simp only
    rw [← h4]
    rfl
theorem ds0 {ms : List Int} (h : Mk ms) : 0 < (ds ms).length := by rw [ds_len]; have := h.1; omega
theorem step_modulus_spec {ls : List Int} (h0 : 0 < ls.length) : f_step_modulus [.val (.tuple (ls.map PyData.int))] = some (.val (.int (gfold (ls.getD 0 0) ls 0)), [.val (.tuple (ls.map PyData.int))]) := by
  obtain ⟨e', q, w, hw, rfl⟩ := loop_fold (d0 := ls.getD 0 0) (g := gNm 2) (b := sSet 1 (sFn gGcd [(sVar 1), (sOp gSub (sVar 2) (sOp gIx (sVar 0) (sC (.int 0))))]))
    (F := fun m e => ∃ w, Lt w ∧ e = [.val (.tuple (ls.map PyData.int)), .val (.int (m : Int)), w]) (fun d m e he => by
      obtain ⟨w, hw, rfl⟩ := he
      refine ⟨[.val (.tuple (ls.map PyData.int)), .val (.int (m : Int)), .val (.int d)], _, ?_, setv_to (e1 := [.val (.tuple (ls.map PyData.int)), .val (.int (m : Int)), .val (.int d)]) (d := .int (Nat.gcd m (d - ls.getD 0 0).natAbs : Nat)) ?_ rfl rfl, .val (.int d), trivial, rfl⟩
      · cases w with
        | own p xs => exact hw.elim
        | _ => rfl
      · have a := ix_at (j := 0) (i := 0) (e := [.val (.tuple (ls.map PyData.int)), .val (.int (m : Int)), .val (.int d)]) (f := sC (.int 0)) rfl rfl rfl h0
        refine (sFn2 (da := .int (m : Int)) (db := .int (d - ls.getD 0 0)) rfl ((sOp_ok (da := .int d) rfl a).trans rfl)).trans ?_
        rfl) (ds := ls) (m := 0) (e := [.val (.tuple (ls.map PyData.int)), .val (.int ((0 : Nat) : Int)), .un]) ⟨.un, trivial, rfl⟩
  refine def_val (e' := [.val (.tuple (ls.map PyData.int)), .val (.int (gfold (ls.getD 0 0) ls 0 : Nat)), w]) ?_ rfl
  refine (seq_nx (e1 := [.val (.tuple (ls.map PyData.int)), .val (.int ((0 : Nat) : Int)), .un]) (setv_to (d := .int 0) rfl rfl rfl)).trans ?_
  refine (seq_nx ((sFor_ok (fi := sSeqIt (sVar 0)) rfl).trans q)).trans ?_
  exact ret_ok (sVar_val rfl) nofun
theorem find_modulus_spec {ms : List Int} (h : Mk ms) : f_find_modulus [.val (.tuple (ms.map PyData.int))] = some (.val (.int (gfold ((ds ms).getD 0 0) (ds ms) 0)), [.val (.tuple (ms.map PyData.int))]) := by
  have key : WF f_find_modulus [.val (.tuple (ms.map PyData.int))] (fun r o => r = .val (.int (gfold ((ds ms).getD 0 0) (ds ms) 0)) ∧ o = [.val (.tuple (ms.map PyData.int))]) :=
    wf_def (ws_seq (ws_expr (we_call (wa_cons (we_var rfl (argK_val (wa_nil (argK2_val (callK_v1 (wf_eq (check_ring_spec h) (retV_val (exK_val (seqK_nx (ws_ret (we_call (wa_cons (we_call (wa_cons (we_var rfl (argK_val (wa_nil (argK2_val (callK_v1 (wf_eq (steps_spec h.2.1) (retV_val (argK_val (wa_nil (argK2_val (callK_v1 (wf_eq (step_modulus_spec (ds0 h)) (retV_val (rtK_val (defK_val ⟨rfl, rfl⟩)))))))))))))))))))))))))))))))))
  obtain ⟨r, o, h1, rfl, rfl⟩ := key
  exact h1
theorem isi_val {T : String} {i : Nat} {e : Env} {d : D} {b : Bool} (h : e[i]? = some (.val d)) (hb : kitB (tyD d) T = some b) (hn : noDict d = true := by rfl) : sIsi T (sVar i) e = some (.val (.bool b), e) := by
  unfold sIsi sUn
  rw [bnd_val (sVar_val h)]
  simp [settle, vw, hb, gIsT, hn]
theorem and_t {fa fb : Ev} {e e1 : Env} {x : Option (Rs × Env)} (ha : fa e = some (.val (.bool true), e1)) (hb : fb e1 = x) : sAnd fa fb e = x := by
  unfold sAnd tBnd
  rw [bnd_val ha, ← hb]
  rfl
theorem setn_to {j : Nat} {fe : Ev} {e e1 e2 : Env} {xs : List D} (h : fe e = some (.new xs, e1)) (hn : noPin e1 j = true) (he : e1.set j (.own false xs) = e2) : sSet j fe e = some (.nx, e2) := he ▸ setn_ok h hn
theorem eqvAll_ints : ∀ a b : List Int, PyData.eqvAll (a.map PyData.int) (b.map PyData.int) = decide (a = b)
  | [], [] => by simp [PyData.eqvAll]
  | [], y :: ys => by simp [PyData.eqvAll]
  | x :: xs, [] => by simp [PyData.eqvAll]
  | x :: xs, y :: ys => by
    have := eqvAll_ints xs ys
    simp only [List.map_cons, PyData.eqvAll, PyData.eqv, this]
    by_cases h : x = y <;> by_cases h2 : xs = ys <;> simp [h, h2]
theorem canLay_ints : ∀ a : List Int, PyData.canLayAll0 (a.map PyData.int) = true
  | [] => by simp [PyData.canLayAll0]
  | x :: xs => by simp [PyData.canLayAll0, PyData.canLay0, canLay_ints xs]
theorem depthAll_ints : ∀ a : List Int, PyData.depthAll (a.map PyData.int) ≤ 1
  | [] => by simp [PyData.depthAll]
  | x :: xs => by
    have := depthAll_ints xs
    simp only [List.map_cons, PyData.depthAll, PyData.depth]
    omega
theorem shaped_l (a : List Int) : SeqAt.shaped (.list (a.map PyData.int)) = true := by
  have := depthAll_ints a
  simp only [SeqAt.shaped, PyData.canLay0, canLay_ints, PyData.depth, Bool.true_and]
  exact decide_eq_true (by omega)
theorem shaped_t (a : List Int) : SeqAt.shaped (.tuple (a.map PyData.int)) = true := by
  have := depthAll_ints a
  simp only [SeqAt.shaped, PyData.canLay0, canLay_ints, PyData.depth, Bool.true_and]
  exact decide_eq_true (by omega)
theorem gNe_l (a b : List Int) : gNe (.list (a.map PyData.int)) (.list (b.map PyData.int)) = some (.val (.bool (!decide (a = b)))) := by
  unfold gNe
  rw [if_pos ⟨shaped_l a, shaped_l b⟩]
  simp only [PyData.eqv, eqvAll_ints]
theorem gNe_t (a b : List Int) : gNe (.tuple (a.map PyData.int)) (.tuple (b.map PyData.int)) = some (.val (.bool (!decide (a = b)))) := by
  unfold gNe
  rw [if_pos ⟨shaped_t a, shaped_t b⟩]
  simp only [PyData.eqv, eqvAll_ints]
theorem flat_ints (a : List Int) : (a.map PyData.int).all flatD = true := by
  induction a with
  | nil => rfl
  | cons x a ih => rw [List.map_cons, List.all_cons, ih]; rfl
theorem any_ints (a : List Int) (x : Int) : ((a.map PyData.int).any fun y => PyData.eqv y (.int x)) = a.any (· == x) := by
  induction a with
  | nil => rfl
  | cons y a ih => rw [List.map_cons, List.any_cons, List.any_cons, ih]; rfl
theorem gIn_t (a : List Int) (x : Int) : gInF false (.int x) (.tuple (a.map PyData.int)) = some (.val (.bool (a.any (· == x)))) := by
  unfold gInF
  simp only
  rw [if_pos ⟨rfl, flat_ints a⟩, any_ints]
  rfl
/-! ### one reflection -/
def prv (ms : List Int) (i : Nat) : Int := if i = 0 then ms.getD (ms.length - 1) 0 else ms.getD (i - 1) 0
def rm (ms : List Int) (i : Nat) : Int := prv ms i + ms.getD ((i + 1) % ms.length) 0 - ms.getD i 0
def refl (ms : List Int) (i : Nat) : List Int := ms.set i (rm ms i)
theorem refl_len (ms : List Int) (i : Nat) : (refl ms i).length = ms.length := by unfold refl; rw [List.length_set]
def refls (ms : List Int) (is : List Nat) : List Int := is.foldl refl ms
theorem refls_len : ∀ (is : List Nat) (ms : List Int), (refls ms is).length = ms.length
  | [], ms => rfl
  | i :: is, ms => (refls_len is (refl ms i)).trans (refl_len ms i)
theorem atI_prev {ms : List Int} {i : Nat} (h : i < ms.length) : atI (ms.map PyData.int) ((i : Int) - 1) = some (.int (prv ms i)) := by
  unfold prv
  split
  · rename_i z
    subst z
    refine atI_last ?_
    rw [List.length_map]
    exact ints_at (by omega)
  · exact atI_at (j := i - 1) (by omega) (ints_at (by omega))
theorem atI_here {ms : List Int} {i : Nat} (h : i < ms.length) : atI (ms.map PyData.int) (i : Int) = some (.int (ms.getD i 0)) := atI_at rfl (ints_at h)
/-- what a slot gives when it is read as a sequence of ints -/
structure Seq (A : Sl) (ms : List Int) : Prop where
  ix : ∀ {e : Env} {j : Nat} {f : Ev} {z : Int} {d : D}, e[j]? = some A → f e = some (.val (.int z), e) → atI (ms.map PyData.int) z = some d → sOp gIx (sVar j) f e = some (.val d, e)
  len : ∀ {e : Env} {j : Nat}, e[j]? = some A → sFn gLen [(sVar j)] e = some (.val (.int ms.length), e)
theorem seq_t (ms : List Int) : Seq (.val (.tuple (ms.map PyData.int))) ms := ⟨fun h hf ha => by
  rw [sOp_ok (sVar_val h) hf]
  unfold gIx
  simp only
  rw [ha]
  rfl, fun h => by rw [len_at h, List.length_map]⟩
theorem seq_o (p : Bool) (ms : List Int) : Seq (.own p (ms.map PyData.int)) ms := ⟨fun {e j f z d} h hf ha => by
  rw [sOp_eq (sVar_own h) nofun hf nofun (da := .list (ms.map PyData.int)) (db := .int z) (by simp [settle, vw, h]) rfl]
  unfold gIx
  simp only
  rw [ha]
  rfl, fun {e j} h => by
  rw [sFn1 (sVar_own h) nofun (by simp [settle, slotOk, isOwn, h]) (d := .list (ms.map PyData.int)) (by simp [settle, vw, h])]
  simp [gLen]⟩
theorem gMod_ok {i j : Int} (h : 0 < j) : gMod (.int i) (.int j) = some (.val (.int (i % j))) := by
  unfold gMod gInt2
  simp only
  rw [if_pos h]
  rfl
theorem rmark {A : Sl} {ms : List Int} {i : Nat} (S : Seq A ms) (h : i < ms.length) (ho : ∀ d w, outsOf [A, .val d] [A, .val d, w] = [A, .val d]) : f_reflected_mark [A, .val (.int (i : Int))] = some (.val (.int (rm ms i)), [A, .val (.int (i : Int))]) := by
  refine def_val (e' := [A, .val (.int (i : Int)), .val (.int (((i : Int) + 1) % ms.length))]) ?_ (by
    have := ho (.int (i : Int)) (.val (.int (((i : Int) + 1) % ms.length)))
    exact this)
  have a1 : sOp gMod (sOp gAdd (sVar 1) (sC (.int 1))) (sFn gLen [(sVar 0)]) [A, .val (.int (i : Int)), .un] = some (.val (.int (((i : Int) + 1) % ms.length)), [A, .val (.int (i : Int)), .un]) := by
    refine (sOp_ok (da := .int ((i : Int) + 1)) ((sOp_ok (da := .int (i : Int)) rfl rfl).trans rfl) (S.len rfl)).trans ?_
    rw [gMod_ok (by omega)]
    rfl
  refine (seq_nx (e1 := [A, .val (.int (i : Int)), .val (.int (((i : Int) + 1) % ms.length))]) (setv_to a1 rfl rfl)).trans ?_
  have b1 := S.ix (e := [A, .val (.int (i : Int)), .val (.int (((i : Int) + 1) % ms.length))]) (j := 0) (f := sOp gSub (sVar 1) (sC (.int 1))) (z := (i : Int) - 1) rfl ((sOp_ok (da := .int (i : Int)) rfl rfl).trans rfl) (atI_prev h)
  have b2 := S.ix (e := [A, .val (.int (i : Int)), .val (.int (((i : Int) + 1) % ms.length))]) (j := 0) (f := sVar 2) rfl rfl (d := .int (ms.getD ((i + 1) % ms.length) 0)) (atI_at (j := (i + 1) % ms.length) (by rw [Int.natCast_emod]; rfl) (ints_at (Nat.mod_lt _ (by omega))))
  have b3 := S.ix (e := [A, .val (.int (i : Int)), .val (.int (((i : Int) + 1) % ms.length))]) (j := 0) (f := sVar 1) rfl rfl (atI_here h)
  refine ret_ok ?_ nofun
  exact (sOp_ok ((sOp_ok b1 b2).trans rfl) b3).trans rfl


def sI (is : List Nat) : List Int := is.map fun i : Nat => (i : Int)
theorem setIx_ok {j : Nat} {fi fe : Ev} {e : Env} {p : Bool} {xs : List D} {d : D} {z : Int} {n : Nat} (he : fe e = some (.val d, e)) (hj : e[j]? = some (.own p xs)) (hi : fi e = some (.val (.int z), e)) (hx : ixN xs.length z = some n) : sSetIx j fi fe e = some (.nx, e.set j (.own p (xs.set n d))) := by
  unfold sSetIx
  rw [he]
  simp only [tk]
  rw [hj]
  simp only
  rw [hi]
  simp only
  rw [hj]
  simp only
  rw [hx]
/-- a call upon an own list and plain data, that changes nothing -/
theorem call_ov {φ : FnSem} {i : Nat} {fb : Ev} {e : Env} {p : Bool} {xs : List D} {d d2 : D} (hi : e[i]? = some (.own p xs)) (h2 : fb e = some (.val d2, e)) (hf : φ [.own true xs, .val d2] = some (.val d, [.own true xs, .val d2])) : sCall φ [(sVar i), fb] e = some (.val d, e) := by
  have := set_same hi
  simp [sCall, sArgs, sVar_own hi, h2, settle, slotOk, isOwn, hi, slotsApart, noSlot, argSls, argSl, hf, writeBack, this]
theorem call3 {φ : FnSem} {fa fb fc : Ev} {e : Env} {d1 d2 d3 : D} {r : Rs} (h1 : fa e = some (.val d1, e)) (h2 : fb e = some (.val d2, e)) (h3 : fc e = some (.val d3, e)) (hf : φ [.val d1, .val d2, .val d3] = some (r, [.val d1, .val d2, .val d3])) (hr : ∀ k, r ≠ .slot k) : sCall φ [fa, fb, fc] e = some (r, e) := by
  cases r with
  | slot k => exact absurd rfl (hr k)
  | _ => simp [sCall, sArgs, h1, h2, h3, settle, slotOk, slotsApart, argSls, argSl, hf, writeBack]
/-! ### reflect_seats -/
theorem refl_step {A S : Sl} {cur : List Int} {i : Nat} (h : i < cur.length) : sSetIx 2 (sVar 3) (sCall f_reflected_mark [(sVar 2), (sVar 3)]) [A, S, .own false (cur.map PyData.int), .val (.int (i : Int))] = some (.nx, [A, S, .own false ((refl cur i).map PyData.int), .val (.int (i : Int))]) := by
  have c := call_ov (i := 2) (e := [A, S, .own false (cur.map PyData.int), .val (.int (i : Int))]) (fb := sVar 3) rfl rfl (rmark (seq_o true cur) h fun _ _ => rfl)
  refine (setIx_ok (n := i) c rfl rfl (ixN_at rfl (by rw [List.length_map]; exact h))).trans ?_
  unfold refl
  rw [List.map_set]
  rfl
theorem reflect_seats_spec {ms : List Int} {is : List Nat} (h : ∀ i ∈ is, i < ms.length) : f_reflect_seats [.val (.tuple (ms.map PyData.int)), .val (.list ((sI is).map PyData.int))] = some (.val (.tuple ((refls ms is).map PyData.int)), [.val (.tuple (ms.map PyData.int)), .val (.list ((sI is).map PyData.int))]) := by
  obtain ⟨e', q, is', cur, w, h1, h2, h3, h4, rfl⟩ := forL_ind (g := gNm 3) (c := fun _ => true) (b := sSetIx 2 (sVar 3) (sCall f_reflected_mark [(sVar 2), (sVar 3)]))
    (I := fun items e => ∃ (is' : List Nat) (cur : List Int) (w : Sl), items = (sI is').map PyData.int ∧ (∀ i ∈ is', i < cur.length) ∧ refls cur is' = refls ms is ∧ Lt w ∧ e = [.val (.tuple (ms.map PyData.int)), .val (.list ((sI is).map PyData.int)), .own false (cur.map PyData.int), w])
    (items := (sI is).map PyData.int) (e := [.val (.tuple (ms.map PyData.int)), .val (.list ((sI is).map PyData.int)), .own false (ms.map PyData.int), .un]) (fun d dss e he => by
      obtain ⟨is', cur, w, h1, h2, h3, h4, rfl⟩ := he
      cases is' with
      | nil => cases h1
      | cons i is' =>
        cases h1
        refine ⟨[.val (.tuple (ms.map PyData.int)), .val (.list ((sI is).map PyData.int)), .own false (cur.map PyData.int), .val (.int (i : Int))], _, ?_, refl_step (h2 i List.mem_cons_self), rfl, is', refl cur i, .val (.int (i : Int)), rfl, fun k hk => ?_, h3, trivial, rfl⟩
        · cases w with
          | own p xs => exact h4.elim
          | _ => rfl
        · rw [refl_len]
          exact h2 k (List.mem_cons_of_mem _ hk)) ⟨is, ms, .un, rfl, h, rfl, trivial, rfl⟩
  have h5 : is' = [] := by
    cases is' with
    | nil => rfl
    | cons i r => cases h1
  subst h5
  have h6 : cur = refls ms is := h3
  rw [h6] at q
  refine def_val (e' := [.val (.tuple (ms.map PyData.int)), .val (.list ((sI is).map PyData.int)), .own false ((refls ms is).map PyData.int), w]) ?_ rfl
  refine (seq_nx (e1 := [.val (.tuple (ms.map PyData.int)), .val (.list ((sI is).map PyData.int)), .own false (ms.map PyData.int), .un]) (setn_to ((sFn1 (sVar_val rfl) nofun rfl rfl).trans rfl) rfl rfl)).trans ?_
  refine (seq_nx ((sFor_ok (fi := sSeqIt (sVar 1)) rfl).trans q)).trans ?_
  refine ret_ok ?_ nofun
  exact (sFn1 (sVar_own rfl) nofun rfl rfl).trans rfl
/-! ### the checks -/
theorem is_seat_spec {x n : Int} (h0 : 0 ≤ x) (h1 : x < n) : f_is_seat [.val (.int x), .val (.int n)] = some (.val (.bool true), [.val (.int x), .val (.int n)]) := by
  refine def_val (e' := [.val (.int x), .val (.int n)]) (ret_ok (and_t (whole_at rfl) ?_) nofun) rfl
  unfold sChain
  rw [bnd_val (d := .int 0) rfl, bnd_val (d := .int x) rfl]
  have a1 : gLe (.int 0) (.int x) = some (.val (.bool true)) := by
    show some (Rs.val (PyData.bool (decide ((0 : Int) ≤ x)))) = _
    rw [decide_eq_true h0]
  have a2 : gLt (.int x) (.int n) = some (.val (.bool true)) := by rw [gLt_eq, decide_eq_true h1]
  simp [settle, vw, a1, a2, bnd, sVar]
theorem or_f {fa fb : Ev} {e e1 : Env} {x : Option (Rs × Env)} (ha : fa e = some (.val (.bool false), e1)) (hb : fb e1 = x) : sOr fa fb e = x := by
  unfold sOr tBnd
  rw [bnd_val ha, ← hb]
  rfl
/-- ascending seats of a ring -/
structure Pn (P : List Int) (n : Nat) : Prop where
  up : P.Pairwise (· < ·)
  ran : ∀ x ∈ P, 0 ≤ x ∧ x < n
theorem pin_step {A : Sl} {x lo : Int} {n : Nat} (h0 : 0 ≤ x) (h1 : x < n) (h2 : lo ≤ x) : (sSeq (sIf (sOr (sNot (sCall f_is_seat [(sVar 3), (sVar 1)])) (sOp gLt (sVar 3) (sVar 2))) sNever sSkip)
    (sSet 2 (sOp gAdd (sVar 3) (sC (.int 1))))) [A, .val (.int n), .val (.int lo), .val (.int x)] = some (.nx, [A, .val (.int n), .val (.int (x + 1)), .val (.int x)]) := by
  have c := not_true (call2 (e := [A, .val (.int n), .val (.int lo), .val (.int x)]) (fa := sVar 3) (fb := sVar 1) rfl rfl (is_seat_spec h0 h1) nofun)
  have d : sOp gLt (sVar 3) (sVar 2) [A, .val (.int n), .val (.int lo), .val (.int x)] = some (.val (.bool false), [A, .val (.int n), .val (.int lo), .val (.int x)]) := by
    refine (sOp_ok (da := .int x) (db := .int lo) rfl rfl).trans ?_
    rw [gLt_eq, decide_eq_false (by omega)]
    rfl
  refine (seq_nx (e1 := [A, .val (.int n), .val (.int lo), .val (.int x)]) (if_f (or_f c d))).trans ?_
  exact setv_to ((sOp_ok (da := .int x) rfl rfl).trans rfl) rfl rfl
theorem check_pins_spec {P : List Int} {n : Nat} (h : Pn P n) : f_check_pins [.val (.tuple (P.map PyData.int)), .val (.int n)] = some (.val .none, [.val (.tuple (P.map PyData.int)), .val (.int n)]) := by
  obtain ⟨e', q, P', lo, w, _, _, _, _, rfl⟩ := forL_ind (g := gNm 3) (c := fun _ => true) (b := (sSeq (sIf (sOr (sNot (sCall f_is_seat [(sVar 3), (sVar 1)])) (sOp gLt (sVar 3) (sVar 2))) sNever sSkip)
    (sSet 2 (sOp gAdd (sVar 3) (sC (.int 1))))))
    (I := fun items e => ∃ (P' : List Int) (lo : Int) (w : Sl), items = P'.map PyData.int ∧ (∀ x ∈ P', lo ≤ x ∧ 0 ≤ x ∧ x < n) ∧ P'.Pairwise (· < ·) ∧ Lt w ∧ e = [.val (.tuple (P.map PyData.int)), .val (.int n), .val (.int lo), w])
    (items := P.map PyData.int) (e := [.val (.tuple (P.map PyData.int)), .val (.int n), .val (.int 0), .un]) (fun d dss e he => by
      obtain ⟨P', lo, w, h1, h2, h3, h4, rfl⟩ := he
      cases P' with
      | nil => cases h1
      | cons x P' =>
        cases h1
        have hx := h2 x List.mem_cons_self
        have h5 := List.pairwise_cons.mp h3
        refine ⟨[.val (.tuple (P.map PyData.int)), .val (.int n), .val (.int lo), .val (.int x)], _, ?_, pin_step hx.2.1 hx.2.2 hx.1, rfl, P', x + 1, .val (.int x), rfl, fun y hy => ?_, h5.2, trivial, rfl⟩
        · cases w with
          | own p xs => exact h4.elim
          | _ => rfl
        · have := h2 y (List.mem_cons_of_mem _ hy)
          have := h5.1 y hy
          omega) ⟨P, 0, .un, rfl, fun x hx => ⟨(h.ran x hx).1, h.ran x hx⟩, h.up, trivial, rfl⟩
  refine def_nx (e' := [.val (.tuple (P.map PyData.int)), .val (.int n), .val (.int lo), w]) ?_ rfl
  refine (seq_nx (e1 := [.val (.tuple (P.map PyData.int)), .val (.int n), .un, .un]) (if_f (not_tup rfl))).trans ?_
  refine (seq_nx (e1 := [.val (.tuple (P.map PyData.int)), .val (.int n), .val (.int 0), .un]) (setv_to rfl rfl rfl)).trans ?_
  exact (sFor_ok (fi := sSeqIt (sVar 0)) rfl).trans q
theorem move_step {A : Sl} {P : List Int} {w : Sl} {i n : Nat} (h1 : i < n) (h2 : P.any (· == (i : Int)) = false) : (sSeq (sIf (sNot (sCall f_is_seat [(sVar 4), (sVar 1)])) sNever sSkip)
    (sIf (sOp (gInF false) (sVar 4) (sVar 2)) sNever sSkip)) [A, .val (.int n), .val (.tuple (P.map PyData.int)), w, .val (.int (i : Int))] = some (.nx, [A, .val (.int n), .val (.tuple (P.map PyData.int)), w, .val (.int (i : Int))]) := by
  have c := not_true (call2 (e := [A, .val (.int n), .val (.tuple (P.map PyData.int)), w, .val (.int (i : Int))]) (fa := sVar 4) (fb := sVar 1) rfl rfl (is_seat_spec (x := (i : Int)) (n := (n : Int)) (by omega) (by omega)) nofun)
  refine (seq_nx (e1 := [A, .val (.int n), .val (.tuple (P.map PyData.int)), w, .val (.int (i : Int))]) (if_f c)).trans ?_
  refine if_f ?_
  refine (sOp_ok (da := .int (i : Int)) (db := .tuple (P.map PyData.int)) rfl rfl).trans ?_
  rw [gIn_t, h2]
  rfl
theorem check_moves_spec {P : List Int} {is : List Nat} {n : Nat} (h : ∀ i ∈ is, i < n ∧ P.any (· == (i : Int)) = false) : f_check_moves [.val (.list ((sI is).map PyData.int)), .val (.int n), .val (.tuple (P.map PyData.int))] = some (.val .none, [.val (.list ((sI is).map PyData.int)), .val (.int n), .val (.tuple (P.map PyData.int))]) := by
  obtain ⟨e', q, k, is', w, w2, _, _, _, _, rfl⟩ := forL_ind (g := gTupD [(gNm 3), (gNm 4)]) (c := fun _ => true) (b := (sSeq (sIf (sNot (sCall f_is_seat [(sVar 4), (sVar 1)])) sNever sSkip)
    (sIf (sOp (gInF false) (sVar 4) (sVar 2)) sNever sSkip)))
    (I := fun items e => ∃ (k : Nat) (is' : List Nat) (w w2 : Sl), items = numbered k ((sI is').map PyData.int) ∧ (∀ i ∈ is', i < n ∧ P.any (· == (i : Int)) = false) ∧ Lt w ∧ Lt w2 ∧ e = [.val (.list ((sI is).map PyData.int)), .val (.int n), .val (.tuple (P.map PyData.int)), w, w2])
    (items := numbered 0 ((sI is).map PyData.int)) (e := [.val (.list ((sI is).map PyData.int)), .val (.int n), .val (.tuple (P.map PyData.int)), .un, .un]) (fun d dss e he => by
      obtain ⟨k, is', w, w2, h1, h2, h3, h4, rfl⟩ := he
      cases is' with
      | nil => cases h1
      | cons i is' =>
        cases h1
        have hx := h2 i List.mem_cons_self
        refine ⟨[.val (.list ((sI is).map PyData.int)), .val (.int n), .val (.tuple (P.map PyData.int)), .val (.int (k : Int)), .val (.int (i : Int))], _, ?_, move_step hx.1 hx.2, rfl, k + 1, is', .val (.int (k : Int)), .val (.int (i : Int)), rfl, fun y hy => h2 y (List.mem_cons_of_mem _ hy), trivial, trivial, rfl⟩
        cases w with
        | own p xs => exact h3.elim
        | _ =>
          cases w2 with
          | own p xs => exact h4.elim
          | _ => rfl) ⟨0, is, .un, .un, rfl, h, trivial, trivial, rfl⟩
  refine def_nx (e' := [.val (.list ((sI is).map PyData.int)), .val (.int n), .val (.tuple (P.map PyData.int)), w, w2]) ?_ rfl
  refine (seq_nx (e1 := [.val (.list ((sI is).map PyData.int)), .val (.int n), .val (.tuple (P.map PyData.int)), .un, .un]) (if_f (not_true (isi_val rfl rfl)))).trans ?_
  exact (sFor_ok (fi := sEnum (sVar 0)) rfl).trans q
theorem apply_moves_spec {ms : List Int} {P : List Int} {is : List Nat} (hm : Mk ms) (hP : Pn P ms.length) (h : ∀ i ∈ is, i < ms.length ∧ P.any (· == (i : Int)) = false) :
    f_apply_moves [.val (.tuple (ms.map PyData.int)), .val (.list ((sI is).map PyData.int)), .val (.tuple (P.map PyData.int))] = some (.val (.tuple ((refls ms is).map PyData.int)), [.val (.tuple (ms.map PyData.int)), .val (.list ((sI is).map PyData.int)), .val (.tuple (P.map PyData.int))]) := by
  refine def_val (e' := [.val (.tuple (ms.map PyData.int)), .val (.list ((sI is).map PyData.int)), .val (.tuple (P.map PyData.int))]) ?_ rfl
  generalize hE : ([.val (.tuple (ms.map PyData.int)), .val (.list ((sI is).map PyData.int)), .val (.tuple (P.map PyData.int))] : Env) = E
  have g0 : E[0]? = some (.val (.tuple (ms.map PyData.int))) := by rw [← hE]; rfl
  have g1 : E[1]? = some (.val (.list ((sI is).map PyData.int))) := by rw [← hE]; rfl
  have g2 : E[2]? = some (.val (.tuple (P.map PyData.int))) := by rw [← hE]; rfl
  have hl := (seq_t ms).len g0
  have e0 : E ++ List.replicate (3 - E.length) Sl.un = E := by rw [← hE]; rfl
  rw [e0]
  refine (seq_nx (expr_ok (call1 g0 (check_ring_spec hm) nofun) nofun)).trans ?_
  refine (seq_nx (expr_ok (call2 (sVar_val g2) hl (check_pins_spec hP) nofun) nofun)).trans ?_
  refine (seq_nx (expr_ok (call3 (sVar_val g1) hl (sVar_val g2) (check_moves_spec h) nofun) nofun)).trans ?_
  exact ret_ok (call2 (sVar_val g0) (sVar_val g1) (reflect_seats_spec fun i hi => (h i hi).1) nofun) nofun


theorem def_slot {n i : Nat} {b : Stm} {args e' outs : Env} {xs : List D} (h : b (args ++ List.replicate (n - args.length) .un) = some (.ret (.slot i), e')) (hi : e'[i]? = some (.own false xs)) (ho : outsOf args e' = outs) : sDef n b args = some (.new xs, outs) := by
  unfold sDef
  rw [h, ← ho]
  simp only
  rw [hi]
theorem rgI0 (n : Nat) : rgI 0 n = (List.range n).map fun i : Nat => PyData.int (i : Int) := by
  unfold rgI
  refine List.map_congr_left fun i _ => ?_
  rw [Int.zero_add]
theorem sI_app (a : List Nat) (i : Nat) : (sI a).map PyData.int ++ [.int (i : Int)] = (sI (a ++ [i])).map PyData.int := by unfold sI; simp
theorem sI_len (a : List Nat) : (sI a).length = a.length := by unfold sI; simp
/-! ### the law's own reflection -/
theorem cutD_hi {xs : List D} {k : Nat} (h : k ≤ xs.length) : cutD xs none (some (k : Int)) = xs.take k := by
  unfold cutD
  rw [HT.sIx_none, HT.sIx_nat, Nat.min_eq_left h, Nat.sub_zero, List.drop_zero]
theorem cutD_lo {xs : List D} {k : Nat} (h : k ≤ xs.length) : cutD xs (some (k : Int)) none = xs.drop k := by
  unfold cutD
  rw [HT.sIx_none, HT.sIx_nat, Nat.min_eq_left h]
  exact List.take_of_length_le (by rw [List.length_drop]; omega)
/-- as below_at, the slot anywhere -/
theorem below_call' {e : Env} {i : Nat} {p : Bool} {xs : List D} {fk : Ev} {k : Int} (he : e[i]? = some (.own p xs)) (hs : Src xs) (hk : fk e = some (.val (.int k), e)) (h0 : 0 < k) (h1 : k < 18446744073709551616) :
    ∃ (r : Nat) (ys : List D), Src ys ∧ (r : Int) < k ∧ sCall f_l_below [(sVar i), fk] e = some (.val (.int (r : Int)), e.set i (.own p ys)) := by
  obtain ⟨r, ys, h2, h3, h4, h5⟩ := below_call he hs hk h0 h1
  obtain ⟨m, rfl⟩ : ∃ m : Nat, r = m := ⟨r.toNat, by omega⟩
  exact ⟨m, ys, h2, h4, h5⟩
theorem call_on {φ : FnSem} {i : Nat} {fb : Ev} {e : Env} {p : Bool} {xs ys zs ws : List D} (hi : e[i]? = some (.own p xs)) (h2 : fb e = some (.new zs, e)) (hf : φ [.own true xs, .val (.list zs)] = some (.new ws, [.own true ys, .val (.list zs)])) : sCall φ [(sVar i), fb] e = some (.new ws, e.set i (.own p ys)) := by
  simp [sCall, sArgs, sVar_own hi, h2, settle, slotOk, isOwn, hi, slotsApart, noSlot, argSls, argSl, hf, writeBack]
theorem popAt_ok {i : Nat} {f : Ev} {e e1 : Env} {p : Bool} {xs0 xs : List D} {k : Nat} {d : D} (h0 : e[i]? = some (.own p xs0)) (hf : f e = some (.val (.int (k : Int)), e1)) (h1 : e1[i]? = some (.own p xs)) (hk : xs[k]? = some d) (hs : k < 100) : sMut gPopAt i [f] e = some (.val d, e1.set i (.own p (xs.eraseIdx k))) := by
  have hl : k < xs.length := (List.getElem?_eq_some_iff.mp hk).1
  unfold sMut
  rw [h0]
  simp only
  rw [sTaken1 hf]
  simp only
  rw [h1]
  simp only [gPopAt]
  rw [if_pos ⟨by omega, by omega⟩, seqIx_at (j := k) rfl hl]
  simp only
  rw [hk]
  rfl
theorem mut_app' {i : Nat} {f : Ev} {e e1 : Env} {p q : Bool} {xs0 xs : List D} {d : D} (h0 : e[i]? = some (.own p xs0)) (hf : f e = some (.val d, e1)) (hi : e1[i]? = some (.own q xs)) (hl : xs.length < 16777216) : sExpr (sMut gApp i [f]) e = some (.nx, e1.set i (.own q (xs ++ [d]))) := by
  refine expr_ok (r := .val .none) ?_ nofun
  unfold sMut
  rw [h0]
  simp only
  rw [sTaken1 hf]
  simp only
  rw [hi]
  simp only [gApp]
  rw [if_pos hl]
  rfl
theorem sI_get {l : List Nat} {k : Nat} (h : k < l.length) : ((sI l).map PyData.int)[k]? = some (.int ((l[k] : Nat) : Int)) := by
  unfold sI
  rw [List.map_map, List.getElem?_map, List.getElem?_eq_getElem h]
  rfl
theorem erase_map {α β : Type} (f : α → β) : ∀ (l : List α) (k : Nat), (l.map f).eraseIdx k = (l.eraseIdx k).map f
  | [], _ => rfl
  | _ :: _, 0 => rfl
  | x :: l, k + 1 => by
    show f x :: (l.map f).eraseIdx k = f x :: (l.eraseIdx k).map f
    rw [erase_map f l k]
theorem perm_pick : ∀ (l : List Nat) (k : Nat) (h : k < l.length), (l[k] :: l.eraseIdx k).Perm l
  | _ :: _, 0, _ => List.Perm.refl _
  | x :: l, k + 1, h => (List.Perm.swap x _ _).trans (List.Perm.cons x (perm_pick l k (Nat.lt_of_succ_lt_succ h)))
theorem sI_erase (l : List Nat) (k : Nat) : ((sI l).map PyData.int).eraseIdx k = (sI (l.eraseIdx k)).map PyData.int := by
  unfold sI
  rw [List.map_map, erase_map, List.map_map]
def SE (src : List D) (it : Sl) (pl rs : List Nat) : Env := [.own true src, it, .own false ((sI pl).map PyData.int), .own false ((sI rs).map PyData.int)]
theorem shuf_step {src : List D} {it : Sl} {pl rs : List Nat} (hs : Src src) (hp : pl ≠ []) (hl : pl.length ≤ 8) (hr : rs.length ≤ 8) :
    ∃ src' k, ∃ h : k < pl.length, Src src' ∧ sExpr (sMut gApp 3 [(sMut gPopAt 2 [(sCall f_l_below [(sVar 0), (sFn gLen [(sVar 2)])])])]) (SE src it pl rs) = some (.nx, SE src' it (pl.eraseIdx k) (rs ++ [pl[k]])) := by
  have h0 : 0 < pl.length := List.length_pos_iff.mpr hp
  have len := (seq_o false (sI pl)).len (e := SE src it pl rs) (j := 2) rfl
  rw [sI_len] at len
  obtain ⟨k, ys, h1, h2, h3⟩ := below_call' (e := SE src it pl rs) (i := 0) rfl hs len (by omega) (by omega)
  have hk : k < pl.length := by omega
  refine ⟨ys, k, hk, h1, ?_⟩
  have p1 := popAt_ok (i := 2) (e := SE src it pl rs) rfl h3 rfl (sI_get hk) (by omega)
  refine (mut_app' (i := 3) (e := SE src it pl rs) rfl p1 rfl (by rw [List.length_map, sI_len]; omega)).trans ?_
  rw [sI_app, sI_erase]
  rfl
theorem perm_step {pl rs L : List Nat} {k : Nat} (h : k < pl.length) (p : (pl ++ rs).Perm L) : (pl.eraseIdx k ++ (rs ++ [pl[k]])).Perm L := by
  refine List.Perm.trans ?_ p
  have a := perm_pick pl k h
  refine List.Perm.trans ?_ (List.Perm.append_right rs a)
  rw [← List.append_assoc]
  exact (List.perm_append_comm).trans (by simp)
theorem shuf_loop {src : List D} {it : Sl} {L : List Nat} (hs : Src src) (hl : L.length ≤ 8) : ∃ src' rs, Src src' ∧ rs.Perm L ∧ sWhile (sOp gNe (sVar 2) (sLst [])) (sExpr (sMut gApp 3 [(sMut gPopAt 2 [(sCall f_l_below [(sVar 0), (sFn gLen [(sVar 2)])])])])) (SE src it L []) = some (.nx, SE src' it [] rs) := by
  obtain ⟨e', h1, src', rs, h2, h3, rfl⟩ := sWhile_ind (fc := sOp gNe (sVar 2) (sLst [])) (b := sExpr (sMut gApp 3 [(sMut gPopAt 2 [(sCall f_l_below [(sVar 0), (sFn gLen [(sVar 2)])])])])) (α := List Nat × List Nat)
    (I := fun p e => ∃ src, Src src ∧ (p.1 ++ p.2).Perm L ∧ e = SE src it p.1 p.2) (fun p => p.1.length) (R := fun e => ∃ src rs, Src src ∧ rs.Perm L ∧ e = SE src it [] rs) (fun p e he => by
      obtain ⟨src, g1, g2, rfl⟩ := he
      have hlen := g2.length_eq
      rw [List.length_append] at hlen
      refine ⟨!decide (sI p.1 = []), _, (sOp_eq (ra := .slot 2) (rb := .new []) (da := .list ((sI p.1).map PyData.int)) (db := .list ([].map PyData.int)) rfl nofun rfl nofun rfl rfl).trans (by rw [gNe_l]; rfl), fun z => ?_, fun z => ?_⟩
      · have : p.1 = [] := by
          cases q : p.1 with
          | nil => rfl
          | cons x r => rw [q] at z; simp [sI] at z
        rw [this] at g2 ⊢
        exact ⟨src, p.2, g1, g2, rfl⟩
      · have hne : p.1 ≠ [] := fun y => by rw [y] at z; simp [sI] at z
        obtain ⟨src2, k, hk, k1, k2⟩ := shuf_step (it := it) (rs := p.2) g1 hne (by omega) (by omega)
        refine ⟨(p.1.eraseIdx k, p.2 ++ [p.1[k]]), _, k2, ⟨src2, k1, perm_step hk g2, rfl⟩, ?_⟩
        show (p.1.eraseIdx k).length < p.1.length
        rw [List.length_eraseIdx_of_lt hk]
        omega) (a := (L, [])) (e := SE src it L []) ⟨src, hs, by simp, rfl⟩
  exact ⟨src', rs, h2, h3, h1⟩
theorem shuffled_spec {src : List D} {L : List Nat} (hs : Src src) (hl : L.length ≤ 8) : ∃ src' rs, Src src' ∧ rs.Perm L ∧ f_l_shuffled [.own true src, .val (.list ((sI L).map PyData.int))] = some (.new ((sI rs).map PyData.int), [.own true src', .val (.list ((sI L).map PyData.int))]) := by
  obtain ⟨src', rs, h1, h2, h3⟩ := shuf_loop (it := .val (.list ((sI L).map PyData.int))) hs hl
  refine ⟨src', rs, h1, h2, def_slot (i := 3) (e' := SE src' (.val (.list ((sI L).map PyData.int))) [] rs) ?_ rfl rfl⟩
  refine (seq_nx (e1 := [.own true src, .val (.list ((sI L).map PyData.int)), .own false ((sI L).map PyData.int), .un]) (setn_to ((sFn1 (sVar_val rfl) nofun rfl rfl).trans rfl) rfl rfl)).trans ?_
  refine (seq_nx (e1 := SE src (.val (.list ((sI L).map PyData.int))) L []) rfl).trans ?_
  refine (seq_nx h3).trans ?_
  exact ret_ok (sVar_own rfl) nofun
theorem listRg_ok {f : Ev} {e : Env} {n : Nat} (h : f e = some (.val (.int (n : Int)), e)) (hn : n ≤ 8) : sListRg f e = some (.new ((sI (List.range n)).map PyData.int), e) := by
  unfold sListRg
  rw [bnd_val h]
  simp only
  rw [if_pos ⟨by omega, by omega⟩, Int.toNat_natCast, rgI0]
  unfold sI
  rw [List.map_map]
  rfl
theorem cutD_take {xs : List D} (k : Nat) : cutD xs none (some (k : Int)) = xs.take k := by
  by_cases h : k ≤ xs.length
  · exact cutD_hi h
  · unfold cutD
    rw [HT.sIx_none, HT.sIx_nat, Nat.min_eq_right (by omega), Nat.sub_zero, List.drop_zero, List.take_length, List.take_of_length_le (by omega)]
theorem sI_take (l : List Nat) (k : Nat) : ((sI l).map PyData.int).take k = (sI (l.take k)).map PyData.int := by
  unfold sI
  rw [List.map_map, List.map_map, List.map_take]
theorem sortI_le (ns : List Int) : (sortI ns).Pairwise (· ≤ ·) := by
  refine (List.pairwise_mergeSort (le := fun a b : Int => decide (a ≤ b)) (fun a b c x y => ?_) (fun a b => ?_) ns).imp fun x => of_decide_eq_true x
  · exact decide_eq_true (Int.le_trans (of_decide_eq_true x) (of_decide_eq_true y))
  · rcases Int.le_total a b with x | x
    · rw [decide_eq_true x]; rfl
    · rw [decide_eq_true x, Bool.or_true]
theorem sortI_perm (ns : List Int) : (sortI ns).Perm ns := List.mergeSort_perm _ _
theorem sortI_pn {l : List Nat} {n : Nat} (hd : l.Nodup) (h : ∀ i ∈ l, i < n) : Pn (sortI (sI l)) n := by
  have p := sortI_perm (sI l)
  have nd : (sI l).Nodup := by
    unfold sI
    exact List.Pairwise.map _ (fun a b hab z => hab (Int.ofNat.inj z)) hd
  refine ⟨((sortI_le _).and (p.symm.nodup nd)).imp fun q => by have a := q.1; have b := q.2; omega, fun x hx => ?_⟩
  obtain ⟨i, hi, rfl⟩ := List.mem_map.mp (p.mem_iff.mp hx)
  have := h i hi
  omega
theorem Pn.take {P : List Int} {n : Nat} (h : Pn P n) (k : Nat) : Pn (P.take k) n := ⟨h.up.sublist (List.take_sublist _ _), fun x hx => h.ran x (List.mem_of_mem_take hx)⟩
def NP : Sl → Prop
  | .own true _ => False
  | _ => True
theorem np_at {e : Env} {j : Nat} {s : Sl} (h : e[j]? = some s) (hs : NP s) : noPin e j = true := by
  unfold noPin
  rw [h]
  cases s with
  | own p xs => cases p with
    | true => exact hs.elim
    | false => rfl
  | _ => rfl
end MR

set_option Elab.async false
set_option linter.all false
set_option maxRecDepth 100000
set_option maxHeartbeats 1000000
namespace MR
open PySem PySem.Spec PyProof.Rows L2
variable [Tq]
local macro_rules | `(tactic| walk_at "npin") => `(tactic| first | rfl | exact np_at rfl (by assumption))
local macro_rules | `(tactic| walk_at "isi") => `(tactic| first
  | with_reducible refine isi_int_n ?_
  | with_reducible refine isi_int_b ?_
  | with_reducible refine isi_int_i ?_
  | with_reducible refine isi_int_s ?_
  | with_reducible refine isi_int_l ?_
  | with_reducible refine isi_int_t ?_
  | ((with_reducible apply isi_int_o); rfl)
  | with_reducible refine isi_bool_n ?_
  | with_reducible refine isi_bool_b ?_
  | with_reducible refine isi_bool_i ?_
  | with_reducible refine isi_bool_s ?_
  | with_reducible refine isi_bool_l ?_
  | with_reducible refine isi_bool_t ?_
  | ((with_reducible apply isi_bool_o); rfl)
  | with_reducible refine isi_str_n ?_
  | with_reducible refine isi_str_b ?_
  | with_reducible refine isi_str_i ?_
  | with_reducible refine isi_str_s ?_
  | with_reducible refine isi_str_l ?_
  | with_reducible refine isi_str_t ?_
  | ((with_reducible apply isi_str_o); rfl)
  | with_reducible refine isi_tuple_n ?_
  | with_reducible refine isi_tuple_b ?_
  | with_reducible refine isi_tuple_i ?_
  | with_reducible refine isi_tuple_s ?_
  | with_reducible refine isi_tuple_l ?_
  | with_reducible refine isi_tuple_t ?_
  | ((with_reducible apply isi_tuple_o); rfl)
  | with_reducible refine isi_list_n ?_
  | with_reducible refine isi_list_b ?_
  | with_reducible refine isi_list_i ?_
  | with_reducible refine isi_list_s ?_
  | with_reducible refine isi_list_l ?_
  | with_reducible refine isi_list_t ?_
  | ((with_reducible apply isi_list_o); rfl))
local macro_rules | `(tactic| walk_at "nset") => `(tactic| try simp only [List.set_cons_succ, List.set_cons_zero])
local macro_rules | `(tactic| walk_at "w1") => `(tactic| first
  | with_reducible refine ws_seq ?_
  | with_reducible refine seqK_nx ?_
  | with_reducible refine seqK_ret ?_
  | with_reducible refine ws_skip ?_
  | with_reducible refine ws_expr ?_
  | with_reducible refine exK_val ?_
  | with_reducible refine exK_new ?_
  | with_reducible refine exK_err ?_
  | with_reducible refine seqK_err ?_
  | with_reducible refine rtK_err ?_
  | with_reducible refine setK_err ?_
  | with_reducible refine retV_err ?_
  | ((with_reducible refine retO_err ?_); walk_at "nset")
  | ((with_reducible refine defK_err ?_); try dsimp only [outsOf, List.zipWith])
  | with_reducible refine ws_raise1 ?_
  | with_reducible refine raK_int ?_
  | with_reducible refine we_errOf ?_
  | with_reducible refine eofK_val ?_
  | with_reducible refine eofK_new ?_
  | with_reducible refine ws_ret ?_
  | with_reducible refine rtK_val ?_
  | with_reducible refine rtK_new ?_
  | with_reducible refine rtK_slot ?_
  | with_reducible refine ws_set ?_
  | ((with_reducible apply setK_val); walk_at "npin"; walk_at "nset")
  | ((with_reducible apply setK_new); walk_at "npin"; walk_at "nset")
  | with_reducible refine ws_if ?_
  | with_reducible refine we_c ?_
  | ((with_reducible apply we_var); rfl)
  | ((with_reducible apply we_varo); rfl)
  | with_reducible refine we_op ?_
  | with_reducible refine opK1_val ?_
  | with_reducible refine opK1_new ?_
  | with_reducible refine opK1_slot ?_
  | with_reducible refine opK2_vv xAdd ?_
  | with_reducible refine opK2_vv xSub ?_
  | with_reducible refine opK2_vv xLt ?_
  | with_reducible refine opK2_vv xLe ?_
  | with_reducible refine opK2_vv xGt ?_
  | with_reducible refine opK2_vv xGe ?_
  | with_reducible refine opK2_vv xEq ?_
  | with_reducible refine opK2_vv xNe ?_
  | with_reducible refine opK2_vv xIsN ?_
  | with_reducible refine opK2_vv xNotN ?_
  | with_reducible refine we_un ?_
  | with_reducible refine unK_val xNeg ?_
  | (with_reducible refine we_isi ?_)
  | with_reducible refine we_not ?_
  | with_reducible refine notK_t ?_
  | with_reducible refine notK_f ?_
  | with_reducible refine notK_b ?_
  | with_reducible refine we_and ?_
  | with_reducible refine andK_t ?_
  | with_reducible refine andK_f ?_
  | with_reducible refine we_or ?_
  | with_reducible refine orK_t ?_
  | with_reducible refine orK_f ?_
  | with_reducible refine we_ifE ?_
  | with_reducible refine ifEK_t ?_
  | with_reducible refine ifEK_f ?_
  | with_reducible refine ifK_t ?_
  | with_reducible refine ifK_f ?_
  | with_reducible refine we_fn ?_
  | with_reducible refine we_call ?_
  | walk_at "spec"
  | with_reducible refine wa_cons ?_
  | with_reducible refine wa_nil ?_
  | with_reducible refine argK_val ?_
  | with_reducible refine argK_new ?_
  | with_reducible refine argK_slot ?_
  | with_reducible refine argK2_val ?_
  | ((with_reducible apply argK2_slot); rfl)
  | with_reducible refine fnK_v xLenTI ?_
  | with_reducible refine fnK_v xLenLI ?_
  | ((with_reducible apply fnK_s (h := xLenLI)); rfl)
  | with_reducible refine fnK_v xLenT ?_
  | with_reducible refine fnK_v xLenL ?_
  | ((with_reducible apply fnK_s (h := xLenL)); rfl)
  | with_reducible refine fnK_v xTupL ?_
  | with_reducible refine fnK_v xTupT ?_
  | ((with_reducible apply fnK_s (h := xTupL)); rfl)
  | with_reducible refine fnK_v xLstL ?_
  | with_reducible refine fnK_v xLstT ?_
  | ((with_reducible apply fnK_s (h := xLstL)); rfl)
  | with_reducible refine fnK_v xAbs ?_
  | with_reducible refine fnK_vv xGcd ?_
  | with_reducible refine callK_v1 ?_
  | with_reducible refine callK_v2 ?_
  | with_reducible refine callK_v3 ?_
  | ((with_reducible apply callK_o0); rfl)
  | ((with_reducible apply callK_o1); rfl)
  | ((with_reducible apply callK_o2); rfl)
  | with_reducible refine retV_val ?_
  | with_reducible refine retV_new ?_
  | ((with_reducible refine retO_val ?_); walk_at "nset")
  | ((with_reducible refine retO_new ?_); walk_at "nset")
  | with_reducible refine we_tup ?_
  | with_reducible refine we_lst ?_
  | with_reducible refine wt_cons ?_
  | with_reducible refine wt_nil ?_
  | with_reducible refine takK_val ?_
  | with_reducible refine takK_new ?_
  | with_reducible refine tcK_ok ?_
  | with_reducible refine tupK_ok ?_
  | with_reducible refine ws_for ?_
  | with_reducible refine wi_rg ?_
  | with_reducible refine wi_seq ?_
  | with_reducible refine wi_enum ?_
  | with_reducible refine wi_zip2 ?_
  | with_reducible refine wi_zip3 ?_
  | with_reducible refine zipK2_tt ?_
  | with_reducible refine zipK2_tl ?_
  | with_reducible refine zipK2_ll ?_
  | with_reducible refine zipK3_tll ?_
  | with_reducible refine wi_rg3 ?_
  | with_reducible refine unK_val xBackT ?_
  | with_reducible refine unK_val xBackL ?_
  | with_reducible refine itK_list ?_
  | with_reducible refine itK_tuple ?_
  | with_reducible refine itK_new ?_
  | ((with_reducible apply itK_slot); rfl)
  | with_reducible refine enK_l ?_
  | with_reducible refine enK_t ?_
  | with_reducible refine forK_n ?_
  | with_reducible refine we_lc ?_
  | ((with_reducible apply wg_nm); walk_at "npin"; walk_at "nset")
  | with_reducible refine wg_tup rfl ?_
  | with_reducible refine wgs_cons ?_
  | with_reducible refine wgs_nil ?_
  | with_reducible refine lcT_t ?_
  | ((with_reducible apply lcE_val); rfl)
  | ((with_reducible apply lcE_new); rfl)
  | with_reducible refine we_cat ?_
  | with_reducible refine catK1_new ?_
  | with_reducible refine catK1_slot ?_
  | with_reducible refine catK1_list ?_
  | with_reducible refine ws_par ?_
  | ((with_reducible apply parK_ok); walk_at "npin"; walk_at "npin"; walk_at "nset")
  | with_reducible refine lpK_nx ?_
  | with_reducible refine lpK_ret ?_
  | with_reducible refine ws_asg ?_
  | with_reducible refine asgK_val ?_
  | with_reducible refine we_cut ?_
  | with_reducible refine cutK_val ?_
  | with_reducible refine cutK_new ?_
  | with_reducible refine cutK_slot ?_
  | with_reducible refine wp_none ?_
  | with_reducible refine wp_some ?_
  | with_reducible refine ptK_int ?_
  | with_reducible refine cutK2_t ?_
  | with_reducible refine cutK2_l ?_
  | ((with_reducible apply cutK2_s); rfl)
  | with_reducible refine we_meth ?_
  | with_reducible refine mthK_t ?_
  | with_reducible refine mthK_l ?_
  | with_reducible refine mthK_n ?_
  | with_reducible refine mthK_s ?_
  | with_reducible refine opK2_vv xCntT ?_
  | with_reducible refine opK2_vv xCntL ?_
  | ((with_reducible apply opK2_sv (h := xCntL)); rfl)
  | with_reducible refine we_frz ?_
  | walk_at "isi"
  | with_reducible refine frzK_val ?_
  | with_reducible refine frzK_new ?_
  | ((with_reducible apply we_mut); rfl)
  | with_reducible refine ws_setIx ?_
  | ((with_reducible apply sixK_val); rfl)
  | ((with_reducible apply ws_aug); rfl)
  | ((with_reducible refine defK_val ?_); try dsimp only [outsOf, List.zipWith])
  | ((with_reducible refine defK_new ?_); try dsimp only [outsOf, List.zipWith])
  | ((with_reducible refine defK_nx ?_); try dsimp only [outsOf, List.zipWith])
  | ((with_reducible apply defK_slot); rfl; try dsimp only [outsOf, List.zipWith])
  | ((with_reducible refine wf_def ?_); try simp only [List.length_cons, List.length_nil, List.cons_append, List.nil_append, Nat.reduceAdd, Nat.reduceSub, List.reduceReplicate]))
local macro_rules | `(tactic| walk_at "wp") => `(tactic| repeat (walk_at "w1"))
local macro_rules | `(tactic| walk_at "wt") => `(tactic| repeat (first | with_reducible refine wt_nil ?_ | with_reducible refine wt_cons ?_ | with_reducible refine takK_val ?_ | with_reducible refine takK_new ?_ | with_reducible refine tcK_ok ?_ | with_reducible refine tupK_ok ?_ | ((with_reducible apply parK_ok); walk_at "npin"; walk_at "npin"; walk_at "nset")))
local macro_rules | `(tactic| walk_at "wipe") => `(tactic| simp only [wipeE, unwipe, List.getD_cons_succ, List.getD_cons_zero, List.set_cons_succ, List.set_cons_zero])
/-! ### what the shared defs do, forward -/
section
variable {R : Rs → List Sl → Prop} {ms ns : List Int}
theorem below_w {xs : List D} {k : Int} (hs : Src xs) (h0 : 0 < k) (h1 : k < 18446744073709551616) (q : ∀ m ys, Src ys → 0 ≤ m → m < k → R (.val (.int m)) [.own true ys, .val (.int k)]) : WF f_l_below [.own true xs, .val (.int k)] R := by
  obtain ⟨r, ys, h2, h3, h4, h5⟩ := below_spec hs h0 h1
  exact wf_eq h5 (q r ys h2 h3 h4)
theorem random_w {ns : List Int} {s : Int} (hn : ns.length ≤ 63) (q : ∀ xs o, Src xs → R (.new xs) o) : WF f_l_random [.val (.list (ns.map PyData.int)), .val (.int s)] R := by
  obtain ⟨xs, h1, o, h2⟩ := random_spec ns s hn
  exact wf_eq h2 (q xs o h1)
theorem check_ring_w (h : Mk ms) (q : R (.val .none) [.val (.tuple (ms.map PyData.int))]) : WF f_check_ring [.val (.tuple (ms.map PyData.int))] R := wf_eq (check_ring_spec h) q
theorem steps_w (h : ms.length ≤ 8) (q : R (.val (.tuple ((ds ms).map PyData.int))) [.val (.tuple (ms.map PyData.int))]) : WF f_steps_between [.val (.tuple (ms.map PyData.int))] R := wf_eq (steps_spec h) q
/-- the greatest common divisor of all differences between steps -/
def gm (ms : List Int) : Nat := gfold ((ds ms).getD 0 0) (ds ms) 0
theorem modulus_w (h : Mk ms) (q : R (.val (.int (gm ms : Nat))) [.val (.tuple (ms.map PyData.int))]) : WF f_find_modulus [.val (.tuple (ms.map PyData.int))] R := wf_eq (find_modulus_spec h) q
theorem step_modulus_w (h : 0 < ms.length) (q : R (.val (.int (gfold (ms.getD 0 0) ms 0 : Nat))) [.val (.tuple (ms.map PyData.int))]) : WF f_step_modulus [.val (.tuple (ms.map PyData.int))] R := wf_eq (step_modulus_spec h) q
end
/-! the difference of two rings -/
/-- the smallest step that is not equally frequent -/
def stepDiff (a b : List Int) : Option Int := (usort (a ++ b)).find? fun s => a.count s != b.count s
def stepD (a b : List Int) : D := match stepDiff a b with
  | some s => .tuple [.str "step", .int s, .int (a.count s : Nat), .int (b.count s : Nat)]
  | none => .none
def resd (m : Nat) (x : Int) : Int := if m = 0 then x else x % (m : Int)
def markD (a b : List Int) : D := if resd (gm a) (a.getD 0 0) = resd (gm a) (b.getD 0 0) then .none else .tuple [.str "mark", .int (resd (gm a) (a.getD 0 0)), .int (resd (gm a) (b.getD 0 0))]
def diffD (a b : List Int) : D :=
  if a.length = b.length then (match stepDiff (ds a) (ds b) with
    | some s => .tuple [.str "step", .int s, .int ((ds a).count s : Nat), .int ((ds b).count s : Nat)]
    | none => markD a b) else .tuple [.str "seats", .int (a.length : Nat), .int (b.length : Nat)]
section
variable {R : Rs → List Sl → Prop} {a b : List Int}
local macro_rules | `(tactic| walk_at "spec") => `(tactic| fail)
theorem step_difference_w (ha : a.length ≤ 16) (hb : b.length ≤ 16) (q : R (.val (stepD a b)) [.val (.tuple (a.map PyData.int)), .val (.tuple (b.map PyData.int))]) : WF f_find_step_difference [.val (.tuple (a.map PyData.int)), .val (.tuple (b.map PyData.int))] R := by
  unfold f_find_step_difference
  walk_at "wp"
  refine opK2_vv (xAddTI (by omega)) ?_
  walk_at "wp"
  refine fnK_v (xSrtT (by rw [List.length_append]; omega)) ?_
  walk_at "wp"
  have key : ∀ l : List Int, (∃ s, l.find? (fun s => a.count s != b.count s) = some s) ∨ l.find? (fun s => a.count s != b.count s) = none := fun l => by
    cases l.find? (fun s => a.count s != b.count s) with
    | none => exact .inr rfl
    | some s => exact .inl ⟨s, rfl⟩
  refine fl_list (I := fun rest e => ∃ (l : List Int) (w : Sl), rest = l.map PyData.int ∧ NP w ∧ (usort (a ++ b)).find? (fun s => a.count s != b.count s) = l.find? (fun s => a.count s != b.count s) ∧ e = [Sl.val (PyData.tuple (List.map PyData.int a)), Sl.val (PyData.tuple (List.map PyData.int b)), w]) ?_ ?_ ⟨_, .un, rfl, trivial, rfl, rfl⟩
  · rintro d rest e ⟨l, w, h1, hw, h2, rfl⟩
    cases l with
    | nil => cases h1
    | cons n l =>
      cases h1
      refine wg_nm (np_at rfl hw) ?_
      walk_at "wp"
      refine ifK_nd (fun c => ?_) (fun c => ?_)
      · have c' : a.count n ≠ b.count n := fun z => c (by rw [z])
        have f : stepDiff a b = some n := by
          unfold stepDiff
          rw [h2, List.find?_cons_of_pos]
          exact bne_iff_ne.mpr c'
        walk_at "wp"
        have e1 : stepD a b = .tuple [.str "step", .int n, .int (a.count n : Nat), .int (b.count n : Nat)] := by unfold stepD; rw [f]
        rw [e1] at q
        exact q
      · have c' : a.count n = b.count n := Int.ofNat.inj c
        walk_at "wp"
        refine ⟨rfl, l, _, rfl, ?_, ?_, rfl⟩
        · trivial
        · rw [h2, List.find?_cons_of_neg]
          rw [c']
          simp
  · rintro e ⟨l, w, h1, hw, h2, rfl⟩
    cases l with
    | cons n l => cases h1
    | nil =>
      walk_at "wp"
      have e1 : stepD a b = .none := by unfold stepD stepDiff; rw [h2]; rfl
      rw [e1] at q
      exact q
end
end MR
set_option Elab.async false
set_option linter.all false
set_option maxRecDepth 100000
set_option maxHeartbeats 1000000
namespace MR
open PySem PySem.Spec PyProof.Rows L2
variable [Tq]
local macro_rules | `(tactic| walk_at "npin") => `(tactic| first | rfl | exact np_at rfl (by assumption))
local macro_rules | `(tactic| walk_at "isi") => `(tactic| first
  | with_reducible refine isi_int_n ?_
  | with_reducible refine isi_int_b ?_
  | with_reducible refine isi_int_i ?_
  | with_reducible refine isi_int_s ?_
  | with_reducible refine isi_int_l ?_
  | with_reducible refine isi_int_t ?_
  | ((with_reducible apply isi_int_o); rfl)
  | with_reducible refine isi_bool_n ?_
  | with_reducible refine isi_bool_b ?_
  | with_reducible refine isi_bool_i ?_
  | with_reducible refine isi_bool_s ?_
  | with_reducible refine isi_bool_l ?_
  | with_reducible refine isi_bool_t ?_
  | ((with_reducible apply isi_bool_o); rfl)
  | with_reducible refine isi_str_n ?_
  | with_reducible refine isi_str_b ?_
  | with_reducible refine isi_str_i ?_
  | with_reducible refine isi_str_s ?_
  | with_reducible refine isi_str_l ?_
  | with_reducible refine isi_str_t ?_
  | ((with_reducible apply isi_str_o); rfl)
  | with_reducible refine isi_tuple_n ?_
  | with_reducible refine isi_tuple_b ?_
  | with_reducible refine isi_tuple_i ?_
  | with_reducible refine isi_tuple_s ?_
  | with_reducible refine isi_tuple_l ?_
  | with_reducible refine isi_tuple_t ?_
  | ((with_reducible apply isi_tuple_o); rfl)
  | with_reducible refine isi_list_n ?_
  | with_reducible refine isi_list_b ?_
  | with_reducible refine isi_list_i ?_
  | with_reducible refine isi_list_s ?_
  | with_reducible refine isi_list_l ?_
  | with_reducible refine isi_list_t ?_
  | ((with_reducible apply isi_list_o); rfl))
local macro_rules | `(tactic| walk_at "nset") => `(tactic| try simp only [List.set_cons_succ, List.set_cons_zero])
local macro_rules | `(tactic| walk_at "w1") => `(tactic| first
  | with_reducible refine ws_seq ?_
  | with_reducible refine seqK_nx ?_
  | with_reducible refine seqK_ret ?_
  | with_reducible refine ws_skip ?_
  | with_reducible refine ws_expr ?_
  | with_reducible refine exK_val ?_
  | with_reducible refine exK_new ?_
  | with_reducible refine exK_err ?_
  | with_reducible refine seqK_err ?_
  | with_reducible refine rtK_err ?_
  | with_reducible refine setK_err ?_
  | with_reducible refine retV_err ?_
  | ((with_reducible refine retO_err ?_); walk_at "nset")
  | ((with_reducible refine defK_err ?_); try dsimp only [outsOf, List.zipWith])
  | with_reducible refine ws_raise1 ?_
  | with_reducible refine raK_int ?_
  | with_reducible refine we_errOf ?_
  | with_reducible refine eofK_val ?_
  | with_reducible refine eofK_new ?_
  | with_reducible refine ws_ret ?_
  | with_reducible refine rtK_val ?_
  | with_reducible refine rtK_new ?_
  | with_reducible refine rtK_slot ?_
  | with_reducible refine ws_set ?_
  | ((with_reducible apply setK_val); walk_at "npin"; walk_at "nset")
  | ((with_reducible apply setK_new); walk_at "npin"; walk_at "nset")
  | with_reducible refine ws_if ?_
  | with_reducible refine we_c ?_
  | ((with_reducible apply we_var); rfl)
  | ((with_reducible apply we_varo); rfl)
  | with_reducible refine we_op ?_
  | with_reducible refine opK1_val ?_
  | with_reducible refine opK1_new ?_
  | with_reducible refine opK1_slot ?_
  | with_reducible refine opK2_vv xAdd ?_
  | with_reducible refine opK2_vv xSub ?_
  | with_reducible refine opK2_vv xLt ?_
  | with_reducible refine opK2_vv xLe ?_
  | with_reducible refine opK2_vv xGt ?_
  | with_reducible refine opK2_vv xGe ?_
  | with_reducible refine opK2_vv xEq ?_
  | with_reducible refine opK2_vv xNe ?_
  | with_reducible refine opK2_vv xIsN ?_
  | with_reducible refine opK2_vv xNotN ?_
  | with_reducible refine we_un ?_
  | with_reducible refine unK_val xNeg ?_
  | (with_reducible refine we_isi ?_)
  | with_reducible refine we_not ?_
  | with_reducible refine notK_t ?_
  | with_reducible refine notK_f ?_
  | with_reducible refine notK_b ?_
  | with_reducible refine we_and ?_
  | with_reducible refine andK_t ?_
  | with_reducible refine andK_f ?_
  | with_reducible refine we_or ?_
  | with_reducible refine orK_t ?_
  | with_reducible refine orK_f ?_
  | with_reducible refine we_ifE ?_
  | with_reducible refine ifEK_t ?_
  | with_reducible refine ifEK_f ?_
  | with_reducible refine ifK_t ?_
  | with_reducible refine ifK_f ?_
  | with_reducible refine we_fn ?_
  | with_reducible refine we_call ?_
  | walk_at "spec"
  | with_reducible refine wa_cons ?_
  | with_reducible refine wa_nil ?_
  | with_reducible refine argK_val ?_
  | with_reducible refine argK_new ?_
  | with_reducible refine argK_slot ?_
  | with_reducible refine argK2_val ?_
  | ((with_reducible apply argK2_slot); rfl)
  | with_reducible refine fnK_v xLenTI ?_
  | with_reducible refine fnK_v xLenLI ?_
  | ((with_reducible apply fnK_s (h := xLenLI)); rfl)
  | with_reducible refine fnK_v xLenT ?_
  | with_reducible refine fnK_v xLenL ?_
  | ((with_reducible apply fnK_s (h := xLenL)); rfl)
  | with_reducible refine fnK_v xTupL ?_
  | with_reducible refine fnK_v xTupT ?_
  | ((with_reducible apply fnK_s (h := xTupL)); rfl)
  | with_reducible refine fnK_v xLstL ?_
  | with_reducible refine fnK_v xLstT ?_
  | ((with_reducible apply fnK_s (h := xLstL)); rfl)
  | with_reducible refine fnK_v xAbs ?_
  | with_reducible refine fnK_vv xGcd ?_
  | with_reducible refine callK_v1 ?_
  | with_reducible refine callK_v2 ?_
  | with_reducible refine callK_v3 ?_
  | ((with_reducible apply callK_o0); rfl)
  | ((with_reducible apply callK_o1); rfl)
  | ((with_reducible apply callK_o2); rfl)
  | with_reducible refine retV_val ?_
  | with_reducible refine retV_new ?_
  | ((with_reducible refine retO_val ?_); walk_at "nset")
  | ((with_reducible refine retO_new ?_); walk_at "nset")
  | with_reducible refine we_tup ?_
  | with_reducible refine we_lst ?_
  | with_reducible refine wt_cons ?_
  | with_reducible refine wt_nil ?_
  | with_reducible refine takK_val ?_
  | with_reducible refine takK_new ?_
  | with_reducible refine tcK_ok ?_
  | with_reducible refine tupK_ok ?_
  | with_reducible refine ws_for ?_
  | with_reducible refine wi_rg ?_
  | with_reducible refine wi_seq ?_
  | with_reducible refine wi_enum ?_
  | with_reducible refine wi_zip2 ?_
  | with_reducible refine wi_zip3 ?_
  | with_reducible refine zipK2_tt ?_
  | with_reducible refine zipK2_tl ?_
  | with_reducible refine zipK2_ll ?_
  | with_reducible refine zipK3_tll ?_
  | with_reducible refine wi_rg3 ?_
  | with_reducible refine unK_val xBackT ?_
  | with_reducible refine unK_val xBackL ?_
  | with_reducible refine itK_list ?_
  | with_reducible refine itK_tuple ?_
  | with_reducible refine itK_new ?_
  | ((with_reducible apply itK_slot); rfl)
  | with_reducible refine enK_l ?_
  | with_reducible refine enK_t ?_
  | with_reducible refine forK_n ?_
  | with_reducible refine we_lc ?_
  | ((with_reducible apply wg_nm); walk_at "npin"; walk_at "nset")
  | with_reducible refine wg_tup rfl ?_
  | with_reducible refine wgs_cons ?_
  | with_reducible refine wgs_nil ?_
  | with_reducible refine lcT_t ?_
  | ((with_reducible apply lcE_val); rfl)
  | ((with_reducible apply lcE_new); rfl)
  | with_reducible refine we_cat ?_
  | with_reducible refine catK1_new ?_
  | with_reducible refine catK1_slot ?_
  | with_reducible refine catK1_list ?_
  | with_reducible refine ws_par ?_
  | ((with_reducible apply parK_ok); walk_at "npin"; walk_at "npin"; walk_at "nset")
  | with_reducible refine lpK_nx ?_
  | with_reducible refine lpK_ret ?_
  | with_reducible refine ws_asg ?_
  | with_reducible refine asgK_val ?_
  | with_reducible refine we_cut ?_
  | with_reducible refine cutK_val ?_
  | with_reducible refine cutK_new ?_
  | with_reducible refine cutK_slot ?_
  | with_reducible refine wp_none ?_
  | with_reducible refine wp_some ?_
  | with_reducible refine ptK_int ?_
  | with_reducible refine cutK2_t ?_
  | with_reducible refine cutK2_l ?_
  | ((with_reducible apply cutK2_s); rfl)
  | with_reducible refine we_meth ?_
  | with_reducible refine mthK_t ?_
  | with_reducible refine mthK_l ?_
  | with_reducible refine mthK_n ?_
  | with_reducible refine mthK_s ?_
  | with_reducible refine opK2_vv xCntT ?_
  | with_reducible refine opK2_vv xCntL ?_
  | ((with_reducible apply opK2_sv (h := xCntL)); rfl)
  | with_reducible refine we_frz ?_
  | walk_at "isi"
  | with_reducible refine frzK_val ?_
  | with_reducible refine frzK_new ?_
  | ((with_reducible apply we_mut); rfl)
  | with_reducible refine ws_setIx ?_
  | ((with_reducible apply sixK_val); rfl)
  | ((with_reducible apply ws_aug); rfl)
  | ((with_reducible refine defK_val ?_); try dsimp only [outsOf, List.zipWith])
  | ((with_reducible refine defK_new ?_); try dsimp only [outsOf, List.zipWith])
  | ((with_reducible refine defK_nx ?_); try dsimp only [outsOf, List.zipWith])
  | ((with_reducible apply defK_slot); rfl; try dsimp only [outsOf, List.zipWith])
  | ((with_reducible refine wf_def ?_); try simp only [List.length_cons, List.length_nil, List.cons_append, List.nil_append, Nat.reduceAdd, Nat.reduceSub, List.reduceReplicate]))
local macro_rules | `(tactic| walk_at "wp") => `(tactic| repeat (walk_at "w1"))
local macro_rules | `(tactic| walk_at "wt") => `(tactic| repeat (first | with_reducible refine wt_nil ?_ | with_reducible refine wt_cons ?_ | with_reducible refine takK_val ?_ | with_reducible refine takK_new ?_ | with_reducible refine tcK_ok ?_ | with_reducible refine tupK_ok ?_ | ((with_reducible apply parK_ok); walk_at "npin"; walk_at "npin"; walk_at "nset")))
local macro_rules | `(tactic| walk_at "wipe") => `(tactic| simp only [wipeE, unwipe, List.getD_cons_succ, List.getD_cons_zero, List.set_cons_succ, List.set_cons_zero])
section
variable {R : Rs → List Sl → Prop} {a b : List Int}
local macro_rules | `(tactic| walk_at "spec") => `(tactic| fail)
theorem mk_pos {ms : List Int} (h : Mk ms) : 0 < ms.length := by have := h.1; omega
theorem ix0_t {ms : List Int} (h : 0 < ms.length) : gIx (.tuple (ms.map PyData.int)) (.int 0) = some (.val (.int (ms.getD 0 0))) := xIxT (j := 0) rfl (ints_at h)
theorem ix_tn {ms : List Int} {i : Int} {j : Nat} (e : i = (j : Int)) (h : j < ms.length) : gIx (.tuple (ms.map PyData.int)) (.int i) = some (.val (.int (ms.getD j 0))) := xIxT e (ints_at h)
theorem resd0 {m : Nat} (h : (m : Int) = 0) (x : Int) : resd m x = x := if_pos (by omega)
theorem resd1 {m : Nat} (h : ¬ (m : Int) = 0) (x : Int) : resd m x = x % (m : Int) := if_neg (by omega)
theorem mark_difference_w (ha : 0 < a.length) (ha8 : a.length ≤ 8) (hb : 0 < b.length) (q : R (.val (markD a b)) [.val (.tuple (a.map PyData.int)), .val (.tuple (b.map PyData.int))]) : WF f_find_mark_difference [.val (.tuple (a.map PyData.int)), .val (.tuple (b.map PyData.int))] R := by
  have fin : ∀ x y : Int, resd (gm a) (a.getD 0 0) = x → resd (gm a) (b.getD 0 0) = y → WS (sSeq (sIf (sOp gNe (sVar 2) (sVar 3)) (sRet (sTup [(sC (.str "mark")), (sVar 2), (sVar 3)])) sSkip) (sRet (sC .none))) [.val (.tuple (a.map PyData.int)), .val (.tuple (b.map PyData.int)), .val (.int x), .val (.int y), .val (.int (gm a : Nat))] (defK [.val (.tuple (a.map PyData.int)), .val (.tuple (b.map PyData.int))] R) := by
    intro x y hx hy
    subst hx hy
    walk_at "wp"
    unfold markD at q
    refine ifK_nd (fun c => ?_) (fun c => ?_)
    · rw [if_neg c] at q
      walk_at "wp"
      exact q
    · rw [if_pos c] at q
      walk_at "wp"
      exact q
  unfold f_find_mark_difference
  walk_at "wp"
  refine opK2_vv (ix0_t ha) ?_
  walk_at "wp"
  refine opK2_vv (ix0_t hb) ?_
  walk_at "wp"
  refine steps_w ha8 ?_
  walk_at "wp"
  refine step_modulus_w (by rw [ds_len]; exact ha) ?_
  walk_at "wp"
  refine ifK_nd (fun c => ?_) (fun c => ?_)
  · walk_at "wp"
    refine opK2_vv (xMod (by omega)) ?_
    walk_at "wp"
    refine opK2_vv (xMod (by omega)) ?_
    walk_at "wt"
    refine seqK_nx ?_
    exact fin _ _ (resd1 c _) (resd1 c _)
  · refine ws_skip (seqK_nx ?_)
    exact fin _ _ (resd0 c _) (resd0 c _)
end
end MR

set_option Elab.async false
set_option linter.all false
set_option maxRecDepth 100000
set_option maxHeartbeats 1000000
namespace MR
open PySem PySem.Spec PyProof.Rows L2
variable [Tq]
local macro_rules | `(tactic| walk_at "npin") => `(tactic| first | rfl | exact np_at rfl (by assumption))
local macro_rules | `(tactic| walk_at "isi") => `(tactic| first
  | with_reducible refine isi_int_n ?_
  | with_reducible refine isi_int_b ?_
  | with_reducible refine isi_int_i ?_
  | with_reducible refine isi_int_s ?_
  | with_reducible refine isi_int_l ?_
  | with_reducible refine isi_int_t ?_
  | ((with_reducible apply isi_int_o); rfl)
  | with_reducible refine isi_bool_n ?_
  | with_reducible refine isi_bool_b ?_
  | with_reducible refine isi_bool_i ?_
  | with_reducible refine isi_bool_s ?_
  | with_reducible refine isi_bool_l ?_
  | with_reducible refine isi_bool_t ?_
  | ((with_reducible apply isi_bool_o); rfl)
  | with_reducible refine isi_str_n ?_
  | with_reducible refine isi_str_b ?_
  | with_reducible refine isi_str_i ?_
  | with_reducible refine isi_str_s ?_
  | with_reducible refine isi_str_l ?_
  | with_reducible refine isi_str_t ?_
  | ((with_reducible apply isi_str_o); rfl)
  | with_reducible refine isi_tuple_n ?_
  | with_reducible refine isi_tuple_b ?_
  | with_reducible refine isi_tuple_i ?_
  | with_reducible refine isi_tuple_s ?_
  | with_reducible refine isi_tuple_l ?_
  | with_reducible refine isi_tuple_t ?_
  | ((with_reducible apply isi_tuple_o); rfl)
  | with_reducible refine isi_list_n ?_
  | with_reducible refine isi_list_b ?_
  | with_reducible refine isi_list_i ?_
  | with_reducible refine isi_list_s ?_
  | with_reducible refine isi_list_l ?_
  | with_reducible refine isi_list_t ?_
  | ((with_reducible apply isi_list_o); rfl))
local macro_rules | `(tactic| walk_at "nset") => `(tactic| try simp only [List.set_cons_succ, List.set_cons_zero])
local macro_rules | `(tactic| walk_at "w1") => `(tactic| first
  | with_reducible refine ws_seq ?_
  | with_reducible refine seqK_nx ?_
  | with_reducible refine seqK_ret ?_
  | with_reducible refine ws_skip ?_
  | with_reducible refine ws_expr ?_
  | with_reducible refine exK_val ?_
  | with_reducible refine exK_new ?_
  | with_reducible refine exK_err ?_
  | with_reducible refine seqK_err ?_
  | with_reducible refine rtK_err ?_
  | with_reducible refine setK_err ?_
  | with_reducible refine retV_err ?_
  | ((with_reducible refine retO_err ?_); walk_at "nset")
  | ((with_reducible refine defK_err ?_); try dsimp only [outsOf, List.zipWith])
  | with_reducible refine ws_raise1 ?_
  | with_reducible refine raK_int ?_
  | with_reducible refine we_errOf ?_
  | with_reducible refine eofK_val ?_
  | with_reducible refine eofK_new ?_
  | with_reducible refine ws_ret ?_
  | with_reducible refine rtK_val ?_
  | with_reducible refine rtK_new ?_
  | with_reducible refine rtK_slot ?_
  | with_reducible refine ws_set ?_
  | ((with_reducible apply setK_val); walk_at "npin"; walk_at "nset")
  | ((with_reducible apply setK_new); walk_at "npin"; walk_at "nset")
  | with_reducible refine ws_if ?_
  | with_reducible refine we_c ?_
  | ((with_reducible apply we_var); rfl)
  | ((with_reducible apply we_varo); rfl)
  | with_reducible refine we_op ?_
  | with_reducible refine opK1_val ?_
  | with_reducible refine opK1_new ?_
  | with_reducible refine opK1_slot ?_
  | with_reducible refine opK2_vv xAdd ?_
  | with_reducible refine opK2_vv xSub ?_
  | with_reducible refine opK2_vv xLt ?_
  | with_reducible refine opK2_vv xLe ?_
  | with_reducible refine opK2_vv xGt ?_
  | with_reducible refine opK2_vv xGe ?_
  | with_reducible refine opK2_vv xEq ?_
  | with_reducible refine opK2_vv xNe ?_
  | with_reducible refine opK2_vv xIsN ?_
  | with_reducible refine opK2_vv xNotN ?_
  | with_reducible refine we_un ?_
  | with_reducible refine unK_val xNeg ?_
  | (with_reducible refine we_isi ?_)
  | with_reducible refine we_not ?_
  | with_reducible refine notK_t ?_
  | with_reducible refine notK_f ?_
  | with_reducible refine notK_b ?_
  | with_reducible refine we_and ?_
  | with_reducible refine andK_t ?_
  | with_reducible refine andK_f ?_
  | with_reducible refine we_or ?_
  | with_reducible refine orK_t ?_
  | with_reducible refine orK_f ?_
  | with_reducible refine we_ifE ?_
  | with_reducible refine ifEK_t ?_
  | with_reducible refine ifEK_f ?_
  | with_reducible refine ifK_t ?_
  | with_reducible refine ifK_f ?_
  | with_reducible refine we_fn ?_
  | with_reducible refine we_call ?_
  | walk_at "spec"
  | with_reducible refine wa_cons ?_
  | with_reducible refine wa_nil ?_
  | with_reducible refine argK_val ?_
  | with_reducible refine argK_new ?_
  | with_reducible refine argK_slot ?_
  | with_reducible refine argK2_val ?_
  | ((with_reducible apply argK2_slot); rfl)
  | with_reducible refine fnK_v xLenTI ?_
  | with_reducible refine fnK_v xLenLI ?_
  | ((with_reducible apply fnK_s (h := xLenLI)); rfl)
  | with_reducible refine fnK_v xLenT ?_
  | with_reducible refine fnK_v xLenL ?_
  | ((with_reducible apply fnK_s (h := xLenL)); rfl)
  | with_reducible refine fnK_v xTupL ?_
  | with_reducible refine fnK_v xTupT ?_
  | ((with_reducible apply fnK_s (h := xTupL)); rfl)
  | with_reducible refine fnK_v xLstL ?_
  | with_reducible refine fnK_v xLstT ?_
  | ((with_reducible apply fnK_s (h := xLstL)); rfl)
  | with_reducible refine fnK_v xAbs ?_
  | with_reducible refine fnK_vv xGcd ?_
  | with_reducible refine callK_v1 ?_
  | with_reducible refine callK_v2 ?_
  | with_reducible refine callK_v3 ?_
  | ((with_reducible apply callK_o0); rfl)
  | ((with_reducible apply callK_o1); rfl)
  | ((with_reducible apply callK_o2); rfl)
  | with_reducible refine retV_val ?_
  | with_reducible refine retV_new ?_
  | ((with_reducible refine retO_val ?_); walk_at "nset")
  | ((with_reducible refine retO_new ?_); walk_at "nset")
  | with_reducible refine we_tup ?_
  | with_reducible refine we_lst ?_
  | with_reducible refine wt_cons ?_
  | with_reducible refine wt_nil ?_
  | with_reducible refine takK_val ?_
  | with_reducible refine takK_new ?_
  | with_reducible refine tcK_ok ?_
  | with_reducible refine tupK_ok ?_
  | with_reducible refine ws_for ?_
  | with_reducible refine wi_rg ?_
  | with_reducible refine wi_seq ?_
  | with_reducible refine wi_enum ?_
  | with_reducible refine wi_zip2 ?_
  | with_reducible refine wi_zip3 ?_
  | with_reducible refine zipK2_tt ?_
  | with_reducible refine zipK2_tl ?_
  | with_reducible refine zipK2_ll ?_
  | with_reducible refine zipK3_tll ?_
  | with_reducible refine wi_rg3 ?_
  | with_reducible refine unK_val xBackT ?_
  | with_reducible refine unK_val xBackL ?_
  | with_reducible refine itK_list ?_
  | with_reducible refine itK_tuple ?_
  | with_reducible refine itK_new ?_
  | ((with_reducible apply itK_slot); rfl)
  | with_reducible refine enK_l ?_
  | with_reducible refine enK_t ?_
  | with_reducible refine forK_n ?_
  | with_reducible refine we_lc ?_
  | ((with_reducible apply wg_nm); walk_at "npin"; walk_at "nset")
  | with_reducible refine wg_tup rfl ?_
  | with_reducible refine wgs_cons ?_
  | with_reducible refine wgs_nil ?_
  | with_reducible refine lcT_t ?_
  | ((with_reducible apply lcE_val); rfl)
  | ((with_reducible apply lcE_new); rfl)
  | with_reducible refine we_cat ?_
  | with_reducible refine catK1_new ?_
  | with_reducible refine catK1_slot ?_
  | with_reducible refine catK1_list ?_
  | with_reducible refine ws_par ?_
  | ((with_reducible apply parK_ok); walk_at "npin"; walk_at "npin"; walk_at "nset")
  | with_reducible refine lpK_nx ?_
  | with_reducible refine lpK_ret ?_
  | with_reducible refine ws_asg ?_
  | with_reducible refine asgK_val ?_
  | with_reducible refine we_cut ?_
  | with_reducible refine cutK_val ?_
  | with_reducible refine cutK_new ?_
  | with_reducible refine cutK_slot ?_
  | with_reducible refine wp_none ?_
  | with_reducible refine wp_some ?_
  | with_reducible refine ptK_int ?_
  | with_reducible refine cutK2_t ?_
  | with_reducible refine cutK2_l ?_
  | ((with_reducible apply cutK2_s); rfl)
  | with_reducible refine we_meth ?_
  | with_reducible refine mthK_t ?_
  | with_reducible refine mthK_l ?_
  | with_reducible refine mthK_n ?_
  | with_reducible refine mthK_s ?_
  | with_reducible refine opK2_vv xCntT ?_
  | with_reducible refine opK2_vv xCntL ?_
  | ((with_reducible apply opK2_sv (h := xCntL)); rfl)
  | with_reducible refine we_frz ?_
  | walk_at "isi"
  | with_reducible refine frzK_val ?_
  | with_reducible refine frzK_new ?_
  | ((with_reducible apply we_mut); rfl)
  | with_reducible refine ws_setIx ?_
  | ((with_reducible apply sixK_val); rfl)
  | ((with_reducible apply ws_aug); rfl)
  | ((with_reducible refine defK_val ?_); try dsimp only [outsOf, List.zipWith])
  | ((with_reducible refine defK_new ?_); try dsimp only [outsOf, List.zipWith])
  | ((with_reducible refine defK_nx ?_); try dsimp only [outsOf, List.zipWith])
  | ((with_reducible apply defK_slot); rfl; try dsimp only [outsOf, List.zipWith])
  | ((with_reducible refine wf_def ?_); try simp only [List.length_cons, List.length_nil, List.cons_append, List.nil_append, Nat.reduceAdd, Nat.reduceSub, List.reduceReplicate]))
local macro_rules | `(tactic| walk_at "wp") => `(tactic| repeat (walk_at "w1"))
local macro_rules | `(tactic| walk_at "wt") => `(tactic| repeat (first | with_reducible refine wt_nil ?_ | with_reducible refine wt_cons ?_ | with_reducible refine takK_val ?_ | with_reducible refine takK_new ?_ | with_reducible refine tcK_ok ?_ | with_reducible refine tupK_ok ?_ | ((with_reducible apply parK_ok); walk_at "npin"; walk_at "npin"; walk_at "nset")))
local macro_rules | `(tactic| walk_at "wipe") => `(tactic| simp only [wipeE, unwipe, List.getD_cons_succ, List.getD_cons_zero, List.set_cons_succ, List.set_cons_zero])
section
variable {R : Rs → List Sl → Prop} {a b : List Int}
local macro_rules | `(tactic| walk_at "spec") => `(tactic| fail)
theorem mk8 {ms : List Int} (h : Mk ms) : ms.length ≤ 8 := h.2.1
theorem difference_between_w (ha : 0 < a.length) (la : a.length ≤ 8) (hb : 0 < b.length) (lb : b.length ≤ 8) (q : R (.val (diffD a b)) [.val (.tuple (a.map PyData.int)), .val (.tuple (b.map PyData.int))]) : WF f_difference_between [.val (.tuple (a.map PyData.int)), .val (.tuple (b.map PyData.int))] R := by
  unfold f_difference_between
  walk_at "wp"
  unfold diffD at q
  refine ifK_nd (fun c => ?_) (fun c => ?_)
  · rw [if_neg (fun z => c (by rw [z]))] at q
    walk_at "wp"
    exact q
  · rw [if_pos (Int.ofNat.inj c)] at q
    walk_at "wp"
    refine steps_w la ?_
    walk_at "wp"
    refine steps_w lb ?_
    walk_at "wp"
    refine step_difference_w (by rw [ds_len]; omega) (by rw [ds_len]; omega) ?_
    unfold stepD
    cases h : stepDiff (ds a) (ds b) with
    | some s =>
      rw [h] at q
      walk_at "wp"
      refine ifK_b (fun _ => ?_) (fun z => by cases z)
      walk_at "wp"
      exact q
    | none =>
      rw [h] at q
      walk_at "wp"
      refine ifK_b (fun z => by cases z) (fun _ => ?_)
      walk_at "wp"
      refine mark_difference_w ha la hb ?_
      walk_at "wp"
      have hm : ∃ d, markD a b = d := ⟨_, rfl⟩
      exact q
theorem difference_w (ha : Mk a) (hb : Mk b) (q : R (.val (diffD a b)) [.val (.tuple (a.map PyData.int)), .val (.tuple (b.map PyData.int))]) : WF f_find_difference [.val (.tuple (a.map PyData.int)), .val (.tuple (b.map PyData.int))] R := by
  unfold f_find_difference
  walk_at "wp"
  refine check_ring_w ha ?_
  walk_at "wp"
  refine check_ring_w hb ?_
  walk_at "wp"
  refine difference_between_w (mk_pos ha) (mk8 ha) (mk_pos hb) (mk8 hb) ?_
  walk_at "wp"
  exact q
end
end MR

set_option Elab.async false
set_option linter.all false
set_option maxRecDepth 100000
set_option maxHeartbeats 1000000
namespace MR
open PySem PySem.Spec PyProof.Rows L2
variable [Tq]
/-! ### the difference the other way round -/
theorem gfold_dvd {d0 : Int} {k : Nat} : ∀ {l : List Int} {m : Nat}, k ∣ gfold d0 l m ↔ k ∣ m ∧ ∀ d ∈ l, k ∣ (d - d0).natAbs
  | [], m => by simp [gfold]
  | d :: l, m => by
    show k ∣ gfold d0 l (Nat.gcd m (d - d0).natAbs) ↔ _
    rw [gfold_dvd, Nat.dvd_gcd_iff]
    simp only [List.mem_cons, forall_eq_or_imp]
    exact and_assoc
theorem natAbs_sub_dvd {k : Nat} {x y z : Int} (h1 : k ∣ (x - z).natAbs) (h2 : k ∣ (y - z).natAbs) : k ∣ (x - y).natAbs := by
  have a := Int.ofNat_dvd_left.mpr h1
  have b := Int.ofNat_dvd_left.mpr h2
  have c := Int.dvd_sub a b
  rw [show x - z - (y - z) = x - y by omega] at c
  exact Int.ofNat_dvd_left.mp c
theorem gfold_all {k : Nat} {l : List Int} (h : 0 < l.length) : k ∣ gfold (l.getD 0 0) l 0 ↔ ∀ x ∈ l, ∀ y ∈ l, k ∣ (x - y).natAbs := by
  rw [gfold_dvd]
  constructor
  · rintro ⟨_, h1⟩ x hx y hy
    exact natAbs_sub_dvd (h1 x hx) (h1 y hy)
  · intro h1
    exact ⟨Nat.dvd_zero _, fun d hd => h1 d hd _ (getD_mem h)⟩
theorem gfold_perm {l m : List Int} (h : 0 < l.length) (p : ∀ x, x ∈ l ↔ x ∈ m) : gfold (l.getD 0 0) l 0 = gfold (m.getD 0 0) m 0 := by
  have hm : 0 < m.length := by
    cases l with
    | nil => cases h
    | cons x l => exact List.length_pos_of_mem ((p x).mp List.mem_cons_self)
  refine Nat.dvd_antisymm ?_ ?_
  · rw [gfold_all hm]
    intro x hx y hy
    exact (gfold_all h).mp (Nat.dvd_refl _) x ((p x).mpr hx) y ((p y).mpr hy)
  · rw [gfold_all h]
    intro x hx y hy
    exact (gfold_all hm).mp (Nat.dvd_refl _) x ((p x).mp hx) y ((p y).mp hy)
theorem stepDiff_none {a b : List Int} : stepDiff a b = none ↔ ∀ k, a.count k = b.count k := by
  unfold stepDiff
  rw [List.find?_eq_none]
  constructor
  · intro h k
    by_cases hk : k ∈ a ++ b
    · have := h k (mem_usort.mpr hk)
      simpa using this
    · rw [List.mem_append] at hk
      rw [List.count_eq_zero_of_not_mem fun z => hk (.inl z), List.count_eq_zero_of_not_mem fun z => hk (.inr z)]
  · intro h k _
    rw [h k]
    simp
theorem markD_none {a b : List Int} : isNone (markD a b) = decide (resd (gm a) (a.getD 0 0) = resd (gm a) (b.getD 0 0)) := by
  unfold markD
  split <;> rename_i c
  · rw [decide_eq_true c]; rfl
  · rw [decide_eq_false c]; rfl
theorem diffD_none {a b : List Int} : isNone (diffD a b) = true ↔ a.length = b.length ∧ (∀ k, (ds a).count k = (ds b).count k) ∧ resd (gm a) (a.getD 0 0) = resd (gm a) (b.getD 0 0) := by
  unfold diffD
  by_cases c : a.length = b.length
  · rw [if_pos c]
    cases h : stepDiff (ds a) (ds b) with
    | some s =>
      constructor
      · intro z; cases z
      · rintro ⟨_, z, _⟩
        rw [stepDiff_none.mpr z] at h
        cases h
    | none =>
      show isNone (markD a b) = true ↔ _
      rw [markD_none, decide_eq_true_eq]
      exact ⟨fun z => ⟨c, stepDiff_none.mp h, z⟩, fun z => z.2.2⟩
  · rw [if_neg c]
    constructor
    · intro z; cases z
    · exact fun z => absurd z.1 c
/-! ### equal data is told equal -/
mutual
/-- data without dicts, short lists, n levels deep -/
def Plain : Nat → D → Prop
  | _, .none => True
  | _, .bool _ => True
  | _, .int _ => True
  | _, .str s => PyData.strOk s = true
  | n + 1, .list xs => xs.length ≤ 1000 ∧ PlainAll n xs
  | n + 1, .tuple xs => xs.length ≤ 1000 ∧ PlainAll n xs
  | _, _ => False
def PlainAll : Nat → List D → Prop
  | _, [] => True
  | n, d :: ds => Plain n d ∧ PlainAll n ds
end
theorem PlainAll.mem : ∀ {n : Nat} {xs : List D} {d : D}, PlainAll n xs → d ∈ xs → Plain n d
  | n, x :: xs, d, h, hd => by
    unfold PlainAll at h
    rcases List.mem_cons.mp hd with rfl | hd
    · exact h.1
    · exact h.2.mem hd
end MR

set_option Elab.async false
set_option linter.all false
set_option maxRecDepth 100000
set_option maxHeartbeats 1000000
namespace MR
open PySem PySem.Spec PyProof.Rows L2
variable [Tq]
local macro_rules | `(tactic| walk_at "npin") => `(tactic| first | rfl | exact np_at rfl (by assumption))
local macro_rules | `(tactic| walk_at "isi") => `(tactic| first
  | with_reducible refine isi_int_n ?_
  | with_reducible refine isi_int_b ?_
  | with_reducible refine isi_int_i ?_
  | with_reducible refine isi_int_s ?_
  | with_reducible refine isi_int_l ?_
  | with_reducible refine isi_int_t ?_
  | ((with_reducible apply isi_int_o); rfl)
  | with_reducible refine isi_bool_n ?_
  | with_reducible refine isi_bool_b ?_
  | with_reducible refine isi_bool_i ?_
  | with_reducible refine isi_bool_s ?_
  | with_reducible refine isi_bool_l ?_
  | with_reducible refine isi_bool_t ?_
  | ((with_reducible apply isi_bool_o); rfl)
  | with_reducible refine isi_str_n ?_
  | with_reducible refine isi_str_b ?_
  | with_reducible refine isi_str_i ?_
  | with_reducible refine isi_str_s ?_
  | with_reducible refine isi_str_l ?_
  | with_reducible refine isi_str_t ?_
  | ((with_reducible apply isi_str_o); rfl)
  | with_reducible refine isi_tuple_n ?_
  | with_reducible refine isi_tuple_b ?_
  | with_reducible refine isi_tuple_i ?_
  | with_reducible refine isi_tuple_s ?_
  | with_reducible refine isi_tuple_l ?_
  | with_reducible refine isi_tuple_t ?_
  | ((with_reducible apply isi_tuple_o); rfl)
  | with_reducible refine isi_list_n ?_
  | with_reducible refine isi_list_b ?_
  | with_reducible refine isi_list_i ?_
  | with_reducible refine isi_list_s ?_
  | with_reducible refine isi_list_l ?_
  | with_reducible refine isi_list_t ?_
  | ((with_reducible apply isi_list_o); rfl))
local macro_rules | `(tactic| walk_at "nset") => `(tactic| try simp only [List.set_cons_succ, List.set_cons_zero])
local macro_rules | `(tactic| walk_at "w1") => `(tactic| first
  | with_reducible refine ws_seq ?_
  | with_reducible refine seqK_nx ?_
  | with_reducible refine seqK_ret ?_
  | with_reducible refine ws_skip ?_
  | with_reducible refine ws_expr ?_
  | with_reducible refine exK_val ?_
  | with_reducible refine exK_new ?_
  | with_reducible refine exK_err ?_
  | with_reducible refine seqK_err ?_
  | with_reducible refine rtK_err ?_
  | with_reducible refine setK_err ?_
  | with_reducible refine retV_err ?_
  | ((with_reducible refine retO_err ?_); walk_at "nset")
  | ((with_reducible refine defK_err ?_); try dsimp only [outsOf, List.zipWith])
  | with_reducible refine ws_raise1 ?_
  | with_reducible refine raK_int ?_
  | with_reducible refine we_errOf ?_
  | with_reducible refine eofK_val ?_
  | with_reducible refine eofK_new ?_
  | with_reducible refine ws_ret ?_
  | with_reducible refine rtK_val ?_
  | with_reducible refine rtK_new ?_
  | with_reducible refine rtK_slot ?_
  | with_reducible refine ws_set ?_
  | ((with_reducible apply setK_val); walk_at "npin"; walk_at "nset")
  | ((with_reducible apply setK_new); walk_at "npin"; walk_at "nset")
  | with_reducible refine ws_if ?_
  | with_reducible refine we_c ?_
  | ((with_reducible apply we_var); rfl)
  | ((with_reducible apply we_varo); rfl)
  | with_reducible refine we_op ?_
  | with_reducible refine opK1_val ?_
  | with_reducible refine opK1_new ?_
  | with_reducible refine opK1_slot ?_
  | with_reducible refine opK2_vv xAdd ?_
  | with_reducible refine opK2_vv xSub ?_
  | with_reducible refine opK2_vv xLt ?_
  | with_reducible refine opK2_vv xLe ?_
  | with_reducible refine opK2_vv xGt ?_
  | with_reducible refine opK2_vv xGe ?_
  | with_reducible refine opK2_vv xEq ?_
  | with_reducible refine opK2_vv xNe ?_
  | with_reducible refine opK2_vv xIsN ?_
  | with_reducible refine opK2_vv xNotN ?_
  | with_reducible refine we_un ?_
  | with_reducible refine unK_val xNeg ?_
  | (with_reducible refine we_isi ?_)
  | with_reducible refine we_not ?_
  | with_reducible refine notK_t ?_
  | with_reducible refine notK_f ?_
  | with_reducible refine notK_b ?_
  | with_reducible refine we_and ?_
  | with_reducible refine andK_t ?_
  | with_reducible refine andK_f ?_
  | with_reducible refine we_or ?_
  | with_reducible refine orK_t ?_
  | with_reducible refine orK_f ?_
  | with_reducible refine we_ifE ?_
  | with_reducible refine ifEK_t ?_
  | with_reducible refine ifEK_f ?_
  | with_reducible refine ifK_t ?_
  | with_reducible refine ifK_f ?_
  | with_reducible refine we_fn ?_
  | with_reducible refine we_call ?_
  | walk_at "spec"
  | with_reducible refine wa_cons ?_
  | with_reducible refine wa_nil ?_
  | with_reducible refine argK_val ?_
  | with_reducible refine argK_new ?_
  | with_reducible refine argK_slot ?_
  | with_reducible refine argK2_val ?_
  | ((with_reducible apply argK2_slot); rfl)
  | with_reducible refine fnK_v xLenTI ?_
  | with_reducible refine fnK_v xLenLI ?_
  | ((with_reducible apply fnK_s (h := xLenLI)); rfl)
  | with_reducible refine fnK_v xLenT ?_
  | with_reducible refine fnK_v xLenL ?_
  | ((with_reducible apply fnK_s (h := xLenL)); rfl)
  | with_reducible refine fnK_v xTupL ?_
  | with_reducible refine fnK_v xTupT ?_
  | ((with_reducible apply fnK_s (h := xTupL)); rfl)
  | with_reducible refine fnK_v xLstL ?_
  | with_reducible refine fnK_v xLstT ?_
  | ((with_reducible apply fnK_s (h := xLstL)); rfl)
  | with_reducible refine fnK_v xAbs ?_
  | with_reducible refine fnK_vv xGcd ?_
  | with_reducible refine callK_v1 ?_
  | with_reducible refine callK_v2 ?_
  | with_reducible refine callK_v3 ?_
  | ((with_reducible apply callK_o0); rfl)
  | ((with_reducible apply callK_o1); rfl)
  | ((with_reducible apply callK_o2); rfl)
  | with_reducible refine retV_val ?_
  | with_reducible refine retV_new ?_
  | ((with_reducible refine retO_val ?_); walk_at "nset")
  | ((with_reducible refine retO_new ?_); walk_at "nset")
  | with_reducible refine we_tup ?_
  | with_reducible refine we_lst ?_
  | with_reducible refine wt_cons ?_
  | with_reducible refine wt_nil ?_
  | with_reducible refine takK_val ?_
  | with_reducible refine takK_new ?_
  | with_reducible refine tcK_ok ?_
  | with_reducible refine tupK_ok ?_
  | with_reducible refine ws_for ?_
  | with_reducible refine wi_rg ?_
  | with_reducible refine wi_seq ?_
  | with_reducible refine wi_enum ?_
  | with_reducible refine wi_zip2 ?_
  | with_reducible refine wi_zip3 ?_
  | with_reducible refine zipK2_tt ?_
  | with_reducible refine zipK2_tl ?_
  | with_reducible refine zipK2_ll ?_
  | with_reducible refine zipK3_tll ?_
  | with_reducible refine wi_rg3 ?_
  | with_reducible refine unK_val xBackT ?_
  | with_reducible refine unK_val xBackL ?_
  | with_reducible refine itK_list ?_
  | with_reducible refine itK_tuple ?_
  | with_reducible refine itK_new ?_
  | ((with_reducible apply itK_slot); rfl)
  | with_reducible refine enK_l ?_
  | with_reducible refine enK_t ?_
  | with_reducible refine forK_n ?_
  | with_reducible refine we_lc ?_
  | ((with_reducible apply wg_nm); walk_at "npin"; walk_at "nset")
  | with_reducible refine wg_tup rfl ?_
  | with_reducible refine wgs_cons ?_
  | with_reducible refine wgs_nil ?_
  | with_reducible refine lcT_t ?_
  | ((with_reducible apply lcE_val); rfl)
  | ((with_reducible apply lcE_new); rfl)
  | with_reducible refine we_cat ?_
  | with_reducible refine catK1_new ?_
  | with_reducible refine catK1_slot ?_
  | with_reducible refine catK1_list ?_
  | with_reducible refine ws_par ?_
  | ((with_reducible apply parK_ok); walk_at "npin"; walk_at "npin"; walk_at "nset")
  | with_reducible refine lpK_nx ?_
  | with_reducible refine lpK_ret ?_
  | with_reducible refine ws_asg ?_
  | with_reducible refine asgK_val ?_
  | with_reducible refine we_cut ?_
  | with_reducible refine cutK_val ?_
  | with_reducible refine cutK_new ?_
  | with_reducible refine cutK_slot ?_
  | with_reducible refine wp_none ?_
  | with_reducible refine wp_some ?_
  | with_reducible refine ptK_int ?_
  | with_reducible refine cutK2_t ?_
  | with_reducible refine cutK2_l ?_
  | ((with_reducible apply cutK2_s); rfl)
  | with_reducible refine we_meth ?_
  | with_reducible refine mthK_t ?_
  | with_reducible refine mthK_l ?_
  | with_reducible refine mthK_n ?_
  | with_reducible refine mthK_s ?_
  | with_reducible refine opK2_vv xCntT ?_
  | with_reducible refine opK2_vv xCntL ?_
  | ((with_reducible apply opK2_sv (h := xCntL)); rfl)
  | with_reducible refine we_frz ?_
  | walk_at "isi"
  | with_reducible refine frzK_val ?_
  | with_reducible refine frzK_new ?_
  | ((with_reducible apply we_mut); rfl)
  | with_reducible refine ws_setIx ?_
  | ((with_reducible apply sixK_val); rfl)
  | ((with_reducible apply ws_aug); rfl)
  | ((with_reducible refine defK_val ?_); try dsimp only [outsOf, List.zipWith])
  | ((with_reducible refine defK_new ?_); try dsimp only [outsOf, List.zipWith])
  | ((with_reducible refine defK_nx ?_); try dsimp only [outsOf, List.zipWith])
  | ((with_reducible apply defK_slot); rfl; try dsimp only [outsOf, List.zipWith])
  | ((with_reducible refine wf_def ?_); try simp only [List.length_cons, List.length_nil, List.cons_append, List.nil_append, Nat.reduceAdd, Nat.reduceSub, List.reduceReplicate]))
local macro_rules | `(tactic| walk_at "wp") => `(tactic| repeat (walk_at "w1"))
local macro_rules | `(tactic| walk_at "wt") => `(tactic| repeat (first | with_reducible refine wt_nil ?_ | with_reducible refine wt_cons ?_ | with_reducible refine takK_val ?_ | with_reducible refine takK_new ?_ | with_reducible refine tcK_ok ?_ | with_reducible refine tupK_ok ?_ | ((with_reducible apply parK_ok); walk_at "npin"; walk_at "npin"; walk_at "nset")))
local macro_rules | `(tactic| walk_at "wipe") => `(tactic| simp only [wipeE, unwipe, List.getD_cons_succ, List.getD_cons_zero, List.set_cons_succ, List.set_cons_zero])
local macro_rules | `(tactic| walk_at "spec") => `(tactic| fail)
end MR

set_option Elab.async false
set_option linter.all false
set_option maxRecDepth 100000
set_option maxHeartbeats 1000000
namespace MR
open PySem PySem.Spec PyProof.Rows L2
variable [Tq]
local macro_rules | `(tactic| walk_at "npin") => `(tactic| first | rfl | exact np_at rfl (by assumption))
local macro_rules | `(tactic| walk_at "isi") => `(tactic| first
  | with_reducible refine isi_int_n ?_
  | with_reducible refine isi_int_b ?_
  | with_reducible refine isi_int_i ?_
  | with_reducible refine isi_int_s ?_
  | with_reducible refine isi_int_l ?_
  | with_reducible refine isi_int_t ?_
  | ((with_reducible apply isi_int_o); rfl)
  | with_reducible refine isi_bool_n ?_
  | with_reducible refine isi_bool_b ?_
  | with_reducible refine isi_bool_i ?_
  | with_reducible refine isi_bool_s ?_
  | with_reducible refine isi_bool_l ?_
  | with_reducible refine isi_bool_t ?_
  | ((with_reducible apply isi_bool_o); rfl)
  | with_reducible refine isi_str_n ?_
  | with_reducible refine isi_str_b ?_
  | with_reducible refine isi_str_i ?_
  | with_reducible refine isi_str_s ?_
  | with_reducible refine isi_str_l ?_
  | with_reducible refine isi_str_t ?_
  | ((with_reducible apply isi_str_o); rfl)
  | with_reducible refine isi_tuple_n ?_
  | with_reducible refine isi_tuple_b ?_
  | with_reducible refine isi_tuple_i ?_
  | with_reducible refine isi_tuple_s ?_
  | with_reducible refine isi_tuple_l ?_
  | with_reducible refine isi_tuple_t ?_
  | ((with_reducible apply isi_tuple_o); rfl)
  | with_reducible refine isi_list_n ?_
  | with_reducible refine isi_list_b ?_
  | with_reducible refine isi_list_i ?_
  | with_reducible refine isi_list_s ?_
  | with_reducible refine isi_list_l ?_
  | with_reducible refine isi_list_t ?_
  | ((with_reducible apply isi_list_o); rfl))
local macro_rules | `(tactic| walk_at "nset") => `(tactic| try simp only [List.set_cons_succ, List.set_cons_zero])
local macro_rules | `(tactic| walk_at "w1") => `(tactic| first
  | with_reducible refine ws_seq ?_
  | with_reducible refine seqK_nx ?_
  | with_reducible refine seqK_ret ?_
  | with_reducible refine ws_skip ?_
  | with_reducible refine ws_expr ?_
  | with_reducible refine exK_val ?_
  | with_reducible refine exK_new ?_
  | with_reducible refine exK_err ?_
  | with_reducible refine seqK_err ?_
  | with_reducible refine rtK_err ?_
  | with_reducible refine setK_err ?_
  | with_reducible refine retV_err ?_
  | ((with_reducible refine retO_err ?_); walk_at "nset")
  | ((with_reducible refine defK_err ?_); try dsimp only [outsOf, List.zipWith])
  | with_reducible refine ws_raise1 ?_
  | with_reducible refine raK_int ?_
  | with_reducible refine we_errOf ?_
  | with_reducible refine eofK_val ?_
  | with_reducible refine eofK_new ?_
  | with_reducible refine ws_ret ?_
  | with_reducible refine rtK_val ?_
  | with_reducible refine rtK_new ?_
  | with_reducible refine rtK_slot ?_
  | with_reducible refine ws_set ?_
  | ((with_reducible apply setK_val); walk_at "npin"; walk_at "nset")
  | ((with_reducible apply setK_new); walk_at "npin"; walk_at "nset")
  | with_reducible refine ws_if ?_
  | with_reducible refine we_c ?_
  | ((with_reducible apply we_var); rfl)
  | ((with_reducible apply we_varo); rfl)
  | with_reducible refine we_op ?_
  | with_reducible refine opK1_val ?_
  | with_reducible refine opK1_new ?_
  | with_reducible refine opK1_slot ?_
  | with_reducible refine opK2_vv xAdd ?_
  | with_reducible refine opK2_vv xSub ?_
  | with_reducible refine opK2_vv xLt ?_
  | with_reducible refine opK2_vv xLe ?_
  | with_reducible refine opK2_vv xGt ?_
  | with_reducible refine opK2_vv xGe ?_
  | with_reducible refine opK2_vv xEq ?_
  | with_reducible refine opK2_vv xNe ?_
  | with_reducible refine opK2_vv xIsN ?_
  | with_reducible refine opK2_vv xNotN ?_
  | with_reducible refine we_un ?_
  | with_reducible refine unK_val xNeg ?_
  | (with_reducible refine we_isi ?_)
  | with_reducible refine we_not ?_
  | with_reducible refine notK_t ?_
  | with_reducible refine notK_f ?_
  | with_reducible refine notK_b ?_
  | with_reducible refine we_and ?_
  | with_reducible refine andK_t ?_
  | with_reducible refine andK_f ?_
  | with_reducible refine we_or ?_
  | with_reducible refine orK_t ?_
  | with_reducible refine orK_f ?_
  | with_reducible refine we_ifE ?_
  | with_reducible refine ifEK_t ?_
  | with_reducible refine ifEK_f ?_
  | with_reducible refine ifK_t ?_
  | with_reducible refine ifK_f ?_
  | with_reducible refine we_fn ?_
  | with_reducible refine we_call ?_
  | walk_at "spec"
  | with_reducible refine wa_cons ?_
  | with_reducible refine wa_nil ?_
  | with_reducible refine argK_val ?_
  | with_reducible refine argK_new ?_
  | with_reducible refine argK_slot ?_
  | with_reducible refine argK2_val ?_
  | ((with_reducible apply argK2_slot); rfl)
  | with_reducible refine fnK_v xLenTI ?_
  | with_reducible refine fnK_v xLenLI ?_
  | ((with_reducible apply fnK_s (h := xLenLI)); rfl)
  | with_reducible refine fnK_v xLenT ?_
  | with_reducible refine fnK_v xLenL ?_
  | ((with_reducible apply fnK_s (h := xLenL)); rfl)
  | with_reducible refine fnK_v xTupL ?_
  | with_reducible refine fnK_v xTupT ?_
  | ((with_reducible apply fnK_s (h := xTupL)); rfl)
  | with_reducible refine fnK_v xLstL ?_
  | with_reducible refine fnK_v xLstT ?_
  | ((with_reducible apply fnK_s (h := xLstL)); rfl)
  | with_reducible refine fnK_v xAbs ?_
  | with_reducible refine fnK_vv xGcd ?_
  | with_reducible refine callK_v1 ?_
  | with_reducible refine callK_v2 ?_
  | with_reducible refine callK_v3 ?_
  | ((with_reducible apply callK_o0); rfl)
  | ((with_reducible apply callK_o1); rfl)
  | ((with_reducible apply callK_o2); rfl)
  | with_reducible refine retV_val ?_
  | with_reducible refine retV_new ?_
  | ((with_reducible refine retO_val ?_); walk_at "nset")
  | ((with_reducible refine retO_new ?_); walk_at "nset")
  | with_reducible refine we_tup ?_
  | with_reducible refine we_lst ?_
  | with_reducible refine wt_cons ?_
  | with_reducible refine wt_nil ?_
  | with_reducible refine takK_val ?_
  | with_reducible refine takK_new ?_
  | with_reducible refine tcK_ok ?_
  | with_reducible refine tupK_ok ?_
  | with_reducible refine ws_for ?_
  | with_reducible refine wi_rg ?_
  | with_reducible refine wi_seq ?_
  | with_reducible refine wi_enum ?_
  | with_reducible refine wi_zip2 ?_
  | with_reducible refine wi_zip3 ?_
  | with_reducible refine zipK2_tt ?_
  | with_reducible refine zipK2_tl ?_
  | with_reducible refine zipK2_ll ?_
  | with_reducible refine zipK3_tll ?_
  | with_reducible refine wi_rg3 ?_
  | with_reducible refine unK_val xBackT ?_
  | with_reducible refine unK_val xBackL ?_
  | with_reducible refine itK_list ?_
  | with_reducible refine itK_tuple ?_
  | with_reducible refine itK_new ?_
  | ((with_reducible apply itK_slot); rfl)
  | with_reducible refine enK_l ?_
  | with_reducible refine enK_t ?_
  | with_reducible refine forK_n ?_
  | with_reducible refine we_lc ?_
  | ((with_reducible apply wg_nm); walk_at "npin"; walk_at "nset")
  | with_reducible refine wg_tup rfl ?_
  | with_reducible refine wgs_cons ?_
  | with_reducible refine wgs_nil ?_
  | with_reducible refine lcT_t ?_
  | ((with_reducible apply lcE_val); rfl)
  | ((with_reducible apply lcE_new); rfl)
  | with_reducible refine we_cat ?_
  | with_reducible refine catK1_new ?_
  | with_reducible refine catK1_slot ?_
  | with_reducible refine catK1_list ?_
  | with_reducible refine ws_par ?_
  | ((with_reducible apply parK_ok); walk_at "npin"; walk_at "npin"; walk_at "nset")
  | with_reducible refine lpK_nx ?_
  | with_reducible refine lpK_ret ?_
  | with_reducible refine ws_asg ?_
  | with_reducible refine asgK_val ?_
  | with_reducible refine we_cut ?_
  | with_reducible refine cutK_val ?_
  | with_reducible refine cutK_new ?_
  | with_reducible refine cutK_slot ?_
  | with_reducible refine wp_none ?_
  | with_reducible refine wp_some ?_
  | with_reducible refine ptK_int ?_
  | with_reducible refine cutK2_t ?_
  | with_reducible refine cutK2_l ?_
  | ((with_reducible apply cutK2_s); rfl)
  | with_reducible refine we_meth ?_
  | with_reducible refine mthK_t ?_
  | with_reducible refine mthK_l ?_
  | with_reducible refine mthK_n ?_
  | with_reducible refine mthK_s ?_
  | with_reducible refine opK2_vv xCntT ?_
  | with_reducible refine opK2_vv xCntL ?_
  | ((with_reducible apply opK2_sv (h := xCntL)); rfl)
  | with_reducible refine we_frz ?_
  | walk_at "isi"
  | with_reducible refine frzK_val ?_
  | with_reducible refine frzK_new ?_
  | ((with_reducible apply we_mut); rfl)
  | with_reducible refine ws_setIx ?_
  | ((with_reducible apply sixK_val); rfl)
  | ((with_reducible apply ws_aug); rfl)
  | ((with_reducible refine defK_val ?_); try dsimp only [outsOf, List.zipWith])
  | ((with_reducible refine defK_new ?_); try dsimp only [outsOf, List.zipWith])
  | ((with_reducible refine defK_nx ?_); try dsimp only [outsOf, List.zipWith])
  | ((with_reducible apply defK_slot); rfl; try dsimp only [outsOf, List.zipWith])
  | ((with_reducible refine wf_def ?_); try simp only [List.length_cons, List.length_nil, List.cons_append, List.nil_append, Nat.reduceAdd, Nat.reduceSub, List.reduceReplicate]))
local macro_rules | `(tactic| walk_at "wp") => `(tactic| repeat (walk_at "w1"))
local macro_rules | `(tactic| walk_at "wt") => `(tactic| repeat (first | with_reducible refine wt_nil ?_ | with_reducible refine wt_cons ?_ | with_reducible refine takK_val ?_ | with_reducible refine takK_new ?_ | with_reducible refine tcK_ok ?_ | with_reducible refine tupK_ok ?_ | ((with_reducible apply parK_ok); walk_at "npin"; walk_at "npin"; walk_at "nset")))
local macro_rules | `(tactic| walk_at "wipe") => `(tactic| simp only [wipeE, unwipe, List.getD_cons_succ, List.getD_cons_zero, List.set_cons_succ, List.set_cons_zero])
local macro_rules | `(tactic| walk_at "spec") => `(tactic| fail)
local macro_rules | `(tactic| walk_at "wipe") => `(tactic| simp only [wipeE, unwipe, List.getD_cons_succ, List.getD_cons_zero, List.set_cons_succ, List.set_cons_zero])
theorem getD_eq {ns : List Int} {k : Nat} (h : k < ns.length) : ns.getD k 0 = ns[k] := by rw [List.getD_eq_getElem?_getD, List.getElem?_eq_getElem h]; rfl
section
variable {R : Rs → List Sl → Prop} {ms : List Int}
theorem seats_w {src : List D} {n : Nat} {m : Nat} (hs : Src src) (hn : 0 < n) (hn2 : n ≤ 1000) (hm : m ≤ 1000) (q : ∀ ys (is : List Nat), Src ys → (∀ i ∈ is, i < n) → is.length ≤ m → R (.new ((sI is).map PyData.int)) [.own true ys, .val (.int (n : Int)), .val (.int (m : Int))]) : WF f_l_seats [.own true src, .val (.int (n : Int)), .val (.int (m : Int))] R := by
  unfold f_l_seats
  walk_at "wp"
  refine below_w hs (by omega) (by omega) fun c ys hy h0 h1 => ?_
  obtain ⟨c, rfl⟩ : ∃ k : Nat, c = k := ⟨c.toNat, by omega⟩
  walk_at "wp"
  refine rgK_n (by omega) ?_
  refine lcK_n (by rfl) (by unfold rgI; simp; omega) ?_
  walk_at "wipe"
  have hl : (rgI 0 c).length = c := by unfold rgI; simp
  refine ll_ind (I := fun k acc e => ∃ xs is, Src xs ∧ (∀ i ∈ is, i < n) ∧ is.length = k ∧ acc = (sI is).map PyData.int ∧ e = [.own true xs, .val (.int (n : Int)), .val (.int (m : Int)), .un]) ⟨ys, [], hy, nofun, rfl, rfl, rfl⟩ ?_ ?_
  · rintro k d acc e hd ⟨xs, is, g1, g2, g3, rfl, rfl⟩
    walk_at "wp"
    refine below_w g1 (by omega) (by omega) fun x zs hz h2 h3 => ?_
    obtain ⟨x, rfl⟩ : ∃ k : Nat, x = k := ⟨x.toNat, by omega⟩
    walk_at "wp"
    refine ⟨zs, is ++ [x], hz, fun i hi => ?_, by rw [List.length_append]; simp [g3], by rw [← sI_app], rfl⟩
    rcases List.mem_append.mp hi with hi | hi
    · exact g2 i hi
    · rw [List.mem_singleton.mp hi]; omega
  · rintro acc e ⟨xs, is, g1, g2, g3, rfl, rfl⟩
    walk_at "wipe"
    walk_at "wp"
    exact q xs is g1 g2 (by omega)
end
end MR

set_option Elab.async false
set_option linter.all false
set_option maxRecDepth 100000
set_option maxHeartbeats 1000000
namespace MR
open PySem PySem.Spec PyProof.Rows L2
variable [Tq]
local macro_rules | `(tactic| walk_at "npin") => `(tactic| first | rfl | exact np_at rfl (by assumption))
local macro_rules | `(tactic| walk_at "isi") => `(tactic| first
  | with_reducible refine isi_int_n ?_
  | with_reducible refine isi_int_b ?_
  | with_reducible refine isi_int_i ?_
  | with_reducible refine isi_int_s ?_
  | with_reducible refine isi_int_l ?_
  | with_reducible refine isi_int_t ?_
  | ((with_reducible apply isi_int_o); rfl)
  | with_reducible refine isi_bool_n ?_
  | with_reducible refine isi_bool_b ?_
  | with_reducible refine isi_bool_i ?_
  | with_reducible refine isi_bool_s ?_
  | with_reducible refine isi_bool_l ?_
  | with_reducible refine isi_bool_t ?_
  | ((with_reducible apply isi_bool_o); rfl)
  | with_reducible refine isi_str_n ?_
  | with_reducible refine isi_str_b ?_
  | with_reducible refine isi_str_i ?_
  | with_reducible refine isi_str_s ?_
  | with_reducible refine isi_str_l ?_
  | with_reducible refine isi_str_t ?_
  | ((with_reducible apply isi_str_o); rfl)
  | with_reducible refine isi_tuple_n ?_
  | with_reducible refine isi_tuple_b ?_
  | with_reducible refine isi_tuple_i ?_
  | with_reducible refine isi_tuple_s ?_
  | with_reducible refine isi_tuple_l ?_
  | with_reducible refine isi_tuple_t ?_
  | ((with_reducible apply isi_tuple_o); rfl)
  | with_reducible refine isi_list_n ?_
  | with_reducible refine isi_list_b ?_
  | with_reducible refine isi_list_i ?_
  | with_reducible refine isi_list_s ?_
  | with_reducible refine isi_list_l ?_
  | with_reducible refine isi_list_t ?_
  | ((with_reducible apply isi_list_o); rfl))
local macro_rules | `(tactic| walk_at "nset") => `(tactic| try simp only [List.set_cons_succ, List.set_cons_zero])
local macro_rules | `(tactic| walk_at "w1") => `(tactic| first
  | with_reducible refine ws_seq ?_
  | with_reducible refine seqK_nx ?_
  | with_reducible refine seqK_ret ?_
  | with_reducible refine ws_skip ?_
  | with_reducible refine ws_expr ?_
  | with_reducible refine exK_val ?_
  | with_reducible refine exK_new ?_
  | with_reducible refine exK_err ?_
  | with_reducible refine seqK_err ?_
  | with_reducible refine rtK_err ?_
  | with_reducible refine setK_err ?_
  | with_reducible refine retV_err ?_
  | ((with_reducible refine retO_err ?_); walk_at "nset")
  | ((with_reducible refine defK_err ?_); try dsimp only [outsOf, List.zipWith])
  | with_reducible refine ws_raise1 ?_
  | with_reducible refine raK_int ?_
  | with_reducible refine we_errOf ?_
  | with_reducible refine eofK_val ?_
  | with_reducible refine eofK_new ?_
  | with_reducible refine ws_ret ?_
  | with_reducible refine rtK_val ?_
  | with_reducible refine rtK_new ?_
  | with_reducible refine rtK_slot ?_
  | with_reducible refine ws_set ?_
  | ((with_reducible apply setK_val); walk_at "npin"; walk_at "nset")
  | ((with_reducible apply setK_new); walk_at "npin"; walk_at "nset")
  | with_reducible refine ws_if ?_
  | with_reducible refine we_c ?_
  | ((with_reducible apply we_var); rfl)
  | ((with_reducible apply we_varo); rfl)
  | with_reducible refine we_op ?_
  | with_reducible refine opK1_val ?_
  | with_reducible refine opK1_new ?_
  | with_reducible refine opK1_slot ?_
  | with_reducible refine opK2_vv xAdd ?_
  | with_reducible refine opK2_vv xSub ?_
  | with_reducible refine opK2_vv xLt ?_
  | with_reducible refine opK2_vv xLe ?_
  | with_reducible refine opK2_vv xGt ?_
  | with_reducible refine opK2_vv xGe ?_
  | with_reducible refine opK2_vv xEq ?_
  | with_reducible refine opK2_vv xNe ?_
  | with_reducible refine opK2_vv xIsN ?_
  | with_reducible refine opK2_vv xNotN ?_
  | with_reducible refine we_un ?_
  | with_reducible refine unK_val xNeg ?_
  | (with_reducible refine we_isi ?_)
  | with_reducible refine we_not ?_
  | with_reducible refine notK_t ?_
  | with_reducible refine notK_f ?_
  | with_reducible refine notK_b ?_
  | with_reducible refine we_and ?_
  | with_reducible refine andK_t ?_
  | with_reducible refine andK_f ?_
  | with_reducible refine we_or ?_
  | with_reducible refine orK_t ?_
  | with_reducible refine orK_f ?_
  | with_reducible refine we_ifE ?_
  | with_reducible refine ifEK_t ?_
  | with_reducible refine ifEK_f ?_
  | with_reducible refine ifK_t ?_
  | with_reducible refine ifK_f ?_
  | with_reducible refine we_fn ?_
  | with_reducible refine we_call ?_
  | walk_at "spec"
  | with_reducible refine wa_cons ?_
  | with_reducible refine wa_nil ?_
  | with_reducible refine argK_val ?_
  | with_reducible refine argK_new ?_
  | with_reducible refine argK_slot ?_
  | with_reducible refine argK2_val ?_
  | ((with_reducible apply argK2_slot); rfl)
  | with_reducible refine fnK_v xLenTI ?_
  | with_reducible refine fnK_v xLenLI ?_
  | ((with_reducible apply fnK_s (h := xLenLI)); rfl)
  | with_reducible refine fnK_v xLenT ?_
  | with_reducible refine fnK_v xLenL ?_
  | ((with_reducible apply fnK_s (h := xLenL)); rfl)
  | with_reducible refine fnK_v xTupL ?_
  | with_reducible refine fnK_v xTupT ?_
  | ((with_reducible apply fnK_s (h := xTupL)); rfl)
  | with_reducible refine fnK_v xLstL ?_
  | with_reducible refine fnK_v xLstT ?_
  | ((with_reducible apply fnK_s (h := xLstL)); rfl)
  | with_reducible refine fnK_v xAbs ?_
  | with_reducible refine fnK_vv xGcd ?_
  | with_reducible refine callK_v1 ?_
  | with_reducible refine callK_v2 ?_
  | with_reducible refine callK_v3 ?_
  | ((with_reducible apply callK_o0); rfl)
  | ((with_reducible apply callK_o1); rfl)
  | ((with_reducible apply callK_o2); rfl)
  | with_reducible refine retV_val ?_
  | with_reducible refine retV_new ?_
  | ((with_reducible refine retO_val ?_); walk_at "nset")
  | ((with_reducible refine retO_new ?_); walk_at "nset")
  | with_reducible refine we_tup ?_
  | with_reducible refine we_lst ?_
  | with_reducible refine wt_cons ?_
  | with_reducible refine wt_nil ?_
  | with_reducible refine takK_val ?_
  | with_reducible refine takK_new ?_
  | with_reducible refine tcK_ok ?_
  | with_reducible refine tupK_ok ?_
  | with_reducible refine ws_for ?_
  | with_reducible refine wi_rg ?_
  | with_reducible refine wi_seq ?_
  | with_reducible refine wi_enum ?_
  | with_reducible refine wi_zip2 ?_
  | with_reducible refine wi_zip3 ?_
  | with_reducible refine zipK2_tt ?_
  | with_reducible refine zipK2_tl ?_
  | with_reducible refine zipK2_ll ?_
  | with_reducible refine zipK3_tll ?_
  | with_reducible refine wi_rg3 ?_
  | with_reducible refine unK_val xBackT ?_
  | with_reducible refine unK_val xBackL ?_
  | with_reducible refine itK_list ?_
  | with_reducible refine itK_tuple ?_
  | with_reducible refine itK_new ?_
  | ((with_reducible apply itK_slot); rfl)
  | with_reducible refine enK_l ?_
  | with_reducible refine enK_t ?_
  | with_reducible refine forK_n ?_
  | with_reducible refine we_lc ?_
  | ((with_reducible apply wg_nm); walk_at "npin"; walk_at "nset")
  | with_reducible refine wg_tup rfl ?_
  | with_reducible refine wgs_cons ?_
  | with_reducible refine wgs_nil ?_
  | with_reducible refine lcT_t ?_
  | ((with_reducible apply lcE_val); rfl)
  | ((with_reducible apply lcE_new); rfl)
  | with_reducible refine we_cat ?_
  | with_reducible refine catK1_new ?_
  | with_reducible refine catK1_slot ?_
  | with_reducible refine catK1_list ?_
  | with_reducible refine ws_par ?_
  | ((with_reducible apply parK_ok); walk_at "npin"; walk_at "npin"; walk_at "nset")
  | with_reducible refine lpK_nx ?_
  | with_reducible refine lpK_ret ?_
  | with_reducible refine ws_asg ?_
  | with_reducible refine asgK_val ?_
  | with_reducible refine we_cut ?_
  | with_reducible refine cutK_val ?_
  | with_reducible refine cutK_new ?_
  | with_reducible refine cutK_slot ?_
  | with_reducible refine wp_none ?_
  | with_reducible refine wp_some ?_
  | with_reducible refine ptK_int ?_
  | with_reducible refine cutK2_t ?_
  | with_reducible refine cutK2_l ?_
  | ((with_reducible apply cutK2_s); rfl)
  | with_reducible refine we_meth ?_
  | with_reducible refine mthK_t ?_
  | with_reducible refine mthK_l ?_
  | with_reducible refine mthK_n ?_
  | with_reducible refine mthK_s ?_
  | with_reducible refine opK2_vv xCntT ?_
  | with_reducible refine opK2_vv xCntL ?_
  | ((with_reducible apply opK2_sv (h := xCntL)); rfl)
  | with_reducible refine we_frz ?_
  | walk_at "isi"
  | with_reducible refine frzK_val ?_
  | with_reducible refine frzK_new ?_
  | ((with_reducible apply we_mut); rfl)
  | with_reducible refine ws_setIx ?_
  | ((with_reducible apply sixK_val); rfl)
  | ((with_reducible apply ws_aug); rfl)
  | ((with_reducible refine defK_val ?_); try dsimp only [outsOf, List.zipWith])
  | ((with_reducible refine defK_new ?_); try dsimp only [outsOf, List.zipWith])
  | ((with_reducible refine defK_nx ?_); try dsimp only [outsOf, List.zipWith])
  | ((with_reducible apply defK_slot); rfl; try dsimp only [outsOf, List.zipWith])
  | ((with_reducible refine wf_def ?_); try simp only [List.length_cons, List.length_nil, List.cons_append, List.nil_append, Nat.reduceAdd, Nat.reduceSub, List.reduceReplicate]))
local macro_rules | `(tactic| walk_at "wp") => `(tactic| repeat (walk_at "w1"))
local macro_rules | `(tactic| walk_at "wt") => `(tactic| repeat (first | with_reducible refine wt_nil ?_ | with_reducible refine wt_cons ?_ | with_reducible refine takK_val ?_ | with_reducible refine takK_new ?_ | with_reducible refine tcK_ok ?_ | with_reducible refine tupK_ok ?_ | ((with_reducible apply parK_ok); walk_at "npin"; walk_at "npin"; walk_at "nset")))
local macro_rules | `(tactic| walk_at "wipe") => `(tactic| simp only [wipeE, unwipe, List.getD_cons_succ, List.getD_cons_zero, List.set_cons_succ, List.set_cons_zero])
local macro_rules | `(tactic| walk_at "spec") => `(tactic| fail)
local macro_rules | `(tactic| walk_at "wipe") => `(tactic| simp only [wipeE, unwipe, List.getD_cons_succ, List.getD_cons_zero, List.set_cons_succ, List.set_cons_zero])
def mapI (f : Int → Int) : D → D
  | .int i => .int (f i)
  | d => d
theorem mapI_ints (f : Int → Int) (ns : List Int) : (ns.map PyData.int).map (mapI f) = (ns.map f).map PyData.int := by simp only [List.map_map]; rfl
theorem cutLo {ns : List Int} {k : Nat} (h : k ≤ ns.length) : cutD (ns.map PyData.int) (some (k : Int)) none = (ns.drop k).map PyData.int := by
  rw [cutD_lo (by rw [List.length_map]; exact h), List.map_drop]
theorem cutHi {ns : List Int} {k : Nat} (h : k ≤ ns.length) : cutD (ns.map PyData.int) none (some (k : Int)) = (ns.take k).map PyData.int := by
  rw [cutD_hi (by rw [List.length_map]; exact h), List.map_take]
section
variable {R : Rs → List Sl → Prop} {ms : List Int}
end
end MR

set_option Elab.async false
set_option linter.all false
set_option maxRecDepth 100000
set_option maxHeartbeats 1000000
namespace MR
open PySem PySem.Spec PyProof.Rows L2
variable [Tq]
/-! ### reflections exchange steps -/
def pvS (n i : Nat) : Nat := if i = 0 then n - 1 else i - 1
def nxS (n i : Nat) : Nat := if i + 1 = n then 0 else i + 1
/-- the exchange of the steps beside a seat -/
def tp (n i x : Nat) : Nat := if x = i then pvS n i else if x = pvS n i then i else x
theorem nx_eq {n i : Nat} (h : i < n) : (i + 1) % n = nxS n i := by
  unfold nxS
  split
  · rename_i c; rw [c, Nat.mod_self]
  · exact Nat.mod_eq_of_lt (by omega)
theorem prv_eq (ms : List Int) (i : Nat) : prv ms i = ms.getD (pvS ms.length i) 0 := by
  unfold prv pvS
  split <;> rfl
theorem refl_getD {ms : List Int} {i : Nat} (hi : i < ms.length) (x : Nat) : (refl ms i).getD x 0 = if x = i then rm ms i else ms.getD x 0 := by
  unfold refl
  rw [List.getD_eq_getElem?_getD, List.getElem?_set]
  split
  · rename_i c
    subst c
    rw [if_pos rfl]
    rfl
  · rename_i c
    rw [if_neg (fun z => c z.symm), List.getD_eq_getElem?_getD]
theorem tp_lt {n i x : Nat} (hi : i < n) (hx : x < n) : tp n i x < n := by
  unfold tp pvS
  split
  · split <;> omega
  · split <;> (split <;> omega)
theorem tp_tp {n i x : Nat} (hn : 2 ≤ n) (hi : i < n) (hx : x < n) : tp n i (tp n i x) = x := by
  unfold tp pvS
  by_cases h0 : i = 0
  · simp only [h0, if_true]
    by_cases h1 : x = 0
    · simp only [h1, if_true]
      rw [if_neg (by omega)]
    · rw [if_neg h1]
      by_cases h2 : x = n - 1
      · simp only [h2, if_true]
      · rw [if_neg h2, if_neg h1, if_neg h2]
  · simp only [if_neg h0]
    by_cases h1 : x = i
    · simp only [h1, if_true]
      rw [if_neg (by omega)]
    · rw [if_neg h1]
      by_cases h2 : x = i - 1
      · simp only [h2, if_true]
      · rw [if_neg h2, if_neg h1, if_neg h2]
theorem dAt_refl {ms : List Int} {i x : Nat} (hn : 3 ≤ ms.length) (hi : i < ms.length) (hx : x < ms.length) : dAt (refl ms i) x = dAt ms (tp ms.length i x) := by
  have hp : pvS ms.length i < ms.length := by unfold pvS; split <;> omega
  have e1 : nxS ms.length (pvS ms.length i) = i := by unfold nxS pvS; split <;> split <;> omega
  have key : rm ms i = ms.getD (pvS ms.length i) 0 + ms.getD (nxS ms.length i) 0 - ms.getD i 0 := by
    unfold rm
    rw [prv_eq, nx_eq hi]
  unfold dAt
  rw [refl_len, refl_getD hi, refl_getD hi, nx_eq hx, nx_eq (tp_lt hi hx)]
  unfold tp
  by_cases h1 : x = i
  · subst h1
    have e2 : nxS ms.length x ≠ x := by unfold nxS; split <;> omega
    simp only [if_true]
    rw [if_neg e2, e1, key]
    omega
  · rw [if_neg h1, if_neg h1]
    by_cases h2 : x = pvS ms.length i
    · rw [if_pos h2, h2, e1, if_pos rfl, key]
      omega
    · rw [if_neg h2]
      have e2 : nxS ms.length x ≠ i := by
        revert h2
        unfold nxS pvS
        split <;> split <;> omega
      rw [if_neg e2]
/-- all seats of a list -/
def tps (n : Nat) : List Nat → Nat → Nat
  | [], x => x
  | i :: is, x => tp n i (tps n is x)
theorem tps_lt {n : Nat} : ∀ {is : List Nat} {x : Nat}, (∀ i ∈ is, i < n) → x < n → tps n is x < n
  | [], x, _, h => h
  | i :: is, x, h, hx => tp_lt (h i List.mem_cons_self) (tps_lt (fun j hj => h j (List.mem_cons_of_mem _ hj)) hx)
theorem tps_inj {n : Nat} (hn : 2 ≤ n) : ∀ {is : List Nat} {x y : Nat}, (∀ i ∈ is, i < n) → x < n → y < n → tps n is x = tps n is y → x = y
  | [], x, y, _, _, _, h => h
  | i :: is, x, y, h, hx, hy, e => by
    have hi := h i List.mem_cons_self
    have hs := fun j hj => h j (List.mem_cons_of_mem i hj)
    have e' : tp n i (tps n is x) = tp n i (tps n is y) := e
    have := congrArg (tp n i) e'
    rw [tp_tp hn hi (tps_lt hs hx), tp_tp hn hi (tps_lt hs hy)] at this
    exact tps_inj hn hs hx hy this
theorem dAt_refls : ∀ {is : List Nat} {ms : List Int} {x : Nat}, 3 ≤ ms.length → (∀ i ∈ is, i < ms.length) → x < ms.length → dAt (refls ms is) x = dAt ms (tps ms.length is x)
  | [], ms, x, _, _, _ => rfl
  | i :: is, ms, x, hn, h, hx => by
    have hi := h i List.mem_cons_self
    have hs := fun j hj => h j (List.mem_cons_of_mem i hj)
    have e := dAt_refls (is := is) (ms := refl ms i) (x := x) (by rw [refl_len]; exact hn) (by rw [refl_len]; exact hs) (by rw [refl_len]; exact hx)
    rw [refl_len] at e
    show dAt (refls (refl ms i) is) x = _
    rw [e, dAt_refl hn hi (tps_lt hs hx)]
    rfl
/-! ### a block again and again -/
def rep (ms : List Int) (is : List Nat) : Nat → List Int
  | 0 => ms
  | k + 1 => refls (rep ms is k) is
theorem rep_len (ms : List Int) (is : List Nat) : ∀ k, (rep ms is k).length = ms.length
  | 0 => rfl
  | k + 1 => by
    show (refls (rep ms is k) is).length = _
    rw [refls_len, rep_len ms is k]
def itr (f : Nat → Nat) : Nat → Nat → Nat
  | 0, x => x
  | k + 1, x => f (itr f k x)
theorem itr_comm (f : Nat → Nat) : ∀ k x, itr f k (f x) = f (itr f k x)
  | 0, x => rfl
  | k + 1, x => by show f (itr f k (f x)) = f (f (itr f k x)); rw [itr_comm f k x]
theorem itr_add (f : Nat → Nat) (j : Nat) : ∀ k x, itr f (j + k) x = itr f j (itr f k x)
  | 0, x => rfl
  | k + 1, x => by
    show f (itr f (j + k) x) = itr f j (f (itr f k x))
    rw [itr_add f j k x, itr_comm]
theorem itr_lt {f : Nat → Nat} {n : Nat} (hf : ∀ x, x < n → f x < n) {x : Nat} (hx : x < n) : ∀ k, itr f k x < n
  | 0 => hx
  | k + 1 => hf _ (itr_lt hf hx k)
theorem dAt_rep {ms : List Int} {is : List Nat} (hn : 3 ≤ ms.length) (h : ∀ i ∈ is, i < ms.length) : ∀ {k x : Nat}, x < ms.length → dAt (rep ms is k) x = dAt ms (itr (tps ms.length is) k x)
  | 0, x, _ => rfl
  | k + 1, x, hx => by
    have l := rep_len ms is k
    show dAt (refls (rep ms is k) is) x = _
    rw [dAt_refls (by rw [l]; exact hn) (by rw [l]; exact h) (by rw [l]; exact hx), l, dAt_rep hn h (tps_lt h hx), itr_comm]
    rfl
/-! ### each place comes back -/
theorem nodup_len : ∀ {l m : List Nat}, l.Nodup → (∀ x ∈ l, x ∈ m) → l.length ≤ m.length
  | [], m, _, _ => Nat.zero_le _
  | x :: l, m, h, hs => by
    have h1 := List.nodup_cons.mp h
    have hx := hs x List.mem_cons_self
    have ih := nodup_len (l := l) (m := m.erase x) h1.2 fun y hy => by
      have : y ≠ x := fun z => h1.1 (z ▸ hy)
      exact (List.mem_erase_of_ne this).mpr (hs y (List.mem_cons_of_mem _ hy))
    rw [List.length_erase_of_mem hx] at ih
    have := List.length_pos_of_mem hx
    simp only [List.length_cons]
    omega
theorem pigeon {n : Nat} {f : Nat → Nat} (h : ∀ k, k ≤ n → f k < n) : ∃ i j, i < j ∧ j ≤ n ∧ f i = f j := by
  refine Classical.byContradiction fun no => ?_
  have nd : ((List.range (n + 1)).map f).Nodup := by
    rw [List.Nodup, List.pairwise_map]
    refine List.pairwise_iff_getElem.mpr fun i j hi hj hij e => ?_
    rw [List.getElem_range, List.getElem_range] at e
    rw [List.length_range] at hj
    exact no ⟨i, j, hij, by omega, e⟩
  have := nodup_len (m := List.range n) nd fun x hx => by
    obtain ⟨k, hk, rfl⟩ := List.mem_map.mp hx
    rw [List.mem_range] at hk ⊢
    exact h k (by omega)
  rw [List.length_map, List.length_range, List.length_range] at this
  omega
theorem itr_inj {f : Nat → Nat} {n : Nat} (hf : ∀ x, x < n → f x < n) (hi : ∀ x y, x < n → y < n → f x = f y → x = y) : ∀ {k x y : Nat}, x < n → y < n → itr f k x = itr f k y → x = y
  | 0, x, y, _, _, h => h
  | k + 1, x, y, hx, hy, h => itr_inj hf hi hx hy (hi _ _ (itr_lt hf hx k) (itr_lt hf hy k) h)
theorem itr_back {f : Nat → Nat} {n : Nat} (hf : ∀ x, x < n → f x < n) (hi : ∀ x y, x < n → y < n → f x = f y → x = y) {x : Nat} (hx : x < n) : ∃ c, 1 ≤ c ∧ c ≤ n ∧ itr f c x = x := by
  obtain ⟨i, j, h1, h2, h3⟩ := pigeon (n := n) (f := fun k => itr f k x) fun k _ => itr_lt hf hx k
  refine ⟨j - i, by omega, by omega, ?_⟩
  have e : itr f (i + (j - i)) x = itr f i x := by rw [show i + (j - i) = j by omega]; exact h3.symm
  rw [itr_add] at e
  exact itr_inj hf hi (itr_lt hf hx _) hx e
theorem itr_mul {f : Nat → Nat} {c x : Nat} (h : itr f c x = x) : ∀ k, itr f (k * c) x = x
  | 0 => by rw [Nat.zero_mul]; rfl
  | k + 1 => by rw [Nat.succ_mul, itr_add, h, itr_mul h k]
theorem itr_840 {f : Nat → Nat} {n : Nat} (hn : n ≤ 8) (hf : ∀ x, x < n → f x < n) (hi : ∀ x y, x < n → y < n → f x = f y → x = y) {x : Nat} (hx : x < n) : itr f 840 x = x := by
  obtain ⟨c, h1, h2, h3⟩ := itr_back hf hi hx
  have d : ∀ c : Fin 9, 1 ≤ c.val → 840 / c.val * c.val = 840 := by decide
  rw [← d ⟨c, by omega⟩ h1]
  exact itr_mul h3 _
/-- the same steps -/
theorem ds_eq {a b : List Int} (h : a.length = b.length) (hd : ∀ x, x < a.length → dAt a x = dAt b x) : ds a = ds b := by
  unfold ds
  rw [← h]
  exact List.map_congr_left fun x hx => hd x (List.mem_range.mp hx)
theorem ds_at {a : List Int} {x : Nat} (hx : x < a.length) : (ds a).getD x 0 = dAt a x := by
  unfold ds
  rw [List.getD_eq_getElem?_getD, List.getElem?_map, List.getElem?_range hx]
  rfl
theorem dAt_eq {a b : List Int} (hd : ds a = ds b) {x : Nat} (hx : x < a.length) : dAt a x = dAt b x := by
  have l : a.length = b.length := by rw [← ds_len a, hd, ds_len]
  rw [← ds_at hx, hd, ds_at (l ▸ hx)]
theorem ds_840 {ms : List Int} {is : List Nat} (hn : 3 ≤ ms.length) (h8 : ms.length ≤ 8) (h : ∀ i ∈ is, i < ms.length) : ds (rep ms is 840) = ds ms := by
  refine ds_eq (rep_len ms is 840) fun x hx => ?_
  rw [rep_len] at hx
  rw [dAt_rep hn h hx, itr_840 h8 (fun y hy => tps_lt h hy) (fun y z hy hz e => tps_inj (by omega) h hy hz e) hx]
theorem least {P : Nat → Prop} : ∀ {n : Nat}, 1 ≤ n → P n → ∃ m, 1 ≤ m ∧ m ≤ n ∧ P m ∧ ∀ k, 1 ≤ k → k < m → ¬ P k := by
  intro n
  induction n using Nat.strongRecOn with
  | ind n ih =>
    intro h1 hp
    by_cases c : ∃ k, 1 ≤ k ∧ k < n ∧ P k
    · obtain ⟨k, k1, k2, k3⟩ := c
      obtain ⟨m, m1, m2, m3, m4⟩ := ih k k2 k1 k3
      exact ⟨m, m1, by omega, m3, m4⟩
    · exact ⟨n, h1, Nat.le_refl _, hp, fun k k1 k2 k3 => c ⟨k, k1, k2, k3⟩⟩
/-- after how many blocks all steps are as before -/
def IsPer (ms : List Int) (is : List Nat) (m : Nat) : Prop := 1 ≤ m ∧ m ≤ 840 ∧ ds (rep ms is m) = ds ms ∧ ∀ k, 1 ≤ k → k < m → ds (rep ms is k) ≠ ds ms
theorem per_ex {ms : List Int} {is : List Nat} (hn : 3 ≤ ms.length) (h8 : ms.length ≤ 8) (h : ∀ i ∈ is, i < ms.length) : ∃ m, IsPer ms is m := least (by omega) (ds_840 hn h8 h)
end MR

set_option Elab.async false
set_option linter.all false
set_option maxRecDepth 100000
set_option maxHeartbeats 1000000
namespace MR
open PySem PySem.Spec PyProof.Rows L2
variable [Tq]
/-! ### lists by their items -/
theorem ext_getD {a b : List Int} (hl : a.length = b.length) (h : ∀ x, x < a.length → a.getD x 0 = b.getD x 0) : a = b := by
  refine List.ext_getElem hl fun x h1 h2 => ?_
  have := h x h1
  rwa [List.getD_eq_getElem?_getD, List.getD_eq_getElem?_getD, List.getElem?_eq_getElem h1, List.getElem?_eq_getElem h2] at this
theorem getD_map {f : Int → Int} {l : List Int} {x : Nat} (hx : x < l.length) : (l.map f).getD x 0 = f (l.getD x 0) := by
  rw [List.getD_eq_getElem?_getD, List.getElem?_map, List.getElem?_eq_getElem hx, List.getD_eq_getElem?_getD, List.getElem?_eq_getElem hx]
  rfl
theorem rm_eq {ms : List Int} {i : Nat} (hi : i < ms.length) : rm ms i = ms.getD (pvS ms.length i) 0 + ms.getD (nxS ms.length i) 0 - ms.getD i 0 := by
  unfold rm
  rw [prv_eq, nx_eq hi]
theorem pvS_lt {n i : Nat} (hi : i < n) : pvS n i < n := by unfold pvS; split <;> omega
theorem nxS_lt {n i : Nat} (hi : i < n) : nxS n i < n := by unfold nxS; split <;> omega
/-! ### all marks raised -/
def sh (c : Int) (ms : List Int) : List Int := ms.map (· + c)
theorem sh_len (c : Int) (ms : List Int) : (sh c ms).length = ms.length := by unfold sh; rw [List.length_map]
theorem sh_at {c : Int} {ms : List Int} {x : Nat} (hx : x < ms.length) : (sh c ms).getD x 0 = ms.getD x 0 + c := getD_map hx
theorem sh_0 (ms : List Int) : sh 0 ms = ms := by unfold sh; simp
theorem sh_sh (c d : Int) (ms : List Int) : sh c (sh d ms) = sh (d + c) ms := by
  unfold sh
  rw [List.map_map]
  refine List.map_congr_left fun x _ => ?_
  show x + d + c = x + (d + c)
  omega
theorem refl_sh {c : Int} {ms : List Int} {i : Nat} (hi : i < ms.length) : refl (sh c ms) i = sh c (refl ms i) := by
  have l := sh_len c ms
  refine ext_getD (by rw [refl_len, sh_len, sh_len, refl_len]) fun x hx => ?_
  rw [refl_len, l] at hx
  rw [refl_getD (by rw [l]; exact hi), sh_at (ms := refl ms i) (by rw [refl_len]; exact hx), refl_getD hi]
  split
  · rw [rm_eq (by rw [l]; exact hi), rm_eq hi, l, sh_at (pvS_lt hi), sh_at (nxS_lt hi), sh_at hi]
    omega
  · rw [sh_at hx]
theorem refls_sh {c : Int} : ∀ {is : List Nat} {ms : List Int}, (∀ i ∈ is, i < ms.length) → refls (sh c ms) is = sh c (refls ms is)
  | [], ms, _ => rfl
  | i :: is, ms, h => by
    show refls (refl (sh c ms) i) is = sh c (refls (refl ms i) is)
    rw [refl_sh (h i List.mem_cons_self)]
    exact refls_sh fun j hj => by rw [refl_len]; exact h j (List.mem_cons_of_mem _ hj)
theorem rep_sh {c : Int} {is : List Nat} {ms : List Int} (h : ∀ i ∈ is, i < ms.length) : ∀ k, rep (sh c ms) is k = sh c (rep ms is k)
  | 0 => rfl
  | k + 1 => by
    show refls (rep (sh c ms) is k) is = sh c (refls (rep ms is k) is)
    rw [rep_sh h k, refls_sh (by rw [rep_len]; exact h)]
theorem ds_sh (c : Int) (ms : List Int) : ds (sh c ms) = ds ms := by
  refine ds_eq (sh_len c ms) fun x hx => ?_
  rw [sh_len] at hx
  unfold dAt
  rw [sh_len, sh_at (Nat.mod_lt _ (by omega)), sh_at hx]
  omega
/-- the same steps: all marks raised alike -/
theorem sh_of {a b : List Int} (hd : ds a = ds b) (h0 : 0 < a.length) : b = sh (b.getD 0 0 - a.getD 0 0) a := by
  have l : a.length = b.length := by rw [← ds_len a, hd, ds_len]
  have key : ∀ x, x < a.length → b.getD x 0 - a.getD x 0 = b.getD 0 0 - a.getD 0 0 := by
    intro x
    induction x with
    | zero => intro _; rfl
    | succ x ih =>
      intro hx
      have := ih (by omega)
      have e := dAt_eq hd (x := x) (by omega)
      rw [dAt_lt hx, dAt_lt (by omega)] at e
      omega
  refine ext_getD (by rw [sh_len, l]) fun x hx => ?_
  rw [← l] at hx
  rw [sh_at hx]
  have := key x hx
  omega
theorem rep_add {ms : List Int} {is : List Nat} (j : Nat) : ∀ k, rep ms is (j + k) = rep (rep ms is j) is k
  | 0 => rfl
  | k + 1 => by
    show refls (rep ms is (j + k)) is = refls (rep (rep ms is j) is k) is
    rw [rep_add j k]
/-- what a round changes -/
def drift (ms : List Int) (is : List Nat) (m : Nat) : Int := (rep ms is m).getD 0 0 - ms.getD 0 0
theorem rep_per {ms : List Int} {is : List Nat} {m : Nat} (h0 : 0 < ms.length) (hd : ds (rep ms is m) = ds ms) : rep ms is m = sh (drift ms is m) ms := sh_of hd.symm h0
theorem rep_round {ms : List Int} {is : List Nat} {m : Nat} (h0 : 0 < ms.length) (h : ∀ i ∈ is, i < ms.length) (hd : ds (rep ms is m) = ds ms) (r : Nat) : ∀ k : Nat, rep ms is (k * m + r) = sh ((k : Int) * drift ms is m) (rep ms is r)
  | 0 => by rw [Nat.zero_mul, Nat.zero_add, show ((0 : Nat) : Int) * drift ms is m = 0 by simp, sh_0]
  | k + 1 => by
    rw [show (k + 1) * m + r = m + (k * m + r) by rw [Nat.succ_mul]; omega, rep_add, rep_per h0 hd, rep_sh h, rep_round h0 h hd r k, sh_sh]
    congr 1
    rw [Int.natCast_add, Int.add_mul]
    simp
/-! ### back again -/
/-! ### bounds -/
theorem getD_ds_mem {ms : List Int} {x : Nat} (hx : x < ms.length) : dAt ms x ∈ ds ms := by
  unfold ds
  exact List.mem_map.mpr ⟨x, List.mem_range.mpr hx, rfl⟩
theorem rm_step {ms : List Int} {i : Nat} (hn : 3 ≤ ms.length) (hi : i < ms.length) : rm ms i - ms.getD i 0 = dAt ms i - dAt ms (pvS ms.length i) := by
  have e1 : nxS ms.length (pvS ms.length i) = i := by unfold nxS pvS; split <;> split <;> omega
  unfold dAt
  rw [rm_eq hi, nx_eq hi, nx_eq (pvS_lt hi), e1]
  omega
theorem refl_bound {ms : List Int} {i : Nat} {M B : Int} (hn : 3 ≤ ms.length) (hi : i < ms.length) (hM : ∀ x, x < ms.length → -M ≤ ms.getD x 0 ∧ ms.getD x 0 ≤ M) (hB : ∀ x, x < ms.length → -B ≤ dAt ms x ∧ dAt ms x ≤ B) :
    (∀ x, x < ms.length → -(M + 2 * B) ≤ (refl ms i).getD x 0 ∧ (refl ms i).getD x 0 ≤ M + 2 * B) ∧ ∀ x, x < ms.length → -B ≤ dAt (refl ms i) x ∧ dAt (refl ms i) x ≤ B := by
  refine ⟨fun x hx => ?_, fun x hx => ?_⟩
  · have b0 := hB x hx
    rw [refl_getD hi]
    split
    · have := rm_step hn hi
      have b1 := hB i hi
      have b2 := hB _ (pvS_lt hi)
      have := hM i hi
      omega
    · have := hM x hx
      omega
  · rw [dAt_refl hn hi hx]
    exact hB _ (tp_lt hi hx)
theorem refls_bound {B : Int} : ∀ {is : List Nat} {ms : List Int} {M : Int}, 3 ≤ ms.length → (∀ i ∈ is, i < ms.length) → (∀ x, x < ms.length → -M ≤ ms.getD x 0 ∧ ms.getD x 0 ≤ M) → (∀ x, x < ms.length → -B ≤ dAt ms x ∧ dAt ms x ≤ B) →
    (∀ x, x < ms.length → -(M + 2 * B * is.length) ≤ (refls ms is).getD x 0 ∧ (refls ms is).getD x 0 ≤ M + 2 * B * is.length) ∧ ∀ x, x < ms.length → -B ≤ dAt (refls ms is) x ∧ dAt (refls ms is) x ≤ B
  | [], ms, M, _, _, hM, hB => ⟨fun x hx => by have := hM x hx; show -(M + 2 * B * ((0 : Nat) : Int)) ≤ ms.getD x 0 ∧ ms.getD x 0 ≤ M + 2 * B * ((0 : Nat) : Int); simp only [Int.natCast_zero, Int.mul_zero, Int.add_zero]; exact this, hB⟩
  | i :: is, ms, M, hn, h, hM, hB => by
    have hi := h i List.mem_cons_self
    obtain ⟨h1, h2⟩ := refl_bound hn hi hM hB
    have l := refl_len ms i
    have ih := refls_bound (B := B) (is := is) (ms := refl ms i) (M := M + 2 * B) (by rw [l]; exact hn) (fun j hj => by rw [l]; exact h j (List.mem_cons_of_mem _ hj)) (by rw [l]; exact h1) (by rw [l]; exact h2)
    rw [l] at ih
    refine ⟨fun x hx => ?_, ih.2⟩
    have := ih.1 x hx
    have e : M + 2 * B * ((i :: is).length : Nat) = M + 2 * B + 2 * B * (is.length : Nat) := by
      rw [List.length_cons, Int.natCast_add, Int.mul_add]
      simp only [Int.natCast_one, Int.mul_one]
      omega
    rw [e]
    exact this
theorem rep_bound {B M : Int} {ms : List Int} {is : List Nat} (hn : 3 ≤ ms.length) (h : ∀ i ∈ is, i < ms.length) (hM : ∀ x, x < ms.length → -M ≤ ms.getD x 0 ∧ ms.getD x 0 ≤ M) (hB : ∀ x, x < ms.length → -B ≤ dAt ms x ∧ dAt ms x ≤ B) : ∀ k : Nat,
    (∀ x, x < ms.length → -(M + 2 * B * is.length * k) ≤ (rep ms is k).getD x 0 ∧ (rep ms is k).getD x 0 ≤ M + 2 * B * is.length * k) ∧ ∀ x, x < ms.length → -B ≤ dAt (rep ms is k) x ∧ dAt (rep ms is k) x ≤ B
  | 0 => ⟨fun x hx => by have := hM x hx; simp only [Int.natCast_zero, Int.mul_zero, Int.add_zero]; exact this, hB⟩
  | k + 1 => by
    obtain ⟨h1, h2⟩ := rep_bound hn h hM hB k
    have l := rep_len ms is k
    have ih := refls_bound (B := B) (is := is) (ms := rep ms is k) (M := M + 2 * B * is.length * k) (by rw [l]; exact hn) (by rw [l]; exact h) (by rw [l]; exact h1) (by rw [l]; exact h2)
    rw [l] at ih
    refine ⟨fun x hx => ?_, ih.2⟩
    have := ih.1 x hx
    have e : M + 2 * B * (is.length : Nat) * ((k + 1 : Nat) : Int) = M + 2 * B * (is.length : Nat) * k + 2 * B * (is.length : Nat) := by
      rw [Int.natCast_add, Int.mul_add]
      simp only [Int.natCast_one, Int.mul_one]
      omega
    rw [e]
    exact this
end MR

set_option Elab.async false
set_option linter.all false
set_option maxRecDepth 100000
set_option maxHeartbeats 1000000
namespace MR
open PySem PySem.Spec PyProof.Rows L2
variable [Tq]
/-! ### how often a change makes up a distance -/
def ru (d c : Int) : Option Nat := if d = 0 then some 0 else if c = 0 then none else if d.fmod c ≠ 0 then none else if d.fdiv c < 0 then none else some (d.fdiv c).toNat
/-! ### the first time of a mark -/
/-! ### sums and multiples of rings -/
def sc (c : Int) (a : List Int) : List Int := a.map (c * ·)
theorem sc_len (c : Int) (a : List Int) : (sc c a).length = a.length := by unfold sc; rw [List.length_map]
theorem sc_at {c : Int} {a : List Int} {x : Nat} (hx : x < a.length) : (sc c a).getD x 0 = c * a.getD x 0 := getD_map hx
theorem refl_sc {c : Int} {a : List Int} {i : Nat} (hi : i < a.length) : refl (sc c a) i = sc c (refl a i) := by
  have l := sc_len c a
  refine ext_getD (by rw [refl_len, sc_len, sc_len, refl_len]) fun x hx => ?_
  rw [refl_len, l] at hx
  rw [refl_getD (by rw [l]; exact hi), sc_at (a := refl a i) (by rw [refl_len]; exact hx), refl_getD hi]
  split
  · rw [rm_eq (by rw [l]; exact hi), rm_eq hi, l, sc_at (pvS_lt hi), sc_at (nxS_lt hi), sc_at hi, Int.mul_sub, Int.mul_add]
  · rw [sc_at hx]
theorem refls_sc {c : Int} : ∀ {is : List Nat} {a : List Int}, (∀ i ∈ is, i < a.length) → refls (sc c a) is = sc c (refls a is)
  | [], a, _ => rfl
  | i :: is, a, hi => by
    show refls (refl (sc c a) i) is = sc c (refls (refl a i) is)
    rw [refl_sc (hi i List.mem_cons_self)]
    exact refls_sc fun j hj => by rw [refl_len]; exact hi j (List.mem_cons_of_mem _ hj)
end MR

set_option Elab.async false
set_option linter.all false
set_option maxRecDepth 100000
set_option maxHeartbeats 1000000
namespace MR
open PySem PySem.Spec PyProof.Rows L2
variable [Tq]
/-! ### the steps change their order alone -/
theorem perm_of_sub {l m : List Nat} (hl : l.Nodup) (hm : m.Nodup) (hs : ∀ x ∈ l, x ∈ m) (h : m.length ≤ l.length) : l.Perm m := by
  rw [List.perm_iff_count]
  intro a
  rw [hl.count, hm.count]
  by_cases c : a ∈ l
  · rw [if_pos c, if_pos (hs a c)]
  · rw [if_neg c]
    by_cases d : a ∈ m
    · exfalso
      have := nodup_len (m := m.erase a) hl fun x hx => by
        have : x ≠ a := fun z => c (z ▸ hx)
        exact (List.mem_erase_of_ne this).mpr (hs x hx)
      rw [List.length_erase_of_mem d] at this
      have := List.length_pos_of_mem d
      omega
    · rw [if_neg d]
theorem perm_range {n : Nat} {f : Nat → Nat} (hf : ∀ x, x < n → f x < n) (hi : ∀ x y, x < n → y < n → f x = f y → x = y) : ((List.range n).map f).Perm (List.range n) := by
  refine perm_of_sub ?_ List.nodup_range (fun x hx => ?_) (by simp)
  · rw [List.Nodup, List.pairwise_map]
    refine List.pairwise_iff_getElem.mpr fun i j h1 h2 hij e => ?_
    rw [List.getElem_range, List.getElem_range] at e
    rw [List.length_range] at h1 h2
    have := hi i j h1 h2 e
    omega
  · obtain ⟨k, hk, rfl⟩ := List.mem_map.mp hx
    exact List.mem_range.mpr (hf k (List.mem_range.mp hk))
theorem ds_perm {ms : List Int} {is : List Nat} (hn : 3 ≤ ms.length) (h : ∀ i ∈ is, i < ms.length) : (ds (refls ms is)).Perm (ds ms) := by
  have e : ds (refls ms is) = ((List.range ms.length).map (tps ms.length is)).map (dAt ms) := by
    unfold ds
    rw [refls_len, List.map_map]
    exact List.map_congr_left fun x hx => dAt_refls hn h (List.mem_range.mp hx)
  rw [e]
  exact (perm_range (fun x hx => tps_lt h hx) fun x y hx hy e => tps_inj (by omega) h hx hy e).map _
/-- g divides all differences between steps -/
def DvS (g : Nat) (ms : List Int) : Prop := ∀ x y, x < ms.length → y < ms.length → (g : Int) ∣ dAt ms x - dAt ms y
theorem dv_gm {ms : List Int} (h0 : 0 < ms.length) : DvS (gm ms) ms := fun x y hx hy => by
  have l := ds_len ms
  have := (gfold_all (k := gm ms) (l := ds ms) (by rw [l]; exact h0)).mp (Nat.dvd_refl _) (dAt ms x) (getD_ds_mem hx) (dAt ms y) (getD_ds_mem hy)
  exact Int.ofNat_dvd_left.mpr this
theorem dv_refl {g : Nat} {ms : List Int} {i : Nat} (hn : 3 ≤ ms.length) (hi : i < ms.length) (h : DvS g ms) : DvS g (refl ms i) ∧ ∀ x, x < ms.length → (g : Int) ∣ (refl ms i).getD x 0 - ms.getD x 0 := by
  refine ⟨fun x y hx hy => ?_, fun x hx => ?_⟩
  · rw [refl_len] at hx hy
    rw [dAt_refl hn hi hx, dAt_refl hn hi hy]
    exact h _ _ (tp_lt hi hx) (tp_lt hi hy)
  · rw [refl_getD hi]
    split
    · rename_i c
      rw [c, rm_step hn hi]
      exact h _ _ hi (pvS_lt hi)
    · rw [Int.sub_self]
      exact Int.dvd_zero _
theorem dv_refls {g : Nat} : ∀ {is : List Nat} {ms : List Int}, 3 ≤ ms.length → (∀ i ∈ is, i < ms.length) → DvS g ms → DvS g (refls ms is) ∧ ∀ x, x < ms.length → (g : Int) ∣ (refls ms is).getD x 0 - ms.getD x 0
  | [], ms, _, _, h => ⟨h, fun x _ => by show (g : Int) ∣ ms.getD x 0 - ms.getD x 0; rw [Int.sub_self]; exact Int.dvd_zero _⟩
  | i :: is, ms, hn, hi, h => by
    have l := refl_len ms i
    obtain ⟨h1, h2⟩ := dv_refl hn (hi i List.mem_cons_self) h
    obtain ⟨h3, h4⟩ := dv_refls (is := is) (ms := refl ms i) (by rw [l]; exact hn) (fun j hj => by rw [l]; exact hi j (List.mem_cons_of_mem _ hj)) h1
    refine ⟨h3, fun x hx => ?_⟩
    have a := h4 x (by rw [l]; exact hx)
    have b := h2 x hx
    have c := Int.dvd_add a b
    rwa [show (refls (refl ms i) is).getD x 0 - (refl ms i).getD x 0 + ((refl ms i).getD x 0 - ms.getD x 0) = (refls ms (i :: is)).getD x 0 - ms.getD x 0 by show _ = (refls (refl ms i) is).getD x 0 - ms.getD x 0; omega] at c
theorem resd_dv {g : Nat} {a b : Int} (h : (g : Int) ∣ b - a) : resd g a = resd g b := by
  unfold resd
  split
  · rename_i c
    rw [c] at h
    have := Int.zero_dvd.mp h
    omega
  · have h' : (g : Int) ∣ a - b := by
      have := Int.dvd_neg.mpr h
      rwa [show -(b - a) = a - b by omega] at this
    exact Int.emod_eq_emod_iff_emod_sub_eq_zero.mpr (Int.emod_eq_zero_of_dvd h')
theorem diff_refls {ms : List Int} {is : List Nat} (hn : 3 ≤ ms.length) (h : ∀ i ∈ is, i < ms.length) : isNone (diffD ms (refls ms is)) = true := by
  rw [diffD_none]
  refine ⟨(refls_len is ms).symm, fun k => ((ds_perm hn h).count_eq k).symm, ?_⟩
  exact resd_dv ((dv_refls hn h (dv_gm (by omega))).2 0 (by omega))
end MR

set_option Elab.async false
set_option linter.all false
set_option maxRecDepth 100000
set_option maxHeartbeats 1000000
namespace MR
open PySem PySem.Spec PyProof.Rows L2
variable [Tq]
/-! ### no round has more than fifteen blocks -/
section
variable {f : Nat → Nat} {n : Nat}
end
end MR

set_option Elab.async false
set_option linter.all false
set_option maxRecDepth 100000
set_option maxHeartbeats 1000000
namespace MR
open PySem PySem.Spec PyProof.Rows L2
variable [Tq]
local macro_rules | `(tactic| walk_at "npin") => `(tactic| first | rfl | exact np_at rfl (by assumption))
local macro_rules | `(tactic| walk_at "isi") => `(tactic| first
  | with_reducible refine isi_int_n ?_
  | with_reducible refine isi_int_b ?_
  | with_reducible refine isi_int_i ?_
  | with_reducible refine isi_int_s ?_
  | with_reducible refine isi_int_l ?_
  | with_reducible refine isi_int_t ?_
  | ((with_reducible apply isi_int_o); rfl)
  | with_reducible refine isi_bool_n ?_
  | with_reducible refine isi_bool_b ?_
  | with_reducible refine isi_bool_i ?_
  | with_reducible refine isi_bool_s ?_
  | with_reducible refine isi_bool_l ?_
  | with_reducible refine isi_bool_t ?_
  | ((with_reducible apply isi_bool_o); rfl)
  | with_reducible refine isi_str_n ?_
  | with_reducible refine isi_str_b ?_
  | with_reducible refine isi_str_i ?_
  | with_reducible refine isi_str_s ?_
  | with_reducible refine isi_str_l ?_
  | with_reducible refine isi_str_t ?_
  | ((with_reducible apply isi_str_o); rfl)
  | with_reducible refine isi_tuple_n ?_
  | with_reducible refine isi_tuple_b ?_
  | with_reducible refine isi_tuple_i ?_
  | with_reducible refine isi_tuple_s ?_
  | with_reducible refine isi_tuple_l ?_
  | with_reducible refine isi_tuple_t ?_
  | ((with_reducible apply isi_tuple_o); rfl)
  | with_reducible refine isi_list_n ?_
  | with_reducible refine isi_list_b ?_
  | with_reducible refine isi_list_i ?_
  | with_reducible refine isi_list_s ?_
  | with_reducible refine isi_list_l ?_
  | with_reducible refine isi_list_t ?_
  | ((with_reducible apply isi_list_o); rfl))
local macro_rules | `(tactic| walk_at "nset") => `(tactic| try simp only [List.set_cons_succ, List.set_cons_zero])
local macro_rules | `(tactic| walk_at "w1") => `(tactic| first
  | with_reducible refine ws_seq ?_
  | with_reducible refine seqK_nx ?_
  | with_reducible refine seqK_ret ?_
  | with_reducible refine ws_skip ?_
  | with_reducible refine ws_expr ?_
  | with_reducible refine exK_val ?_
  | with_reducible refine exK_new ?_
  | with_reducible refine exK_err ?_
  | with_reducible refine seqK_err ?_
  | with_reducible refine rtK_err ?_
  | with_reducible refine setK_err ?_
  | with_reducible refine retV_err ?_
  | ((with_reducible refine retO_err ?_); walk_at "nset")
  | ((with_reducible refine defK_err ?_); try dsimp only [outsOf, List.zipWith])
  | with_reducible refine ws_raise1 ?_
  | with_reducible refine raK_int ?_
  | with_reducible refine we_errOf ?_
  | with_reducible refine eofK_val ?_
  | with_reducible refine eofK_new ?_
  | with_reducible refine ws_ret ?_
  | with_reducible refine rtK_val ?_
  | with_reducible refine rtK_new ?_
  | with_reducible refine rtK_slot ?_
  | with_reducible refine ws_set ?_
  | ((with_reducible apply setK_val); walk_at "npin"; walk_at "nset")
  | ((with_reducible apply setK_new); walk_at "npin"; walk_at "nset")
  | with_reducible refine ws_if ?_
  | with_reducible refine we_c ?_
  | ((with_reducible apply we_var); rfl)
  | ((with_reducible apply we_varo); rfl)
  | with_reducible refine we_op ?_
  | with_reducible refine opK1_val ?_
  | with_reducible refine opK1_new ?_
  | with_reducible refine opK1_slot ?_
  | with_reducible refine opK2_vv xAdd ?_
  | with_reducible refine opK2_vv xSub ?_
  | with_reducible refine opK2_vv xLt ?_
  | with_reducible refine opK2_vv xLe ?_
  | with_reducible refine opK2_vv xGt ?_
  | with_reducible refine opK2_vv xGe ?_
  | with_reducible refine opK2_vv xEq ?_
  | with_reducible refine opK2_vv xNe ?_
  | with_reducible refine opK2_vv xIsN ?_
  | with_reducible refine opK2_vv xNotN ?_
  | with_reducible refine we_un ?_
  | with_reducible refine unK_val xNeg ?_
  | (with_reducible refine we_isi ?_)
  | with_reducible refine we_not ?_
  | with_reducible refine notK_t ?_
  | with_reducible refine notK_f ?_
  | with_reducible refine notK_b ?_
  | with_reducible refine we_and ?_
  | with_reducible refine andK_t ?_
  | with_reducible refine andK_f ?_
  | with_reducible refine we_or ?_
  | with_reducible refine orK_t ?_
  | with_reducible refine orK_f ?_
  | with_reducible refine we_ifE ?_
  | with_reducible refine ifEK_t ?_
  | with_reducible refine ifEK_f ?_
  | with_reducible refine ifK_t ?_
  | with_reducible refine ifK_f ?_
  | with_reducible refine we_fn ?_
  | with_reducible refine we_call ?_
  | walk_at "spec"
  | with_reducible refine wa_cons ?_
  | with_reducible refine wa_nil ?_
  | with_reducible refine argK_val ?_
  | with_reducible refine argK_new ?_
  | with_reducible refine argK_slot ?_
  | with_reducible refine argK2_val ?_
  | ((with_reducible apply argK2_slot); rfl)
  | with_reducible refine fnK_v xLenTI ?_
  | with_reducible refine fnK_v xLenLI ?_
  | ((with_reducible apply fnK_s (h := xLenLI)); rfl)
  | with_reducible refine fnK_v xLenT ?_
  | with_reducible refine fnK_v xLenL ?_
  | ((with_reducible apply fnK_s (h := xLenL)); rfl)
  | with_reducible refine fnK_v xTupL ?_
  | with_reducible refine fnK_v xTupT ?_
  | ((with_reducible apply fnK_s (h := xTupL)); rfl)
  | with_reducible refine fnK_v xLstL ?_
  | with_reducible refine fnK_v xLstT ?_
  | ((with_reducible apply fnK_s (h := xLstL)); rfl)
  | with_reducible refine fnK_v xAbs ?_
  | with_reducible refine fnK_vv xGcd ?_
  | with_reducible refine callK_v1 ?_
  | with_reducible refine callK_v2 ?_
  | with_reducible refine callK_v3 ?_
  | ((with_reducible apply callK_o0); rfl)
  | ((with_reducible apply callK_o1); rfl)
  | ((with_reducible apply callK_o2); rfl)
  | with_reducible refine retV_val ?_
  | with_reducible refine retV_new ?_
  | ((with_reducible refine retO_val ?_); walk_at "nset")
  | ((with_reducible refine retO_new ?_); walk_at "nset")
  | with_reducible refine we_tup ?_
  | with_reducible refine we_lst ?_
  | with_reducible refine wt_cons ?_
  | with_reducible refine wt_nil ?_
  | with_reducible refine takK_val ?_
  | with_reducible refine takK_new ?_
  | with_reducible refine tcK_ok ?_
  | with_reducible refine tupK_ok ?_
  | with_reducible refine ws_for ?_
  | with_reducible refine wi_rg ?_
  | with_reducible refine wi_seq ?_
  | with_reducible refine wi_enum ?_
  | with_reducible refine wi_zip2 ?_
  | with_reducible refine wi_zip3 ?_
  | with_reducible refine zipK2_tt ?_
  | with_reducible refine zipK2_tl ?_
  | with_reducible refine zipK2_ll ?_
  | with_reducible refine zipK3_tll ?_
  | with_reducible refine wi_rg3 ?_
  | with_reducible refine unK_val xBackT ?_
  | with_reducible refine unK_val xBackL ?_
  | with_reducible refine itK_list ?_
  | with_reducible refine itK_tuple ?_
  | with_reducible refine itK_new ?_
  | ((with_reducible apply itK_slot); rfl)
  | with_reducible refine enK_l ?_
  | with_reducible refine enK_t ?_
  | with_reducible refine forK_n ?_
  | with_reducible refine we_lc ?_
  | ((with_reducible apply wg_nm); walk_at "npin"; walk_at "nset")
  | with_reducible refine wg_tup rfl ?_
  | with_reducible refine wgs_cons ?_
  | with_reducible refine wgs_nil ?_
  | with_reducible refine lcT_t ?_
  | ((with_reducible apply lcE_val); rfl)
  | ((with_reducible apply lcE_new); rfl)
  | with_reducible refine we_cat ?_
  | with_reducible refine catK1_new ?_
  | with_reducible refine catK1_slot ?_
  | with_reducible refine catK1_list ?_
  | with_reducible refine ws_par ?_
  | ((with_reducible apply parK_ok); walk_at "npin"; walk_at "npin"; walk_at "nset")
  | with_reducible refine lpK_nx ?_
  | with_reducible refine lpK_ret ?_
  | with_reducible refine ws_asg ?_
  | with_reducible refine asgK_val ?_
  | with_reducible refine we_cut ?_
  | with_reducible refine cutK_val ?_
  | with_reducible refine cutK_new ?_
  | with_reducible refine cutK_slot ?_
  | with_reducible refine wp_none ?_
  | with_reducible refine wp_some ?_
  | with_reducible refine ptK_int ?_
  | with_reducible refine cutK2_t ?_
  | with_reducible refine cutK2_l ?_
  | ((with_reducible apply cutK2_s); rfl)
  | with_reducible refine we_meth ?_
  | with_reducible refine mthK_t ?_
  | with_reducible refine mthK_l ?_
  | with_reducible refine mthK_n ?_
  | with_reducible refine mthK_s ?_
  | with_reducible refine opK2_vv xCntT ?_
  | with_reducible refine opK2_vv xCntL ?_
  | ((with_reducible apply opK2_sv (h := xCntL)); rfl)
  | with_reducible refine we_frz ?_
  | walk_at "isi"
  | with_reducible refine frzK_val ?_
  | with_reducible refine frzK_new ?_
  | ((with_reducible apply we_mut); rfl)
  | with_reducible refine ws_setIx ?_
  | ((with_reducible apply sixK_val); rfl)
  | ((with_reducible apply ws_aug); rfl)
  | ((with_reducible refine defK_val ?_); try dsimp only [outsOf, List.zipWith])
  | ((with_reducible refine defK_new ?_); try dsimp only [outsOf, List.zipWith])
  | ((with_reducible refine defK_nx ?_); try dsimp only [outsOf, List.zipWith])
  | ((with_reducible apply defK_slot); rfl; try dsimp only [outsOf, List.zipWith])
  | ((with_reducible refine wf_def ?_); try simp only [List.length_cons, List.length_nil, List.cons_append, List.nil_append, Nat.reduceAdd, Nat.reduceSub, List.reduceReplicate]))
local macro_rules | `(tactic| walk_at "wp") => `(tactic| repeat (walk_at "w1"))
local macro_rules | `(tactic| walk_at "wt") => `(tactic| repeat (first | with_reducible refine wt_nil ?_ | with_reducible refine wt_cons ?_ | with_reducible refine takK_val ?_ | with_reducible refine takK_new ?_ | with_reducible refine tcK_ok ?_ | with_reducible refine tupK_ok ?_ | ((with_reducible apply parK_ok); walk_at "npin"; walk_at "npin"; walk_at "nset")))
local macro_rules | `(tactic| walk_at "wipe") => `(tactic| simp only [wipeE, unwipe, List.getD_cons_succ, List.getD_cons_zero, List.set_cons_succ, List.set_cons_zero])
/-! ### what is told of an error -/
local macro_rules | `(tactic| walk_at "spec") => `(tactic| with_reducible refine unK_val (gIsX_ok _ _) ?_)
end MR

set_option Elab.async false
set_option linter.all false
set_option maxRecDepth 100000
set_option maxHeartbeats 1000000
namespace MR
open PySem PySem.Spec PyProof.Rows L2
variable [Tq]
local macro_rules | `(tactic| walk_at "npin") => `(tactic| first | rfl | exact np_at rfl (by assumption))
local macro_rules | `(tactic| walk_at "isi") => `(tactic| first
  | with_reducible refine isi_int_n ?_
  | with_reducible refine isi_int_b ?_
  | with_reducible refine isi_int_i ?_
  | with_reducible refine isi_int_s ?_
  | with_reducible refine isi_int_l ?_
  | with_reducible refine isi_int_t ?_
  | ((with_reducible apply isi_int_o); rfl)
  | with_reducible refine isi_bool_n ?_
  | with_reducible refine isi_bool_b ?_
  | with_reducible refine isi_bool_i ?_
  | with_reducible refine isi_bool_s ?_
  | with_reducible refine isi_bool_l ?_
  | with_reducible refine isi_bool_t ?_
  | ((with_reducible apply isi_bool_o); rfl)
  | with_reducible refine isi_str_n ?_
  | with_reducible refine isi_str_b ?_
  | with_reducible refine isi_str_i ?_
  | with_reducible refine isi_str_s ?_
  | with_reducible refine isi_str_l ?_
  | with_reducible refine isi_str_t ?_
  | ((with_reducible apply isi_str_o); rfl)
  | with_reducible refine isi_tuple_n ?_
  | with_reducible refine isi_tuple_b ?_
  | with_reducible refine isi_tuple_i ?_
  | with_reducible refine isi_tuple_s ?_
  | with_reducible refine isi_tuple_l ?_
  | with_reducible refine isi_tuple_t ?_
  | ((with_reducible apply isi_tuple_o); rfl)
  | with_reducible refine isi_list_n ?_
  | with_reducible refine isi_list_b ?_
  | with_reducible refine isi_list_i ?_
  | with_reducible refine isi_list_s ?_
  | with_reducible refine isi_list_l ?_
  | with_reducible refine isi_list_t ?_
  | ((with_reducible apply isi_list_o); rfl))
local macro_rules | `(tactic| walk_at "nset") => `(tactic| try simp only [List.set_cons_succ, List.set_cons_zero])
local macro_rules | `(tactic| walk_at "w1") => `(tactic| first
  | with_reducible refine ws_seq ?_
  | with_reducible refine seqK_nx ?_
  | with_reducible refine seqK_ret ?_
  | with_reducible refine ws_skip ?_
  | with_reducible refine ws_expr ?_
  | with_reducible refine exK_val ?_
  | with_reducible refine exK_new ?_
  | with_reducible refine exK_err ?_
  | with_reducible refine seqK_err ?_
  | with_reducible refine rtK_err ?_
  | with_reducible refine setK_err ?_
  | with_reducible refine retV_err ?_
  | ((with_reducible refine retO_err ?_); walk_at "nset")
  | ((with_reducible refine defK_err ?_); try dsimp only [outsOf, List.zipWith])
  | with_reducible refine ws_raise1 ?_
  | with_reducible refine raK_int ?_
  | with_reducible refine we_errOf ?_
  | with_reducible refine eofK_val ?_
  | with_reducible refine eofK_new ?_
  | with_reducible refine ws_ret ?_
  | with_reducible refine rtK_val ?_
  | with_reducible refine rtK_new ?_
  | with_reducible refine rtK_slot ?_
  | with_reducible refine ws_set ?_
  | ((with_reducible apply setK_val); walk_at "npin"; walk_at "nset")
  | ((with_reducible apply setK_new); walk_at "npin"; walk_at "nset")
  | with_reducible refine ws_if ?_
  | with_reducible refine we_c ?_
  | ((with_reducible apply we_var); rfl)
  | ((with_reducible apply we_varo); rfl)
  | with_reducible refine we_op ?_
  | with_reducible refine opK1_val ?_
  | with_reducible refine opK1_new ?_
  | with_reducible refine opK1_slot ?_
  | with_reducible refine opK2_vv xAdd ?_
  | with_reducible refine opK2_vv xSub ?_
  | with_reducible refine opK2_vv xLt ?_
  | with_reducible refine opK2_vv xLe ?_
  | with_reducible refine opK2_vv xGt ?_
  | with_reducible refine opK2_vv xGe ?_
  | with_reducible refine opK2_vv xEq ?_
  | with_reducible refine opK2_vv xNe ?_
  | with_reducible refine opK2_vv xIsN ?_
  | with_reducible refine opK2_vv xNotN ?_
  | with_reducible refine we_un ?_
  | with_reducible refine unK_val xNeg ?_
  | (with_reducible refine we_isi ?_)
  | with_reducible refine we_not ?_
  | with_reducible refine notK_t ?_
  | with_reducible refine notK_f ?_
  | with_reducible refine notK_b ?_
  | with_reducible refine we_and ?_
  | with_reducible refine andK_t ?_
  | with_reducible refine andK_f ?_
  | with_reducible refine we_or ?_
  | with_reducible refine orK_t ?_
  | with_reducible refine orK_f ?_
  | with_reducible refine we_ifE ?_
  | with_reducible refine ifEK_t ?_
  | with_reducible refine ifEK_f ?_
  | with_reducible refine ifK_t ?_
  | with_reducible refine ifK_f ?_
  | with_reducible refine we_fn ?_
  | with_reducible refine we_call ?_
  | walk_at "spec"
  | with_reducible refine wa_cons ?_
  | with_reducible refine wa_nil ?_
  | with_reducible refine argK_val ?_
  | with_reducible refine argK_new ?_
  | with_reducible refine argK_slot ?_
  | with_reducible refine argK2_val ?_
  | ((with_reducible apply argK2_slot); rfl)
  | with_reducible refine fnK_v xLenTI ?_
  | with_reducible refine fnK_v xLenLI ?_
  | ((with_reducible apply fnK_s (h := xLenLI)); rfl)
  | with_reducible refine fnK_v xLenT ?_
  | with_reducible refine fnK_v xLenL ?_
  | ((with_reducible apply fnK_s (h := xLenL)); rfl)
  | with_reducible refine fnK_v xTupL ?_
  | with_reducible refine fnK_v xTupT ?_
  | ((with_reducible apply fnK_s (h := xTupL)); rfl)
  | with_reducible refine fnK_v xLstL ?_
  | with_reducible refine fnK_v xLstT ?_
  | ((with_reducible apply fnK_s (h := xLstL)); rfl)
  | with_reducible refine fnK_v xAbs ?_
  | with_reducible refine fnK_vv xGcd ?_
  | with_reducible refine callK_v1 ?_
  | with_reducible refine callK_v2 ?_
  | with_reducible refine callK_v3 ?_
  | ((with_reducible apply callK_o0); rfl)
  | ((with_reducible apply callK_o1); rfl)
  | ((with_reducible apply callK_o2); rfl)
  | with_reducible refine retV_val ?_
  | with_reducible refine retV_new ?_
  | ((with_reducible refine retO_val ?_); walk_at "nset")
  | ((with_reducible refine retO_new ?_); walk_at "nset")
  | with_reducible refine we_tup ?_
  | with_reducible refine we_lst ?_
  | with_reducible refine wt_cons ?_
  | with_reducible refine wt_nil ?_
  | with_reducible refine takK_val ?_
  | with_reducible refine takK_new ?_
  | with_reducible refine tcK_ok ?_
  | with_reducible refine tupK_ok ?_
  | with_reducible refine ws_for ?_
  | with_reducible refine wi_rg ?_
  | with_reducible refine wi_seq ?_
  | with_reducible refine wi_enum ?_
  | with_reducible refine wi_zip2 ?_
  | with_reducible refine wi_zip3 ?_
  | with_reducible refine zipK2_tt ?_
  | with_reducible refine zipK2_tl ?_
  | with_reducible refine zipK2_ll ?_
  | with_reducible refine zipK3_tll ?_
  | with_reducible refine wi_rg3 ?_
  | with_reducible refine unK_val xBackT ?_
  | with_reducible refine unK_val xBackL ?_
  | with_reducible refine itK_list ?_
  | with_reducible refine itK_tuple ?_
  | with_reducible refine itK_new ?_
  | ((with_reducible apply itK_slot); rfl)
  | with_reducible refine enK_l ?_
  | with_reducible refine enK_t ?_
  | with_reducible refine forK_n ?_
  | with_reducible refine we_lc ?_
  | ((with_reducible apply wg_nm); walk_at "npin"; walk_at "nset")
  | with_reducible refine wg_tup rfl ?_
  | with_reducible refine wgs_cons ?_
  | with_reducible refine wgs_nil ?_
  | with_reducible refine lcT_t ?_
  | ((with_reducible apply lcE_val); rfl)
  | ((with_reducible apply lcE_new); rfl)
  | with_reducible refine we_cat ?_
  | with_reducible refine catK1_new ?_
  | with_reducible refine catK1_slot ?_
  | with_reducible refine catK1_list ?_
  | with_reducible refine ws_par ?_
  | ((with_reducible apply parK_ok); walk_at "npin"; walk_at "npin"; walk_at "nset")
  | with_reducible refine lpK_nx ?_
  | with_reducible refine lpK_ret ?_
  | with_reducible refine ws_asg ?_
  | with_reducible refine asgK_val ?_
  | with_reducible refine we_cut ?_
  | with_reducible refine cutK_val ?_
  | with_reducible refine cutK_new ?_
  | with_reducible refine cutK_slot ?_
  | with_reducible refine wp_none ?_
  | with_reducible refine wp_some ?_
  | with_reducible refine ptK_int ?_
  | with_reducible refine cutK2_t ?_
  | with_reducible refine cutK2_l ?_
  | ((with_reducible apply cutK2_s); rfl)
  | with_reducible refine we_meth ?_
  | with_reducible refine mthK_t ?_
  | with_reducible refine mthK_l ?_
  | with_reducible refine mthK_n ?_
  | with_reducible refine mthK_s ?_
  | with_reducible refine opK2_vv xCntT ?_
  | with_reducible refine opK2_vv xCntL ?_
  | ((with_reducible apply opK2_sv (h := xCntL)); rfl)
  | with_reducible refine we_frz ?_
  | walk_at "isi"
  | with_reducible refine frzK_val ?_
  | with_reducible refine frzK_new ?_
  | ((with_reducible apply we_mut); rfl)
  | with_reducible refine ws_setIx ?_
  | ((with_reducible apply sixK_val); rfl)
  | ((with_reducible apply ws_aug); rfl)
  | ((with_reducible refine defK_val ?_); try dsimp only [outsOf, List.zipWith])
  | ((with_reducible refine defK_new ?_); try dsimp only [outsOf, List.zipWith])
  | ((with_reducible refine defK_nx ?_); try dsimp only [outsOf, List.zipWith])
  | ((with_reducible apply defK_slot); rfl; try dsimp only [outsOf, List.zipWith])
  | ((with_reducible refine wf_def ?_); try simp only [List.length_cons, List.length_nil, List.cons_append, List.nil_append, Nat.reduceAdd, Nat.reduceSub, List.reduceReplicate]))
local macro_rules | `(tactic| walk_at "wp") => `(tactic| repeat (walk_at "w1"))
local macro_rules | `(tactic| walk_at "wt") => `(tactic| repeat (first | with_reducible refine wt_nil ?_ | with_reducible refine wt_cons ?_ | with_reducible refine takK_val ?_ | with_reducible refine takK_new ?_ | with_reducible refine tcK_ok ?_ | with_reducible refine tupK_ok ?_ | ((with_reducible apply parK_ok); walk_at "npin"; walk_at "npin"; walk_at "nset")))
local macro_rules | `(tactic| walk_at "wipe") => `(tactic| simp only [wipeE, unwipe, List.getD_cons_succ, List.getD_cons_zero, List.set_cons_succ, List.set_cons_zero])
local macro_rules | `(tactic| walk_at "spec") => `(tactic| fail)
/-! ### checks of any values -/
def simpleD : D → Bool
  | .none => true
  | .bool _ => true
  | .int _ => true
  | .str _ => true
  | _ => false
def wholeD : D → Bool
  | .int _ => true
  | _ => false
section
variable {R : Rs → List Sl → Prop}
theorem is_whole_w {v : D} {b : Bool} (hv : simpleD v = true) (hb : wholeD v = b) (q : R (.val (.bool b)) [.val v]) : WF f_is_whole [.val v] R := by
  subst hb
  unfold f_is_whole
  cases v with
  | none => walk_at "wp"; exact q
  | bool b => walk_at "wp"; exact q
  | int i => walk_at "wp"; exact q
  | str x => walk_at "wp"; exact q
  | _ => cases hv
end
end MR

set_option Elab.async false
set_option linter.all false
set_option maxRecDepth 100000
set_option maxHeartbeats 1000000
namespace MR
open PySem PySem.Spec PyProof.Rows L2
variable [Tq]
local macro_rules | `(tactic| walk_at "npin") => `(tactic| first | rfl | exact np_at rfl (by assumption))
local macro_rules | `(tactic| walk_at "isi") => `(tactic| first
  | with_reducible refine isi_int_n ?_
  | with_reducible refine isi_int_b ?_
  | with_reducible refine isi_int_i ?_
  | with_reducible refine isi_int_s ?_
  | with_reducible refine isi_int_l ?_
  | with_reducible refine isi_int_t ?_
  | ((with_reducible apply isi_int_o); rfl)
  | with_reducible refine isi_bool_n ?_
  | with_reducible refine isi_bool_b ?_
  | with_reducible refine isi_bool_i ?_
  | with_reducible refine isi_bool_s ?_
  | with_reducible refine isi_bool_l ?_
  | with_reducible refine isi_bool_t ?_
  | ((with_reducible apply isi_bool_o); rfl)
  | with_reducible refine isi_str_n ?_
  | with_reducible refine isi_str_b ?_
  | with_reducible refine isi_str_i ?_
  | with_reducible refine isi_str_s ?_
  | with_reducible refine isi_str_l ?_
  | with_reducible refine isi_str_t ?_
  | ((with_reducible apply isi_str_o); rfl)
  | with_reducible refine isi_tuple_n ?_
  | with_reducible refine isi_tuple_b ?_
  | with_reducible refine isi_tuple_i ?_
  | with_reducible refine isi_tuple_s ?_
  | with_reducible refine isi_tuple_l ?_
  | with_reducible refine isi_tuple_t ?_
  | ((with_reducible apply isi_tuple_o); rfl)
  | with_reducible refine isi_list_n ?_
  | with_reducible refine isi_list_b ?_
  | with_reducible refine isi_list_i ?_
  | with_reducible refine isi_list_s ?_
  | with_reducible refine isi_list_l ?_
  | with_reducible refine isi_list_t ?_
  | ((with_reducible apply isi_list_o); rfl))
local macro_rules | `(tactic| walk_at "nset") => `(tactic| try simp only [List.set_cons_succ, List.set_cons_zero])
local macro_rules | `(tactic| walk_at "w1") => `(tactic| first
  | with_reducible refine ws_seq ?_
  | with_reducible refine seqK_nx ?_
  | with_reducible refine seqK_ret ?_
  | with_reducible refine ws_skip ?_
  | with_reducible refine ws_expr ?_
  | with_reducible refine exK_val ?_
  | with_reducible refine exK_new ?_
  | with_reducible refine exK_err ?_
  | with_reducible refine seqK_err ?_
  | with_reducible refine rtK_err ?_
  | with_reducible refine setK_err ?_
  | with_reducible refine retV_err ?_
  | ((with_reducible refine retO_err ?_); walk_at "nset")
  | ((with_reducible refine defK_err ?_); try dsimp only [outsOf, List.zipWith])
  | with_reducible refine ws_raise1 ?_
  | with_reducible refine raK_int ?_
  | with_reducible refine we_errOf ?_
  | with_reducible refine eofK_val ?_
  | with_reducible refine eofK_new ?_
  | with_reducible refine ws_ret ?_
  | with_reducible refine rtK_val ?_
  | with_reducible refine rtK_new ?_
  | with_reducible refine rtK_slot ?_
  | with_reducible refine ws_set ?_
  | ((with_reducible apply setK_val); walk_at "npin"; walk_at "nset")
  | ((with_reducible apply setK_new); walk_at "npin"; walk_at "nset")
  | with_reducible refine ws_if ?_
  | with_reducible refine we_c ?_
  | ((with_reducible apply we_var); rfl)
  | ((with_reducible apply we_varo); rfl)
  | with_reducible refine we_op ?_
  | with_reducible refine opK1_val ?_
  | with_reducible refine opK1_new ?_
  | with_reducible refine opK1_slot ?_
  | with_reducible refine opK2_vv xAdd ?_
  | with_reducible refine opK2_vv xSub ?_
  | with_reducible refine opK2_vv xLt ?_
  | with_reducible refine opK2_vv xLe ?_
  | with_reducible refine opK2_vv xGt ?_
  | with_reducible refine opK2_vv xGe ?_
  | with_reducible refine opK2_vv xEq ?_
  | with_reducible refine opK2_vv xNe ?_
  | with_reducible refine opK2_vv xIsN ?_
  | with_reducible refine opK2_vv xNotN ?_
  | with_reducible refine we_un ?_
  | with_reducible refine unK_val xNeg ?_
  | (with_reducible refine we_isi ?_)
  | with_reducible refine we_not ?_
  | with_reducible refine notK_t ?_
  | with_reducible refine notK_f ?_
  | with_reducible refine notK_b ?_
  | with_reducible refine we_and ?_
  | with_reducible refine andK_t ?_
  | with_reducible refine andK_f ?_
  | with_reducible refine we_or ?_
  | with_reducible refine orK_t ?_
  | with_reducible refine orK_f ?_
  | with_reducible refine we_ifE ?_
  | with_reducible refine ifEK_t ?_
  | with_reducible refine ifEK_f ?_
  | with_reducible refine ifK_t ?_
  | with_reducible refine ifK_f ?_
  | with_reducible refine we_fn ?_
  | with_reducible refine we_call ?_
  | walk_at "spec"
  | with_reducible refine wa_cons ?_
  | with_reducible refine wa_nil ?_
  | with_reducible refine argK_val ?_
  | with_reducible refine argK_new ?_
  | with_reducible refine argK_slot ?_
  | with_reducible refine argK2_val ?_
  | ((with_reducible apply argK2_slot); rfl)
  | with_reducible refine fnK_v xLenTI ?_
  | with_reducible refine fnK_v xLenLI ?_
  | ((with_reducible apply fnK_s (h := xLenLI)); rfl)
  | with_reducible refine fnK_v xLenT ?_
  | with_reducible refine fnK_v xLenL ?_
  | ((with_reducible apply fnK_s (h := xLenL)); rfl)
  | with_reducible refine fnK_v xTupL ?_
  | with_reducible refine fnK_v xTupT ?_
  | ((with_reducible apply fnK_s (h := xTupL)); rfl)
  | with_reducible refine fnK_v xLstL ?_
  | with_reducible refine fnK_v xLstT ?_
  | ((with_reducible apply fnK_s (h := xLstL)); rfl)
  | with_reducible refine fnK_v xAbs ?_
  | with_reducible refine fnK_vv xGcd ?_
  | with_reducible refine callK_v1 ?_
  | with_reducible refine callK_v2 ?_
  | with_reducible refine callK_v3 ?_
  | ((with_reducible apply callK_o0); rfl)
  | ((with_reducible apply callK_o1); rfl)
  | ((with_reducible apply callK_o2); rfl)
  | with_reducible refine retV_val ?_
  | with_reducible refine retV_new ?_
  | ((with_reducible refine retO_val ?_); walk_at "nset")
  | ((with_reducible refine retO_new ?_); walk_at "nset")
  | with_reducible refine we_tup ?_
  | with_reducible refine we_lst ?_
  | with_reducible refine wt_cons ?_
  | with_reducible refine wt_nil ?_
  | with_reducible refine takK_val ?_
  | with_reducible refine takK_new ?_
  | with_reducible refine tcK_ok ?_
  | with_reducible refine tupK_ok ?_
  | with_reducible refine ws_for ?_
  | with_reducible refine wi_rg ?_
  | with_reducible refine wi_seq ?_
  | with_reducible refine wi_enum ?_
  | with_reducible refine wi_zip2 ?_
  | with_reducible refine wi_zip3 ?_
  | with_reducible refine zipK2_tt ?_
  | with_reducible refine zipK2_tl ?_
  | with_reducible refine zipK2_ll ?_
  | with_reducible refine zipK3_tll ?_
  | with_reducible refine wi_rg3 ?_
  | with_reducible refine unK_val xBackT ?_
  | with_reducible refine unK_val xBackL ?_
  | with_reducible refine itK_list ?_
  | with_reducible refine itK_tuple ?_
  | with_reducible refine itK_new ?_
  | ((with_reducible apply itK_slot); rfl)
  | with_reducible refine enK_l ?_
  | with_reducible refine enK_t ?_
  | with_reducible refine forK_n ?_
  | with_reducible refine we_lc ?_
  | ((with_reducible apply wg_nm); walk_at "npin"; walk_at "nset")
  | with_reducible refine wg_tup rfl ?_
  | with_reducible refine wgs_cons ?_
  | with_reducible refine wgs_nil ?_
  | with_reducible refine lcT_t ?_
  | ((with_reducible apply lcE_val); rfl)
  | ((with_reducible apply lcE_new); rfl)
  | with_reducible refine we_cat ?_
  | with_reducible refine catK1_new ?_
  | with_reducible refine catK1_slot ?_
  | with_reducible refine catK1_list ?_
  | with_reducible refine ws_par ?_
  | ((with_reducible apply parK_ok); walk_at "npin"; walk_at "npin"; walk_at "nset")
  | with_reducible refine lpK_nx ?_
  | with_reducible refine lpK_ret ?_
  | with_reducible refine ws_asg ?_
  | with_reducible refine asgK_val ?_
  | with_reducible refine we_cut ?_
  | with_reducible refine cutK_val ?_
  | with_reducible refine cutK_new ?_
  | with_reducible refine cutK_slot ?_
  | with_reducible refine wp_none ?_
  | with_reducible refine wp_some ?_
  | with_reducible refine ptK_int ?_
  | with_reducible refine cutK2_t ?_
  | with_reducible refine cutK2_l ?_
  | ((with_reducible apply cutK2_s); rfl)
  | with_reducible refine we_meth ?_
  | with_reducible refine mthK_t ?_
  | with_reducible refine mthK_l ?_
  | with_reducible refine mthK_n ?_
  | with_reducible refine mthK_s ?_
  | with_reducible refine opK2_vv xCntT ?_
  | with_reducible refine opK2_vv xCntL ?_
  | ((with_reducible apply opK2_sv (h := xCntL)); rfl)
  | with_reducible refine we_frz ?_
  | walk_at "isi"
  | with_reducible refine frzK_val ?_
  | with_reducible refine frzK_new ?_
  | ((with_reducible apply we_mut); rfl)
  | with_reducible refine ws_setIx ?_
  | ((with_reducible apply sixK_val); rfl)
  | ((with_reducible apply ws_aug); rfl)
  | ((with_reducible refine defK_val ?_); try dsimp only [outsOf, List.zipWith])
  | ((with_reducible refine defK_new ?_); try dsimp only [outsOf, List.zipWith])
  | ((with_reducible refine defK_nx ?_); try dsimp only [outsOf, List.zipWith])
  | ((with_reducible apply defK_slot); rfl; try dsimp only [outsOf, List.zipWith])
  | ((with_reducible refine wf_def ?_); try simp only [List.length_cons, List.length_nil, List.cons_append, List.nil_append, Nat.reduceAdd, Nat.reduceSub, List.reduceReplicate]))
local macro_rules | `(tactic| walk_at "wp") => `(tactic| repeat (walk_at "w1"))
local macro_rules | `(tactic| walk_at "wt") => `(tactic| repeat (first | with_reducible refine wt_nil ?_ | with_reducible refine wt_cons ?_ | with_reducible refine takK_val ?_ | with_reducible refine takK_new ?_ | with_reducible refine tcK_ok ?_ | with_reducible refine tupK_ok ?_ | ((with_reducible apply parK_ok); walk_at "npin"; walk_at "npin"; walk_at "nset")))
local macro_rules | `(tactic| walk_at "wipe") => `(tactic| simp only [wipeE, unwipe, List.getD_cons_succ, List.getD_cons_zero, List.set_cons_succ, List.set_cons_zero])
local macro_rules | `(tactic| walk_at "spec") => `(tactic| fail)
abbrev mD (ms : List Int) : D := .tuple (ms.map PyData.int)
abbrev iD (is : List Nat) : D := .list ((sI is).map PyData.int)
/-- the rings up to the m-th block -/
def ringsD (ms : List Int) (is : List Nat) (m : Nat) : List D := (List.range (m + 1)).map fun k => mD (rep ms is k)
theorem ringsD_len (ms : List Int) (is : List Nat) (m : Nat) : (ringsD ms is m).length = m + 1 := by unfold ringsD; simp
theorem ringsD_at {ms : List Int} {is : List Nat} {m k : Nat} (h : k ≤ m) : (ringsD ms is m)[k]? = some (mD (rep ms is k)) := by
  unfold ringsD
  rw [List.getElem?_map, List.getElem?_range (by omega)]
  rfl
theorem ringsD_succ (ms : List Int) (is : List Nat) (m : Nat) : ringsD ms is m ++ [mD (rep ms is (m + 1))] = ringsD ms is (m + 1) := by
  unfold ringsD
  rw [List.range_succ (n := m + 1), List.map_append]
  rfl
theorem ix_lastD {xs : List D} {d : D} (h : xs[xs.length - 1]? = some d) : gIx (.list xs) (.int (-1)) = some (.val d) := by
  unfold gIx
  simp only
  rw [atI_last h]
  rfl
theorem ringsD_last {ms : List Int} {is : List Nat} {m : Nat} : gIx (.list (ringsD ms is m)) (.int (-1)) = some (.val (mD (rep ms is m))) := ix_lastD (by rw [ringsD_len]; exact ringsD_at (by omega))
section
variable {R : Rs → List Sl → Prop} {ms : List Int} {is : List Nat}
theorem reflect_w (h : ∀ i ∈ is, i < ms.length) (q : R (.val (mD (refls ms is))) [.val (mD ms), .val (iD is)]) : WF f_reflect_seats [.val (mD ms), .val (iD is)] R := wf_eq (reflect_seats_spec h) q
theorem check_block_w (hm : Mk ms) (h : ∀ i ∈ is, i < ms.length) (q : R (.val .none) [.val (mD ms), .val (iD is)]) : WF f_check_block [.val (mD ms), .val (iD is)] R := by
  unfold f_check_block
  walk_at "wp"
  refine check_ring_w hm ?_
  walk_at "wp"
  walk_at "wt"
  walk_at "wp"
  refine wf_eq (check_moves_spec (P := []) fun i hi => ⟨h i hi, rfl⟩) ?_
  walk_at "wp"
  exact q
theorem check_times_w {t : Nat} (ht : t ≤ 1000000000000000000) (q : R (.val .none) [.val (.int (t : Int))]) : WF f_check_times [.val (.int (t : Int))] R := by
  unfold f_check_times
  walk_at "wp"
  refine is_whole_w (b := true) rfl rfl ?_
  walk_at "wp"
  refine we_chain2 (b := decide ((0 : Int) ≤ (t : Int))) (b' := decide ((t : Int) ≤ 1000000000000000000)) (da := .int 0) (db := .int (t : Int)) (dc := .int 1000000000000000000) rfl rfl rfl xLe xLe ?_
  rw [decide_eq_true (show (0 : Int) ≤ (t : Int) by omega), decide_eq_true (show (t : Int) ≤ 1000000000000000000 by omega)]
  refine notK_b ?_
  show ifK sNever sSkip _ (.val (.bool false)) _
  walk_at "wp"
  exact q
theorem rings_w {m : Nat} (hn : 3 ≤ ms.length) (h8 : ms.length ≤ 8) (h : ∀ i ∈ is, i < ms.length) (hp : IsPer ms is m) (q : R (.new (ringsD ms is m)) [.val (mD ms), .val (iD is)]) : WF f_rings_of_round [.val (mD ms), .val (iD is)] R := by
  unfold f_rings_of_round
  walk_at "wp"
  refine steps_w h8 ?_
  walk_at "wp"
  walk_at "wt"
  walk_at "wp"
  refine reflect_w h ?_
  walk_at "wp"
  walk_at "wt"
  walk_at "wp"
  refine ws_while (α := Nat) (I := fun k e => 1 ≤ k ∧ k ≤ m ∧ e = [.val (mD ms), .val (iD is), .val (.tuple ((ds ms).map PyData.int)), .own false (ringsD ms is k)]) (m := fun k => m - k) (a := 1) ⟨Nat.le_refl _, hp.1, rfl⟩ ?_
  rintro k e ⟨k1, k2, rfl⟩
  have l := rep_len ms is k
  walk_at "wp"
  refine opK2_sv rfl ringsD_last ?_
  walk_at "wp"
  refine steps_w (by rw [l]; exact h8) ?_
  walk_at "wp"
  refine opK2_vv (gNe_t _ _) ?_
  refine whK_b (fun c => ?_) (fun c => ?_)
  · have c : ds (rep ms is k) ≠ ds ms := by simpa using c
    have hk : k < m := by
      rcases Nat.lt_or_ge k m with z | z
      · exact z
      · exact absurd (by rw [show k = m by omega]; exact hp.2.2.1) c
    walk_at "wp"
    walk_at "wt"
    walk_at "wp"
    refine opK2_sv rfl ringsD_last ?_
    walk_at "wp"
    refine reflect_w (by rw [l]; exact h) ?_
    walk_at "wp"
    walk_at "wt"
    refine mutK_app rfl (by rw [ringsD_len]; have := hp.2.1; omega) ?_
    walk_at "nset"
    walk_at "wp"
    refine ⟨k + 1, ⟨by omega, hk, ?_⟩, by omega⟩
    rw [← ringsD_succ]
    rfl
  · have c : ds (rep ms is k) = ds ms := by simpa using c
    have hk : k = m := by
      rcases Nat.lt_or_ge k m with z | z
      · exact absurd c (hp.2.2.2 k k1 z)
      · omega
    subst hk
    walk_at "wp"
    exact q
theorem seats_t {t m : Nat} (hm : 0 < m) : t / m * m + t % m = t := by rw [Nat.mul_comm]; exact Nat.div_add_mod t m
theorem repeat_seats_w {m t : Nat} (hn : 3 ≤ ms.length) (h8 : ms.length ≤ 8) (h : ∀ i ∈ is, i < ms.length) (hp : IsPer ms is m) (ht : t ≤ 1000000000000000000) (q : R (.val (mD (rep ms is t))) [.val (mD ms), .val (iD is), .val (.int (t : Int))]) : WF f_repeat_seats [.val (mD ms), .val (iD is), .val (.int (t : Int))] R := by
  have hm := hp.1
  have h0 : 0 < ms.length := by omega
  unfold f_repeat_seats
  walk_at "wp"
  refine rings_w hn h8 h hp ?_
  walk_at "wp"
  rw [ringsD_len]
  refine fnK_vv (xDivmod (by omega) (by omega)) ?_
  walk_at "wp"
  refine opK2_sv rfl ringsD_last ?_
  walk_at "wp"
  refine opK2_vv (ix0_t (by rw [rep_len]; exact h0)) ?_
  walk_at "wp"
  refine opK2_vv (ix0_t h0) ?_
  walk_at "wp"
  have em : ((m + 1 : Nat) : Int) - 1 = (m : Int) := by omega
  rw [em, ← Int.natCast_ediv, ← Int.natCast_emod]
  have hdiv : t / m ≤ t := Nat.div_le_self _ _
  have hd0 := Int.natCast_nonneg (t / m)
  refine opK2_vv (xMul (.inl ⟨by omega, by omega⟩)) ?_
  walk_at "wp"
  have hr : t % m < m := Nat.mod_lt _ hm
  refine opK2_sv rfl (xIxL (j := t % m) rfl (ringsD_at (by omega))) ?_
  walk_at "wp"
  refine lcK_n (by rfl) (by rw [List.length_map, rep_len]; omega) ?_
  walk_at "wipe"
  refine ll_map (Fn := mapI (· + ((t / m : Nat) : Int) * drift ms is m)) (fun d hd => ?_) ?_
  · obtain ⟨i, _, rfl⟩ := List.mem_map.mp hd
    walk_at "wp"
    exact ⟨rfl, rfl⟩
  · walk_at "wipe"
    walk_at "wp"
    rw [mapI_ints]
    have e : (rep ms is (t % m)).map (· + ((t / m : Nat) : Int) * drift ms is m) = rep ms is t := by
      have := rep_round h0 h hp.2.2.1 (t % m) (t / m)
      rw [seats_t hm] at this
      exact this.symm
    rw [e]
    exact q
theorem repeat_w {t : Nat} (hm : Mk ms) (h : ∀ i ∈ is, i < ms.length) (ht : t ≤ 1000000000000000000) (q : R (.val (mD (rep ms is t))) [.val (mD ms), .val (iD is), .val (.int (t : Int))]) : WF f_repeat_block [.val (mD ms), .val (iD is), .val (.int (t : Int))] R := by
  obtain ⟨m, hp⟩ := per_ex hm.1 hm.2.1 h
  unfold f_repeat_block
  walk_at "wp"
  refine check_block_w hm h ?_
  walk_at "wp"
  refine check_times_w ht ?_
  walk_at "wp"
  refine repeat_seats_w hm.1 hm.2.1 h hp ht ?_
  walk_at "wp"
  exact q
theorem drift_w {m : Nat} (hm : Mk ms) (h : ∀ i ∈ is, i < ms.length) (hp : IsPer ms is m) (q : R (.val (.tuple [.int (m : Int), .int (drift ms is m)])) [.val (mD ms), .val (iD is)]) : WF f_block_drift [.val (mD ms), .val (iD is)] R := by
  have h0 := mk_pos hm
  unfold f_block_drift
  walk_at "wp"
  refine check_block_w hm h ?_
  walk_at "wp"
  refine rings_w hm.1 hm.2.1 h hp ?_
  walk_at "wp"
  rw [ringsD_len]
  walk_at "wt"
  walk_at "wp"
  refine opK2_sv rfl ringsD_last ?_
  walk_at "wp"
  refine opK2_vv (ix0_t (by rw [rep_len]; exact h0)) ?_
  walk_at "wp"
  refine opK2_vv (ix0_t h0) ?_
  walk_at "wp"
  walk_at "wt"
  walk_at "wp"
  have em : ((m + 1 : Nat) : Int) - 1 = (m : Int) := by omega
  rw [em]
  exact q
end
end MR

set_option Elab.async false
set_option linter.all false
set_option maxRecDepth 100000
set_option maxHeartbeats 1000000
namespace MR
open PySem PySem.Spec PyProof.Rows L2
variable [Tq]
local macro_rules | `(tactic| walk_at "npin") => `(tactic| first | rfl | exact np_at rfl (by assumption))
local macro_rules | `(tactic| walk_at "isi") => `(tactic| first
  | with_reducible refine isi_int_n ?_
  | with_reducible refine isi_int_b ?_
  | with_reducible refine isi_int_i ?_
  | with_reducible refine isi_int_s ?_
  | with_reducible refine isi_int_l ?_
  | with_reducible refine isi_int_t ?_
  | ((with_reducible apply isi_int_o); rfl)
  | with_reducible refine isi_bool_n ?_
  | with_reducible refine isi_bool_b ?_
  | with_reducible refine isi_bool_i ?_
  | with_reducible refine isi_bool_s ?_
  | with_reducible refine isi_bool_l ?_
  | with_reducible refine isi_bool_t ?_
  | ((with_reducible apply isi_bool_o); rfl)
  | with_reducible refine isi_str_n ?_
  | with_reducible refine isi_str_b ?_
  | with_reducible refine isi_str_i ?_
  | with_reducible refine isi_str_s ?_
  | with_reducible refine isi_str_l ?_
  | with_reducible refine isi_str_t ?_
  | ((with_reducible apply isi_str_o); rfl)
  | with_reducible refine isi_tuple_n ?_
  | with_reducible refine isi_tuple_b ?_
  | with_reducible refine isi_tuple_i ?_
  | with_reducible refine isi_tuple_s ?_
  | with_reducible refine isi_tuple_l ?_
  | with_reducible refine isi_tuple_t ?_
  | ((with_reducible apply isi_tuple_o); rfl)
  | with_reducible refine isi_list_n ?_
  | with_reducible refine isi_list_b ?_
  | with_reducible refine isi_list_i ?_
  | with_reducible refine isi_list_s ?_
  | with_reducible refine isi_list_l ?_
  | with_reducible refine isi_list_t ?_
  | ((with_reducible apply isi_list_o); rfl))
local macro_rules | `(tactic| walk_at "nset") => `(tactic| try simp only [List.set_cons_succ, List.set_cons_zero])
local macro_rules | `(tactic| walk_at "w1") => `(tactic| first
  | with_reducible refine ws_seq ?_
  | with_reducible refine seqK_nx ?_
  | with_reducible refine seqK_ret ?_
  | with_reducible refine ws_skip ?_
  | with_reducible refine ws_expr ?_
  | with_reducible refine exK_val ?_
  | with_reducible refine exK_new ?_
  | with_reducible refine exK_err ?_
  | with_reducible refine seqK_err ?_
  | with_reducible refine rtK_err ?_
  | with_reducible refine setK_err ?_
  | with_reducible refine retV_err ?_
  | ((with_reducible refine retO_err ?_); walk_at "nset")
  | ((with_reducible refine defK_err ?_); try dsimp only [outsOf, List.zipWith])
  | with_reducible refine ws_raise1 ?_
  | with_reducible refine raK_int ?_
  | with_reducible refine we_errOf ?_
  | with_reducible refine eofK_val ?_
  | with_reducible refine eofK_new ?_
  | with_reducible refine ws_ret ?_
  | with_reducible refine rtK_val ?_
  | with_reducible refine rtK_new ?_
  | with_reducible refine rtK_slot ?_
  | with_reducible refine ws_set ?_
  | ((with_reducible apply setK_val); walk_at "npin"; walk_at "nset")
  | ((with_reducible apply setK_new); walk_at "npin"; walk_at "nset")
  | with_reducible refine ws_if ?_
  | with_reducible refine we_c ?_
  | ((with_reducible apply we_var); rfl)
  | ((with_reducible apply we_varo); rfl)
  | with_reducible refine we_op ?_
  | with_reducible refine opK1_val ?_
  | with_reducible refine opK1_new ?_
  | with_reducible refine opK1_slot ?_
  | with_reducible refine opK2_vv xAdd ?_
  | with_reducible refine opK2_vv xSub ?_
  | with_reducible refine opK2_vv xLt ?_
  | with_reducible refine opK2_vv xLe ?_
  | with_reducible refine opK2_vv xGt ?_
  | with_reducible refine opK2_vv xGe ?_
  | with_reducible refine opK2_vv xEq ?_
  | with_reducible refine opK2_vv xNe ?_
  | with_reducible refine opK2_vv xIsN ?_
  | with_reducible refine opK2_vv xNotN ?_
  | with_reducible refine we_un ?_
  | with_reducible refine unK_val xNeg ?_
  | (with_reducible refine we_isi ?_)
  | with_reducible refine we_not ?_
  | with_reducible refine notK_t ?_
  | with_reducible refine notK_f ?_
  | with_reducible refine notK_b ?_
  | with_reducible refine we_and ?_
  | with_reducible refine andK_t ?_
  | with_reducible refine andK_f ?_
  | with_reducible refine we_or ?_
  | with_reducible refine orK_t ?_
  | with_reducible refine orK_f ?_
  | with_reducible refine we_ifE ?_
  | with_reducible refine ifEK_t ?_
  | with_reducible refine ifEK_f ?_
  | with_reducible refine ifK_t ?_
  | with_reducible refine ifK_f ?_
  | with_reducible refine we_fn ?_
  | with_reducible refine we_call ?_
  | walk_at "spec"
  | with_reducible refine wa_cons ?_
  | with_reducible refine wa_nil ?_
  | with_reducible refine argK_val ?_
  | with_reducible refine argK_new ?_
  | with_reducible refine argK_slot ?_
  | with_reducible refine argK2_val ?_
  | ((with_reducible apply argK2_slot); rfl)
  | with_reducible refine fnK_v xLenTI ?_
  | with_reducible refine fnK_v xLenLI ?_
  | ((with_reducible apply fnK_s (h := xLenLI)); rfl)
  | with_reducible refine fnK_v xLenT ?_
  | with_reducible refine fnK_v xLenL ?_
  | ((with_reducible apply fnK_s (h := xLenL)); rfl)
  | with_reducible refine fnK_v xTupL ?_
  | with_reducible refine fnK_v xTupT ?_
  | ((with_reducible apply fnK_s (h := xTupL)); rfl)
  | with_reducible refine fnK_v xLstL ?_
  | with_reducible refine fnK_v xLstT ?_
  | ((with_reducible apply fnK_s (h := xLstL)); rfl)
  | with_reducible refine fnK_v xAbs ?_
  | with_reducible refine fnK_vv xGcd ?_
  | with_reducible refine callK_v1 ?_
  | with_reducible refine callK_v2 ?_
  | with_reducible refine callK_v3 ?_
  | ((with_reducible apply callK_o0); rfl)
  | ((with_reducible apply callK_o1); rfl)
  | ((with_reducible apply callK_o2); rfl)
  | with_reducible refine retV_val ?_
  | with_reducible refine retV_new ?_
  | ((with_reducible refine retO_val ?_); walk_at "nset")
  | ((with_reducible refine retO_new ?_); walk_at "nset")
  | with_reducible refine we_tup ?_
  | with_reducible refine we_lst ?_
  | with_reducible refine wt_cons ?_
  | with_reducible refine wt_nil ?_
  | with_reducible refine takK_val ?_
  | with_reducible refine takK_new ?_
  | with_reducible refine tcK_ok ?_
  | with_reducible refine tupK_ok ?_
  | with_reducible refine ws_for ?_
  | with_reducible refine wi_rg ?_
  | with_reducible refine wi_seq ?_
  | with_reducible refine wi_enum ?_
  | with_reducible refine wi_zip2 ?_
  | with_reducible refine wi_zip3 ?_
  | with_reducible refine zipK2_tt ?_
  | with_reducible refine zipK2_tl ?_
  | with_reducible refine zipK2_ll ?_
  | with_reducible refine zipK3_tll ?_
  | with_reducible refine wi_rg3 ?_
  | with_reducible refine unK_val xBackT ?_
  | with_reducible refine unK_val xBackL ?_
  | with_reducible refine itK_list ?_
  | with_reducible refine itK_tuple ?_
  | with_reducible refine itK_new ?_
  | ((with_reducible apply itK_slot); rfl)
  | with_reducible refine enK_l ?_
  | with_reducible refine enK_t ?_
  | with_reducible refine forK_n ?_
  | with_reducible refine we_lc ?_
  | ((with_reducible apply wg_nm); walk_at "npin"; walk_at "nset")
  | with_reducible refine wg_tup rfl ?_
  | with_reducible refine wgs_cons ?_
  | with_reducible refine wgs_nil ?_
  | with_reducible refine lcT_t ?_
  | ((with_reducible apply lcE_val); rfl)
  | ((with_reducible apply lcE_new); rfl)
  | with_reducible refine we_cat ?_
  | with_reducible refine catK1_new ?_
  | with_reducible refine catK1_slot ?_
  | with_reducible refine catK1_list ?_
  | with_reducible refine ws_par ?_
  | ((with_reducible apply parK_ok); walk_at "npin"; walk_at "npin"; walk_at "nset")
  | with_reducible refine lpK_nx ?_
  | with_reducible refine lpK_ret ?_
  | with_reducible refine ws_asg ?_
  | with_reducible refine asgK_val ?_
  | with_reducible refine we_cut ?_
  | with_reducible refine cutK_val ?_
  | with_reducible refine cutK_new ?_
  | with_reducible refine cutK_slot ?_
  | with_reducible refine wp_none ?_
  | with_reducible refine wp_some ?_
  | with_reducible refine ptK_int ?_
  | with_reducible refine cutK2_t ?_
  | with_reducible refine cutK2_l ?_
  | ((with_reducible apply cutK2_s); rfl)
  | with_reducible refine we_meth ?_
  | with_reducible refine mthK_t ?_
  | with_reducible refine mthK_l ?_
  | with_reducible refine mthK_n ?_
  | with_reducible refine mthK_s ?_
  | with_reducible refine opK2_vv xCntT ?_
  | with_reducible refine opK2_vv xCntL ?_
  | ((with_reducible apply opK2_sv (h := xCntL)); rfl)
  | with_reducible refine we_frz ?_
  | walk_at "isi"
  | with_reducible refine frzK_val ?_
  | with_reducible refine frzK_new ?_
  | ((with_reducible apply we_mut); rfl)
  | with_reducible refine ws_setIx ?_
  | ((with_reducible apply sixK_val); rfl)
  | ((with_reducible apply ws_aug); rfl)
  | ((with_reducible refine defK_val ?_); try dsimp only [outsOf, List.zipWith])
  | ((with_reducible refine defK_new ?_); try dsimp only [outsOf, List.zipWith])
  | ((with_reducible refine defK_nx ?_); try dsimp only [outsOf, List.zipWith])
  | ((with_reducible apply defK_slot); rfl; try dsimp only [outsOf, List.zipWith])
  | ((with_reducible refine wf_def ?_); try simp only [List.length_cons, List.length_nil, List.cons_append, List.nil_append, Nat.reduceAdd, Nat.reduceSub, List.reduceReplicate]))
local macro_rules | `(tactic| walk_at "wp") => `(tactic| repeat (walk_at "w1"))
local macro_rules | `(tactic| walk_at "wt") => `(tactic| repeat (first | with_reducible refine wt_nil ?_ | with_reducible refine wt_cons ?_ | with_reducible refine takK_val ?_ | with_reducible refine takK_new ?_ | with_reducible refine tcK_ok ?_ | with_reducible refine tupK_ok ?_ | ((with_reducible apply parK_ok); walk_at "npin"; walk_at "npin"; walk_at "nset")))
local macro_rules | `(tactic| walk_at "wipe") => `(tactic| simp only [wipeE, unwipe, List.getD_cons_succ, List.getD_cons_zero, List.set_cons_succ, List.set_cons_zero])
local macro_rules | `(tactic| walk_at "spec") => `(tactic| fail)
section
variable {R : Rs → List Sl → Prop} {ms : List Int} {is : List Nat}
end
end MR

set_option Elab.async false
set_option linter.all false
set_option maxRecDepth 100000
set_option maxHeartbeats 1000000
namespace MR
open PySem PySem.Spec PyProof.Rows L2
variable [Tq]
section
variable {R : Rs → List Sl → Prop} {ms : List Int} {is : List Nat}
theorem apply_w (hm : Mk ms) (h : ∀ i ∈ is, i < ms.length) (q : R (.val (mD (refls ms is))) [.val (mD ms), .val (iD is), .val (.tuple [])]) : WF f_apply_moves [.val (mD ms), .val (iD is), .val (.tuple [])] R :=
  wf_eq (apply_moves_spec (P := []) hm ⟨List.Pairwise.nil, nofun⟩ fun i hi => ⟨h i hi, rfl⟩) q
end
end MR

set_option Elab.async false
set_option linter.all false
set_option maxRecDepth 100000
set_option maxHeartbeats 1000000
namespace MR
open PySem PySem.Spec PyProof.Rows L2
variable [Tq]
local macro_rules | `(tactic| walk_at "npin") => `(tactic| first | rfl | exact np_at rfl (by assumption))
local macro_rules | `(tactic| walk_at "isi") => `(tactic| first
  | with_reducible refine isi_int_n ?_
  | with_reducible refine isi_int_b ?_
  | with_reducible refine isi_int_i ?_
  | with_reducible refine isi_int_s ?_
  | with_reducible refine isi_int_l ?_
  | with_reducible refine isi_int_t ?_
  | ((with_reducible apply isi_int_o); rfl)
  | with_reducible refine isi_bool_n ?_
  | with_reducible refine isi_bool_b ?_
  | with_reducible refine isi_bool_i ?_
  | with_reducible refine isi_bool_s ?_
  | with_reducible refine isi_bool_l ?_
  | with_reducible refine isi_bool_t ?_
  | ((with_reducible apply isi_bool_o); rfl)
  | with_reducible refine isi_str_n ?_
  | with_reducible refine isi_str_b ?_
  | with_reducible refine isi_str_i ?_
  | with_reducible refine isi_str_s ?_
  | with_reducible refine isi_str_l ?_
  | with_reducible refine isi_str_t ?_
  | ((with_reducible apply isi_str_o); rfl)
  | with_reducible refine isi_tuple_n ?_
  | with_reducible refine isi_tuple_b ?_
  | with_reducible refine isi_tuple_i ?_
  | with_reducible refine isi_tuple_s ?_
  | with_reducible refine isi_tuple_l ?_
  | with_reducible refine isi_tuple_t ?_
  | ((with_reducible apply isi_tuple_o); rfl)
  | with_reducible refine isi_list_n ?_
  | with_reducible refine isi_list_b ?_
  | with_reducible refine isi_list_i ?_
  | with_reducible refine isi_list_s ?_
  | with_reducible refine isi_list_l ?_
  | with_reducible refine isi_list_t ?_
  | ((with_reducible apply isi_list_o); rfl))
local macro_rules | `(tactic| walk_at "nset") => `(tactic| try simp only [List.set_cons_succ, List.set_cons_zero])
local macro_rules | `(tactic| walk_at "w1") => `(tactic| first
  | with_reducible refine ws_seq ?_
  | with_reducible refine seqK_nx ?_
  | with_reducible refine seqK_ret ?_
  | with_reducible refine ws_skip ?_
  | with_reducible refine ws_expr ?_
  | with_reducible refine exK_val ?_
  | with_reducible refine exK_new ?_
  | with_reducible refine exK_err ?_
  | with_reducible refine seqK_err ?_
  | with_reducible refine rtK_err ?_
  | with_reducible refine setK_err ?_
  | with_reducible refine retV_err ?_
  | ((with_reducible refine retO_err ?_); walk_at "nset")
  | ((with_reducible refine defK_err ?_); try dsimp only [outsOf, List.zipWith])
  | with_reducible refine ws_raise1 ?_
  | with_reducible refine raK_int ?_
  | with_reducible refine we_errOf ?_
  | with_reducible refine eofK_val ?_
  | with_reducible refine eofK_new ?_
  | with_reducible refine ws_ret ?_
  | with_reducible refine rtK_val ?_
  | with_reducible refine rtK_new ?_
  | with_reducible refine rtK_slot ?_
  | with_reducible refine ws_set ?_
  | ((with_reducible apply setK_val); walk_at "npin"; walk_at "nset")
  | ((with_reducible apply setK_new); walk_at "npin"; walk_at "nset")
  | with_reducible refine ws_if ?_
  | with_reducible refine we_c ?_
  | ((with_reducible apply we_var); rfl)
  | ((with_reducible apply we_varo); rfl)
  | with_reducible refine we_op ?_
  | with_reducible refine opK1_val ?_
  | with_reducible refine opK1_new ?_
  | with_reducible refine opK1_slot ?_
  | with_reducible refine opK2_vv xAdd ?_
  | with_reducible refine opK2_vv xSub ?_
  | with_reducible refine opK2_vv xLt ?_
  | with_reducible refine opK2_vv xLe ?_
  | with_reducible refine opK2_vv xGt ?_
  | with_reducible refine opK2_vv xGe ?_
  | with_reducible refine opK2_vv xEq ?_
  | with_reducible refine opK2_vv xNe ?_
  | with_reducible refine opK2_vv xIsN ?_
  | with_reducible refine opK2_vv xNotN ?_
  | with_reducible refine we_un ?_
  | with_reducible refine unK_val xNeg ?_
  | (with_reducible refine we_isi ?_)
  | with_reducible refine we_not ?_
  | with_reducible refine notK_t ?_
  | with_reducible refine notK_f ?_
  | with_reducible refine notK_b ?_
  | with_reducible refine we_and ?_
  | with_reducible refine andK_t ?_
  | with_reducible refine andK_f ?_
  | with_reducible refine we_or ?_
  | with_reducible refine orK_t ?_
  | with_reducible refine orK_f ?_
  | with_reducible refine we_ifE ?_
  | with_reducible refine ifEK_t ?_
  | with_reducible refine ifEK_f ?_
  | with_reducible refine ifK_t ?_
  | with_reducible refine ifK_f ?_
  | with_reducible refine we_fn ?_
  | with_reducible refine we_call ?_
  | walk_at "spec"
  | with_reducible refine wa_cons ?_
  | with_reducible refine wa_nil ?_
  | with_reducible refine argK_val ?_
  | with_reducible refine argK_new ?_
  | with_reducible refine argK_slot ?_
  | with_reducible refine argK2_val ?_
  | ((with_reducible apply argK2_slot); rfl)
  | with_reducible refine fnK_v xLenTI ?_
  | with_reducible refine fnK_v xLenLI ?_
  | ((with_reducible apply fnK_s (h := xLenLI)); rfl)
  | with_reducible refine fnK_v xLenT ?_
  | with_reducible refine fnK_v xLenL ?_
  | ((with_reducible apply fnK_s (h := xLenL)); rfl)
  | with_reducible refine fnK_v xTupL ?_
  | with_reducible refine fnK_v xTupT ?_
  | ((with_reducible apply fnK_s (h := xTupL)); rfl)
  | with_reducible refine fnK_v xLstL ?_
  | with_reducible refine fnK_v xLstT ?_
  | ((with_reducible apply fnK_s (h := xLstL)); rfl)
  | with_reducible refine fnK_v xAbs ?_
  | with_reducible refine fnK_vv xGcd ?_
  | with_reducible refine callK_v1 ?_
  | with_reducible refine callK_v2 ?_
  | with_reducible refine callK_v3 ?_
  | ((with_reducible apply callK_o0); rfl)
  | ((with_reducible apply callK_o1); rfl)
  | ((with_reducible apply callK_o2); rfl)
  | with_reducible refine retV_val ?_
  | with_reducible refine retV_new ?_
  | ((with_reducible refine retO_val ?_); walk_at "nset")
  | ((with_reducible refine retO_new ?_); walk_at "nset")
  | with_reducible refine we_tup ?_
  | with_reducible refine we_lst ?_
  | with_reducible refine wt_cons ?_
  | with_reducible refine wt_nil ?_
  | with_reducible refine takK_val ?_
  | with_reducible refine takK_new ?_
  | with_reducible refine tcK_ok ?_
  | with_reducible refine tupK_ok ?_
  | with_reducible refine ws_for ?_
  | with_reducible refine wi_rg ?_
  | with_reducible refine wi_seq ?_
  | with_reducible refine wi_enum ?_
  | with_reducible refine wi_zip2 ?_
  | with_reducible refine wi_zip3 ?_
  | with_reducible refine zipK2_tt ?_
  | with_reducible refine zipK2_tl ?_
  | with_reducible refine zipK2_ll ?_
  | with_reducible refine zipK3_tll ?_
  | with_reducible refine wi_rg3 ?_
  | with_reducible refine unK_val xBackT ?_
  | with_reducible refine unK_val xBackL ?_
  | with_reducible refine itK_list ?_
  | with_reducible refine itK_tuple ?_
  | with_reducible refine itK_new ?_
  | ((with_reducible apply itK_slot); rfl)
  | with_reducible refine enK_l ?_
  | with_reducible refine enK_t ?_
  | with_reducible refine forK_n ?_
  | with_reducible refine we_lc ?_
  | ((with_reducible apply wg_nm); walk_at "npin"; walk_at "nset")
  | with_reducible refine wg_tup rfl ?_
  | with_reducible refine wgs_cons ?_
  | with_reducible refine wgs_nil ?_
  | with_reducible refine lcT_t ?_
  | ((with_reducible apply lcE_val); rfl)
  | ((with_reducible apply lcE_new); rfl)
  | with_reducible refine we_cat ?_
  | with_reducible refine catK1_new ?_
  | with_reducible refine catK1_slot ?_
  | with_reducible refine catK1_list ?_
  | with_reducible refine ws_par ?_
  | ((with_reducible apply parK_ok); walk_at "npin"; walk_at "npin"; walk_at "nset")
  | with_reducible refine lpK_nx ?_
  | with_reducible refine lpK_ret ?_
  | with_reducible refine ws_asg ?_
  | with_reducible refine asgK_val ?_
  | with_reducible refine we_cut ?_
  | with_reducible refine cutK_val ?_
  | with_reducible refine cutK_new ?_
  | with_reducible refine cutK_slot ?_
  | with_reducible refine wp_none ?_
  | with_reducible refine wp_some ?_
  | with_reducible refine ptK_int ?_
  | with_reducible refine cutK2_t ?_
  | with_reducible refine cutK2_l ?_
  | ((with_reducible apply cutK2_s); rfl)
  | with_reducible refine we_meth ?_
  | with_reducible refine mthK_t ?_
  | with_reducible refine mthK_l ?_
  | with_reducible refine mthK_n ?_
  | with_reducible refine mthK_s ?_
  | with_reducible refine opK2_vv xCntT ?_
  | with_reducible refine opK2_vv xCntL ?_
  | ((with_reducible apply opK2_sv (h := xCntL)); rfl)
  | with_reducible refine we_frz ?_
  | walk_at "isi"
  | with_reducible refine frzK_val ?_
  | with_reducible refine frzK_new ?_
  | ((with_reducible apply we_mut); rfl)
  | with_reducible refine ws_setIx ?_
  | ((with_reducible apply sixK_val); rfl)
  | ((with_reducible apply ws_aug); rfl)
  | ((with_reducible refine defK_val ?_); try dsimp only [outsOf, List.zipWith])
  | ((with_reducible refine defK_new ?_); try dsimp only [outsOf, List.zipWith])
  | ((with_reducible refine defK_nx ?_); try dsimp only [outsOf, List.zipWith])
  | ((with_reducible apply defK_slot); rfl; try dsimp only [outsOf, List.zipWith])
  | ((with_reducible refine wf_def ?_); try simp only [List.length_cons, List.length_nil, List.cons_append, List.nil_append, Nat.reduceAdd, Nat.reduceSub, List.reduceReplicate]))
local macro_rules | `(tactic| walk_at "wp") => `(tactic| repeat (walk_at "w1"))
local macro_rules | `(tactic| walk_at "wt") => `(tactic| repeat (first | with_reducible refine wt_nil ?_ | with_reducible refine wt_cons ?_ | with_reducible refine takK_val ?_ | with_reducible refine takK_new ?_ | with_reducible refine tcK_ok ?_ | with_reducible refine tupK_ok ?_ | ((with_reducible apply parK_ok); walk_at "npin"; walk_at "npin"; walk_at "nset")))
local macro_rules | `(tactic| walk_at "wipe") => `(tactic| simp only [wipeE, unwipe, List.getD_cons_succ, List.getD_cons_zero, List.set_cons_succ, List.set_cons_zero])
local macro_rules | `(tactic| walk_at "spec") => `(tactic| fail)
/-! ### forward words for lists set in pairs -/
theorem we_get {f : Ev} {e e1 : Env} {R : Rs} (h : WE f e fun r e' => r = R ∧ e' = e1) : f e = some (R, e1) := by
  obtain ⟨r, e', h1, rfl, rfl⟩ := h
  exact h1
/-! ### small rings -/
def Li (ms : List Int) (n : Nat) : Prop := 3 ≤ ms.length ∧ ms.length ≤ n ∧ ∀ m ∈ ms, 0 ≤ m ∧ m < 30
theorem Li.mk {ms : List Int} {n : Nat} (h : Li ms n) (h8 : n ≤ 8) : Mk ms := ⟨h.1, Nat.le_trans h.2.1 h8, fun m hm => by have := h.2.2 m hm; omega⟩
theorem Li.dAt {ms : List Int} {n : Nat} (h : Li ms n) : ∀ x, x < ms.length → -29 ≤ dAt ms x ∧ dAt ms x ≤ 29 := fun x hx => by
  have a := h.2.2 _ (getD_mem hx)
  have b := h.2.2 _ (getD_mem (nxS_lt hx))
  unfold MR.dAt
  rw [nx_eq hx]
  omega
theorem Li.refls {ms : List Int} {n : Nat} {is : List Nat} (h : Li ms n) (h8 : n ≤ 8) (hi : ∀ i ∈ is, i < ms.length) (hl : is.length ≤ 10000) : Mk (refls ms is) := by
  refine ⟨by rw [refls_len]; exact h.1, by rw [refls_len]; exact Nat.le_trans h.2.1 h8, fun m hm => ?_⟩
  obtain ⟨x, hx, rfl⟩ := List.mem_iff_getElem.mp hm
  have hx' : x < ms.length := by rw [refls_len] at hx; exact hx
  have b := (refls_bound (M := 29) (B := 29) h.1 hi (fun y hy => by have := h.2.2 _ (getD_mem hy); omega) h.dAt).1 x hx'
  rw [getD_eq hx] at b
  have hl' : ((is.length : Nat) : Int) ≤ 10000 := by omega
  omega
theorem little_w {R : Rs → List Sl → Prop} {src : List D} {n : Nat} (hs : Src src) (h3 : 3 ≤ n) (h8 : n ≤ 8) (q : ∀ ys ms, Src ys → Li ms n → R (.val (mD ms)) [.own true ys, .val (.int (n : Int))]) : WF f_l_little [.own true src, .val (.int (n : Int))] R := by
  unfold f_l_little
  walk_at "wp"
  refine below_w hs (by omega) (by omega) fun c s1 hs1 c0 c1 => ?_
  obtain ⟨c, rfl⟩ := (⟨c.toNat, by omega⟩ : ∃ k : Nat, c = k)
  walk_at "wp"
  rw [show (3 : Int) + (c : Int) = ((3 + c : Nat) : Int) by omega]
  refine rgK_n (by omega) ?_
  refine lcK_n (by rfl) (by rw [rgI_len]; omega) ?_
  walk_at "wipe"
  refine ll_ind (I := fun k acc e => ∃ (xs : List D) (ms : List Int), Src xs ∧ ms.length = k ∧ (∀ m ∈ ms, 0 ≤ m ∧ m < 30) ∧ acc = ms.map PyData.int ∧ e = [.own true xs, .val (.int (n : Int)), .un]) ⟨s1, [], hs1, rfl, nofun, rfl, rfl⟩ ?_ ?_
  · rintro k d acc e hd ⟨xs, ms, hx, hl, hm, rfl, rfl⟩
    obtain ⟨z, _, rfl⟩ := rgI_mem (List.mem_of_getElem? hd)
    walk_at "wp"
    walk_at "wt"
    walk_at "wp"
    refine below_w hx (by omega) (by omega) fun p xs1 hx1 p0 p1 => ?_
    walk_at "wp"
    have pick : ∃ z : Int, 0 < z ∧ z ≤ 30 ∧ gIx (.list [.int 3, .int 9, .int 30]) (.int p) = some (.val (.int z)) := by
      have : p = 0 ∨ p = 1 ∨ p = 2 := by omega
      rcases this with rfl | rfl | rfl
      · exact ⟨3, by omega, by omega, xIxL (j := 0) rfl rfl⟩
      · exact ⟨9, by omega, by omega, xIxL (j := 1) rfl rfl⟩
      · exact ⟨30, by omega, by omega, xIxL (j := 2) rfl rfl⟩
    obtain ⟨z, z0, z1, hz⟩ := pick
    refine opK2_vv hz ?_
    walk_at "wp"
    refine below_w hx1 (by omega) (by omega) fun v xs2 hx2 v0 v1 => ?_
    walk_at "wp"
    refine ⟨xs2, ms ++ [v], hx2, by rw [List.length_append, hl]; rfl, fun m hm' => ?_, by rw [List.map_append]; rfl, rfl⟩
    rcases List.mem_append.mp hm' with hm' | hm'
    · exact hm m hm'
    · rw [List.mem_singleton.mp hm']; omega
  · rintro acc e ⟨xs, ms, hx, hl, hm, rfl, rfl⟩
    rw [rgI_len] at hl
    walk_at "wipe"
    walk_at "wp"
    exact q xs ms hx ⟨by omega, by omega, hm⟩
/-! ### two seats -/
end MR

set_option Elab.async false
set_option linter.all false
set_option maxRecDepth 100000
set_option maxHeartbeats 1000000
namespace MR
open PySem PySem.Spec PyProof.Rows L2
variable [Tq]
local macro_rules | `(tactic| walk_at "npin") => `(tactic| first | rfl | exact np_at rfl (by assumption))
local macro_rules | `(tactic| walk_at "isi") => `(tactic| first
  | with_reducible refine isi_int_n ?_
  | with_reducible refine isi_int_b ?_
  | with_reducible refine isi_int_i ?_
  | with_reducible refine isi_int_s ?_
  | with_reducible refine isi_int_l ?_
  | with_reducible refine isi_int_t ?_
  | ((with_reducible apply isi_int_o); rfl)
  | with_reducible refine isi_bool_n ?_
  | with_reducible refine isi_bool_b ?_
  | with_reducible refine isi_bool_i ?_
  | with_reducible refine isi_bool_s ?_
  | with_reducible refine isi_bool_l ?_
  | with_reducible refine isi_bool_t ?_
  | ((with_reducible apply isi_bool_o); rfl)
  | with_reducible refine isi_str_n ?_
  | with_reducible refine isi_str_b ?_
  | with_reducible refine isi_str_i ?_
  | with_reducible refine isi_str_s ?_
  | with_reducible refine isi_str_l ?_
  | with_reducible refine isi_str_t ?_
  | ((with_reducible apply isi_str_o); rfl)
  | with_reducible refine isi_tuple_n ?_
  | with_reducible refine isi_tuple_b ?_
  | with_reducible refine isi_tuple_i ?_
  | with_reducible refine isi_tuple_s ?_
  | with_reducible refine isi_tuple_l ?_
  | with_reducible refine isi_tuple_t ?_
  | ((with_reducible apply isi_tuple_o); rfl)
  | with_reducible refine isi_list_n ?_
  | with_reducible refine isi_list_b ?_
  | with_reducible refine isi_list_i ?_
  | with_reducible refine isi_list_s ?_
  | with_reducible refine isi_list_l ?_
  | with_reducible refine isi_list_t ?_
  | ((with_reducible apply isi_list_o); rfl))
local macro_rules | `(tactic| walk_at "nset") => `(tactic| try simp only [List.set_cons_succ, List.set_cons_zero])
local macro_rules | `(tactic| walk_at "w1") => `(tactic| first
  | with_reducible refine ws_seq ?_
  | with_reducible refine seqK_nx ?_
  | with_reducible refine seqK_ret ?_
  | with_reducible refine ws_skip ?_
  | with_reducible refine ws_expr ?_
  | with_reducible refine exK_val ?_
  | with_reducible refine exK_new ?_
  | with_reducible refine exK_err ?_
  | with_reducible refine seqK_err ?_
  | with_reducible refine rtK_err ?_
  | with_reducible refine setK_err ?_
  | with_reducible refine retV_err ?_
  | ((with_reducible refine retO_err ?_); walk_at "nset")
  | ((with_reducible refine defK_err ?_); try dsimp only [outsOf, List.zipWith])
  | with_reducible refine ws_raise1 ?_
  | with_reducible refine raK_int ?_
  | with_reducible refine we_errOf ?_
  | with_reducible refine eofK_val ?_
  | with_reducible refine eofK_new ?_
  | with_reducible refine ws_ret ?_
  | with_reducible refine rtK_val ?_
  | with_reducible refine rtK_new ?_
  | with_reducible refine rtK_slot ?_
  | with_reducible refine ws_set ?_
  | ((with_reducible apply setK_val); walk_at "npin"; walk_at "nset")
  | ((with_reducible apply setK_new); walk_at "npin"; walk_at "nset")
  | with_reducible refine ws_if ?_
  | with_reducible refine we_c ?_
  | ((with_reducible apply we_var); rfl)
  | ((with_reducible apply we_varo); rfl)
  | with_reducible refine we_op ?_
  | with_reducible refine opK1_val ?_
  | with_reducible refine opK1_new ?_
  | with_reducible refine opK1_slot ?_
  | with_reducible refine opK2_vv xAdd ?_
  | with_reducible refine opK2_vv xSub ?_
  | with_reducible refine opK2_vv xLt ?_
  | with_reducible refine opK2_vv xLe ?_
  | with_reducible refine opK2_vv xGt ?_
  | with_reducible refine opK2_vv xGe ?_
  | with_reducible refine opK2_vv xEq ?_
  | with_reducible refine opK2_vv xNe ?_
  | with_reducible refine opK2_vv xIsN ?_
  | with_reducible refine opK2_vv xNotN ?_
  | with_reducible refine we_un ?_
  | with_reducible refine unK_val xNeg ?_
  | (with_reducible refine we_isi ?_)
  | with_reducible refine we_not ?_
  | with_reducible refine notK_t ?_
  | with_reducible refine notK_f ?_
  | with_reducible refine notK_b ?_
  | with_reducible refine we_and ?_
  | with_reducible refine andK_t ?_
  | with_reducible refine andK_f ?_
  | with_reducible refine we_or ?_
  | with_reducible refine orK_t ?_
  | with_reducible refine orK_f ?_
  | with_reducible refine we_ifE ?_
  | with_reducible refine ifEK_t ?_
  | with_reducible refine ifEK_f ?_
  | with_reducible refine ifK_t ?_
  | with_reducible refine ifK_f ?_
  | with_reducible refine we_fn ?_
  | with_reducible refine we_call ?_
  | walk_at "spec"
  | with_reducible refine wa_cons ?_
  | with_reducible refine wa_nil ?_
  | with_reducible refine argK_val ?_
  | with_reducible refine argK_new ?_
  | with_reducible refine argK_slot ?_
  | with_reducible refine argK2_val ?_
  | ((with_reducible apply argK2_slot); rfl)
  | with_reducible refine fnK_v xLenTI ?_
  | with_reducible refine fnK_v xLenLI ?_
  | ((with_reducible apply fnK_s (h := xLenLI)); rfl)
  | with_reducible refine fnK_v xLenT ?_
  | with_reducible refine fnK_v xLenL ?_
  | ((with_reducible apply fnK_s (h := xLenL)); rfl)
  | with_reducible refine fnK_v xTupL ?_
  | with_reducible refine fnK_v xTupT ?_
  | ((with_reducible apply fnK_s (h := xTupL)); rfl)
  | with_reducible refine fnK_v xLstL ?_
  | with_reducible refine fnK_v xLstT ?_
  | ((with_reducible apply fnK_s (h := xLstL)); rfl)
  | with_reducible refine fnK_v xAbs ?_
  | with_reducible refine fnK_vv xGcd ?_
  | with_reducible refine callK_v1 ?_
  | with_reducible refine callK_v2 ?_
  | with_reducible refine callK_v3 ?_
  | ((with_reducible apply callK_o0); rfl)
  | ((with_reducible apply callK_o1); rfl)
  | ((with_reducible apply callK_o2); rfl)
  | with_reducible refine retV_val ?_
  | with_reducible refine retV_new ?_
  | ((with_reducible refine retO_val ?_); walk_at "nset")
  | ((with_reducible refine retO_new ?_); walk_at "nset")
  | with_reducible refine we_tup ?_
  | with_reducible refine we_lst ?_
  | with_reducible refine wt_cons ?_
  | with_reducible refine wt_nil ?_
  | with_reducible refine takK_val ?_
  | with_reducible refine takK_new ?_
  | with_reducible refine tcK_ok ?_
  | with_reducible refine tupK_ok ?_
  | with_reducible refine ws_for ?_
  | with_reducible refine wi_rg ?_
  | with_reducible refine wi_seq ?_
  | with_reducible refine wi_enum ?_
  | with_reducible refine wi_zip2 ?_
  | with_reducible refine wi_zip3 ?_
  | with_reducible refine zipK2_tt ?_
  | with_reducible refine zipK2_tl ?_
  | with_reducible refine zipK2_ll ?_
  | with_reducible refine zipK3_tll ?_
  | with_reducible refine wi_rg3 ?_
  | with_reducible refine unK_val xBackT ?_
  | with_reducible refine unK_val xBackL ?_
  | with_reducible refine itK_list ?_
  | with_reducible refine itK_tuple ?_
  | with_reducible refine itK_new ?_
  | ((with_reducible apply itK_slot); rfl)
  | with_reducible refine enK_l ?_
  | with_reducible refine enK_t ?_
  | with_reducible refine forK_n ?_
  | with_reducible refine we_lc ?_
  | ((with_reducible apply wg_nm); walk_at "npin"; walk_at "nset")
  | with_reducible refine wg_tup rfl ?_
  | with_reducible refine wgs_cons ?_
  | with_reducible refine wgs_nil ?_
  | with_reducible refine lcT_t ?_
  | ((with_reducible apply lcE_val); rfl)
  | ((with_reducible apply lcE_new); rfl)
  | with_reducible refine we_cat ?_
  | with_reducible refine catK1_new ?_
  | with_reducible refine catK1_slot ?_
  | with_reducible refine catK1_list ?_
  | with_reducible refine ws_par ?_
  | ((with_reducible apply parK_ok); walk_at "npin"; walk_at "npin"; walk_at "nset")
  | with_reducible refine lpK_nx ?_
  | with_reducible refine lpK_ret ?_
  | with_reducible refine ws_asg ?_
  | with_reducible refine asgK_val ?_
  | with_reducible refine we_cut ?_
  | with_reducible refine cutK_val ?_
  | with_reducible refine cutK_new ?_
  | with_reducible refine cutK_slot ?_
  | with_reducible refine wp_none ?_
  | with_reducible refine wp_some ?_
  | with_reducible refine ptK_int ?_
  | with_reducible refine cutK2_t ?_
  | with_reducible refine cutK2_l ?_
  | ((with_reducible apply cutK2_s); rfl)
  | with_reducible refine we_meth ?_
  | with_reducible refine mthK_t ?_
  | with_reducible refine mthK_l ?_
  | with_reducible refine mthK_n ?_
  | with_reducible refine mthK_s ?_
  | with_reducible refine opK2_vv xCntT ?_
  | with_reducible refine opK2_vv xCntL ?_
  | ((with_reducible apply opK2_sv (h := xCntL)); rfl)
  | with_reducible refine we_frz ?_
  | walk_at "isi"
  | with_reducible refine frzK_val ?_
  | with_reducible refine frzK_new ?_
  | ((with_reducible apply we_mut); rfl)
  | with_reducible refine ws_setIx ?_
  | ((with_reducible apply sixK_val); rfl)
  | ((with_reducible apply ws_aug); rfl)
  | ((with_reducible refine defK_val ?_); try dsimp only [outsOf, List.zipWith])
  | ((with_reducible refine defK_new ?_); try dsimp only [outsOf, List.zipWith])
  | ((with_reducible refine defK_nx ?_); try dsimp only [outsOf, List.zipWith])
  | ((with_reducible apply defK_slot); rfl; try dsimp only [outsOf, List.zipWith])
  | ((with_reducible refine wf_def ?_); try simp only [List.length_cons, List.length_nil, List.cons_append, List.nil_append, Nat.reduceAdd, Nat.reduceSub, List.reduceReplicate]))
local macro_rules | `(tactic| walk_at "wp") => `(tactic| repeat (walk_at "w1"))
local macro_rules | `(tactic| walk_at "wt") => `(tactic| repeat (first | with_reducible refine wt_nil ?_ | with_reducible refine wt_cons ?_ | with_reducible refine takK_val ?_ | with_reducible refine takK_new ?_ | with_reducible refine tcK_ok ?_ | with_reducible refine tupK_ok ?_ | ((with_reducible apply parK_ok); walk_at "npin"; walk_at "npin"; walk_at "nset")))
local macro_rules | `(tactic| walk_at "wipe") => `(tactic| simp only [wipeE, unwipe, List.getD_cons_succ, List.getD_cons_zero, List.set_cons_succ, List.set_cons_zero])
local macro_rules | `(tactic| walk_at "spec") => `(tactic| fail)
/-! ### arcs -/
def lD (l : List Int) : D := .list (l.map PyData.int)
/-- the steps from the seat p up to the seat before e -/
def arcI (ms : List Int) (p e : Int) : List Int := (List.range (e - p).toNat).map fun k => (ds ms).getD ((p.toNat + k) % ms.length) 0
/-- where the arcs end -/
def ends (P : List Int) (n : Nat) : List Int := P.drop 1 ++ [P.getD 0 0 + (n : Int)]
def arcs (ms P : List Int) : List (List Int) := List.zipWith (arcI ms) P (ends P ms.length)
theorem ends_len {P : List Int} {n : Nat} (h : P ≠ []) : (ends P n).length = P.length := by
  have := List.length_pos_iff.mpr h
  unfold ends
  rw [List.length_append, List.length_drop, List.length_singleton]
  omega
theorem arcs_len {ms P : List Int} (h : P ≠ []) : (arcs ms P).length = P.length := by
  unfold arcs
  rw [List.length_zipWith, ends_len h, Nat.min_self]
theorem ends_lt {P : List Int} {n k : Nat} (h : k + 1 < P.length) : (ends P n).getD k 0 = P.getD (k + 1) 0 := by
  unfold ends
  rw [List.getD_eq_getElem?_getD, List.getElem?_append_left (by rw [List.length_drop]; omega), List.getElem?_drop, Nat.add_comm, List.getD_eq_getElem?_getD]
theorem ends_last {P : List Int} {n k : Nat} (h : k + 1 = P.length) : (ends P n).getD k 0 = P.getD 0 0 + (n : Int) := by
  unfold ends
  rw [List.getD_eq_getElem?_getD, List.getElem?_append_right (by rw [List.length_drop]; omega), List.length_drop]
  rw [show k - (P.length - 1) = 0 by omega]
  rfl
theorem Pn.lt {P : List Int} {n i j : Nat} (h : Pn P n) (hij : i < j) (hj : j < P.length) : P.getD i 0 < P.getD j 0 := by
  rw [getD_eq (by omega), getD_eq hj]
  exact (List.pairwise_iff_getElem.mp h.up) i j (by omega) hj hij
theorem Pn.at {P : List Int} {n i : Nat} (h : Pn P n) (hi : i < P.length) : 0 ≤ P.getD i 0 ∧ P.getD i 0 < n := h.ran _ (getD_mem hi)
theorem Pn.arc {P : List Int} {n k : Nat} (h : Pn P n) (hk : k < P.length) : 0 ≤ P.getD k 0 ∧ P.getD k 0 < (ends P n).getD k 0 ∧ (ends P n).getD k 0 ≤ P.getD k 0 + n ∧ (ends P n).getD k 0 ≤ 2 * n := by
  have a := h.at hk
  have b := h.at (i := 0) (by omega)
  by_cases c : k + 1 < P.length
  · rw [ends_lt c]
    have d := h.lt (j := k + 1) (Nat.lt_succ_self k) c
    have e := h.at c
    omega
  · have c : k + 1 = P.length := by omega
    rw [ends_last c]
    have d : P.getD 0 0 ≤ P.getD k 0 := by
      by_cases z : k = 0
      · rw [z]; omega
      · exact Int.le_of_lt (h.lt (by omega) hk)
    omega
theorem Pn.len {P : List Int} {n : Nat} (h : Pn P n) : P.length ≤ n := by
  by_cases hP : P = []
  · rw [hP]; exact Nat.zero_le _
  have key : ∀ k, k < P.length → (k : Int) ≤ P.getD k 0 := by
    intro k
    induction k with
    | zero => intro hk; exact (h.at hk).1
    | succ k ih =>
      intro hk
      have := ih (by omega)
      have := h.lt (j := k + 1) (Nat.lt_succ_self k) hk
      omega
  have h0 := List.length_pos_iff.mpr hP
  have a := key (P.length - 1) (by omega)
  have b := h.at (i := P.length - 1) (by omega)
  omega
theorem zip2_get {a b : List Int} {k : Nat} {d : D} (hl : b.length = a.length) (h : (zipD [a.map PyData.int, b.map PyData.int])[k]? = some d) : k < a.length ∧ d = .tuple [.int (a.getD k 0), .int (b.getD k 0)] := by
  unfold zipD at h
  have hm : minL [a.map PyData.int, b.map PyData.int] = a.length := by
    show min (a.map PyData.int).length (b.map PyData.int).length = _
    rw [List.length_map, List.length_map, hl, Nat.min_self]
  rw [hm] at h
  rw [List.getElem?_map] at h
  by_cases hk : k < a.length
  · rw [List.getElem?_range hk] at h
    cases h
    refine ⟨hk, ?_⟩
    have e1 : (a.map PyData.int).getD k .none = .int (a.getD k 0) := by rw [List.getD_eq_getElem?_getD, ints_at hk]; rfl
    have e2 : (b.map PyData.int).getD k .none = .int (b.getD k 0) := by rw [List.getD_eq_getElem?_getD, ints_at (by omega)]; rfl
    simp only [List.map_cons, List.map_nil, e1, e2]
  · rw [List.getElem?_eq_none (by simpa using hk)] at h
    cases h
theorem zip2_len {a b : List Int} (hl : b.length = a.length) : (zipD [a.map PyData.int, b.map PyData.int]).length = a.length := by
  unfold zipD
  have hm : minL [a.map PyData.int, b.map PyData.int] = a.length := by
    show min (a.map PyData.int).length (b.map PyData.int).length = _
    rw [List.length_map, List.length_map, hl, Nat.min_self]
  rw [List.length_map, List.length_range, hm]
theorem cutI {l : List Int} {p e : Nat} (h : p ≤ e) (he : e ≤ l.length) : cutD (l.map PyData.int) (some (p : Int)) (some (e : Int)) = ((l.drop p).take (e - p)).map PyData.int := by
  unfold cutD
  rw [HT.sIx_nat, HT.sIx_nat, List.length_map, Nat.min_eq_left he, Nat.min_eq_left (Nat.le_trans h he), ← List.map_drop, ← List.map_take]
theorem getD_ds {ms : List Int} {j : Nat} (hj : j < 2 * ms.length) : (ds ms ++ ds ms).getD j 0 = (ds ms).getD (j % ms.length) 0 := by
  have l := ds_len ms
  by_cases c : j < ms.length
  · rw [Nat.mod_eq_of_lt c, List.getD_eq_getElem?_getD, List.getElem?_append_left (by omega), ← List.getD_eq_getElem?_getD]
  · rw [List.getD_eq_getElem?_getD, List.getElem?_append_right (by omega), ← List.getD_eq_getElem?_getD, l, show j % ms.length = j - ms.length by
      rw [Nat.mod_eq_sub_mod (by omega), Nat.mod_eq_of_lt (by omega)]]
theorem cut_arc {ms : List Int} {p e : Nat} (h : p ≤ e) (he : e ≤ 2 * ms.length) : ((ds ms ++ ds ms).drop p).take (e - p) = arcI ms p e := by
  have l := ds_len ms
  have e1 : ((e : Int) - (p : Int)).toNat = e - p := by omega
  refine List.ext_getElem ?_ fun k h1 h2 => ?_
  · unfold arcI
    rw [List.length_take, List.length_drop, List.length_append, l, List.length_map, List.length_range, e1]
    omega
  · unfold arcI at h2 ⊢
    rw [List.length_map, List.length_range, e1] at h2
    rw [List.getElem_take, List.getElem_drop, List.getElem_map, List.getElem_range, Int.toNat_natCast, ← getD_ds (by omega), getD_eq]
theorem rep2 {l : List Int} (h0 : l ≠ []) (h : l.length ≤ 1000) : gRepT (.tuple (l.map PyData.int)) (.int 2) = some (.val (.tuple ((l ++ l).map PyData.int))) := by
  unfold gRepT
  simp only
  rw [if_pos ⟨by simpa using h0, by decide, by decide, by simpa using h⟩]
  simp
def arcOf (ms : List Int) : D → D
  | .tuple [.int p, .int e] => lD (arcI ms p e)
  | d => d
theorem arcs_map {ms P : List Int} (h : P ≠ []) : (zipD [P.map PyData.int, (ends P ms.length).map PyData.int]).map (arcOf ms) = (arcs ms P).map lD := by
  have l := ends_len (n := ms.length) h
  refine List.ext_getElem? fun k => ?_
  by_cases hk : k < P.length
  · obtain ⟨d, hd⟩ : ∃ d, (zipD [P.map PyData.int, (ends P ms.length).map PyData.int])[k]? = some d := ⟨_, List.getElem?_eq_getElem (by rw [zip2_len l]; exact hk)⟩
    obtain ⟨_, rfl⟩ := zip2_get l hd
    rw [List.getElem?_map, hd, List.getElem?_map]
    unfold arcs
    rw [List.getElem?_zipWith, List.getElem?_eq_getElem hk, List.getElem?_eq_getElem (l ▸ hk)]
    simp only [Option.map_some, arcOf, getD_eq hk, getD_eq (l ▸ hk)]
  · rw [List.getElem?_eq_none (by rw [List.length_map, zip2_len l]; omega), List.getElem?_eq_none (by rw [List.length_map, arcs_len h]; omega)]
section
variable {R : Rs → List Sl → Prop} {ms P : List Int}
theorem nat_of {i : Int} (h : 0 ≤ i) : ∃ k : Nat, i = k := ⟨i.toNat, by omega⟩
theorem arcs_between_w (h0 : 0 < ms.length) (h8 : ms.length ≤ 8) (hP : Pn P ms.length) (hn : P ≠ []) (q : R (.new ((arcs ms P).map lD)) [.val (.tuple (ms.map PyData.int)), .val (.tuple (P.map PyData.int))]) : WF f_arcs_between [.val (.tuple (ms.map PyData.int)), .val (.tuple (P.map PyData.int))] R := by
  have hp := List.length_pos_iff.mpr hn
  have hpl := hP.len
  have ld := ds_len ms
  have le := ends_len (n := ms.length) hn
  unfold f_arcs_between
  walk_at "wp"
  refine steps_w h8 ?_
  walk_at "wp"
  refine opK2_vv (rep2 (l := ds ms) (fun z => by rw [z] at ld; simp at ld; omega) (by omega)) ?_
  walk_at "wp"
  rw [show (1 : Int) = ((1 : Nat) : Int) from rfl, cutLo (ns := P) hp]
  walk_at "wp"
  refine opK2_vv (ix0_t hp) ?_
  walk_at "wp"
  refine opK2_vv (xAddTI (a := P.drop 1) (b := [P.getD 0 0 + (ms.length : Int)]) (by rw [List.length_drop, List.length_singleton]; omega)) ?_
  walk_at "wp"
  show lcK _ _ _ _ _ (.ok (zipD [P.map PyData.int, (ends P ms.length).map PyData.int]) none) _
  refine lcK_n (by rfl) (by rw [zip2_len le]; omega) ?_
  walk_at "wipe"
  refine ll_map (Fn := arcOf ms) (fun d hd => ?_) ?_
  · obtain ⟨k, hd⟩ := List.getElem?_of_mem hd
    obtain ⟨hk, rfl⟩ := zip2_get le hd
    obtain ⟨a1, a2, a3, a4⟩ := hP.arc hk
    generalize P.getD k 0 = p at *
    generalize (ends P ms.length).getD k 0 = e at *
    obtain ⟨p, rfl⟩ := nat_of a1
    obtain ⟨e, rfl⟩ := nat_of (i := e) (by omega)
    walk_at "wp"
    rw [cutI (by omega) (by rw [List.length_append]; omega), cut_arc (by omega) (by omega)]
    walk_at "wp"
    exact ⟨rfl, rfl⟩
  · walk_at "wipe"
    walk_at "wp"
    rw [arcs_map hn]
    exact q
end
end MR

set_option Elab.async false
set_option linter.all false
set_option maxRecDepth 100000
set_option maxHeartbeats 1000000
namespace MR
open PySem PySem.Spec PyProof.Rows L2
variable [Tq]
local macro_rules | `(tactic| walk_at "npin") => `(tactic| first | rfl | exact np_at rfl (by assumption))
local macro_rules | `(tactic| walk_at "isi") => `(tactic| first
  | with_reducible refine isi_int_n ?_
  | with_reducible refine isi_int_b ?_
  | with_reducible refine isi_int_i ?_
  | with_reducible refine isi_int_s ?_
  | with_reducible refine isi_int_l ?_
  | with_reducible refine isi_int_t ?_
  | ((with_reducible apply isi_int_o); rfl)
  | with_reducible refine isi_bool_n ?_
  | with_reducible refine isi_bool_b ?_
  | with_reducible refine isi_bool_i ?_
  | with_reducible refine isi_bool_s ?_
  | with_reducible refine isi_bool_l ?_
  | with_reducible refine isi_bool_t ?_
  | ((with_reducible apply isi_bool_o); rfl)
  | with_reducible refine isi_str_n ?_
  | with_reducible refine isi_str_b ?_
  | with_reducible refine isi_str_i ?_
  | with_reducible refine isi_str_s ?_
  | with_reducible refine isi_str_l ?_
  | with_reducible refine isi_str_t ?_
  | ((with_reducible apply isi_str_o); rfl)
  | with_reducible refine isi_tuple_n ?_
  | with_reducible refine isi_tuple_b ?_
  | with_reducible refine isi_tuple_i ?_
  | with_reducible refine isi_tuple_s ?_
  | with_reducible refine isi_tuple_l ?_
  | with_reducible refine isi_tuple_t ?_
  | ((with_reducible apply isi_tuple_o); rfl)
  | with_reducible refine isi_list_n ?_
  | with_reducible refine isi_list_b ?_
  | with_reducible refine isi_list_i ?_
  | with_reducible refine isi_list_s ?_
  | with_reducible refine isi_list_l ?_
  | with_reducible refine isi_list_t ?_
  | ((with_reducible apply isi_list_o); rfl))
local macro_rules | `(tactic| walk_at "nset") => `(tactic| try simp only [List.set_cons_succ, List.set_cons_zero])
local macro_rules | `(tactic| walk_at "w1") => `(tactic| first
  | with_reducible refine ws_seq ?_
  | with_reducible refine seqK_nx ?_
  | with_reducible refine seqK_ret ?_
  | with_reducible refine ws_skip ?_
  | with_reducible refine ws_expr ?_
  | with_reducible refine exK_val ?_
  | with_reducible refine exK_new ?_
  | with_reducible refine exK_err ?_
  | with_reducible refine seqK_err ?_
  | with_reducible refine rtK_err ?_
  | with_reducible refine setK_err ?_
  | with_reducible refine retV_err ?_
  | ((with_reducible refine retO_err ?_); walk_at "nset")
  | ((with_reducible refine defK_err ?_); try dsimp only [outsOf, List.zipWith])
  | with_reducible refine ws_raise1 ?_
  | with_reducible refine raK_int ?_
  | with_reducible refine we_errOf ?_
  | with_reducible refine eofK_val ?_
  | with_reducible refine eofK_new ?_
  | with_reducible refine ws_ret ?_
  | with_reducible refine rtK_val ?_
  | with_reducible refine rtK_new ?_
  | with_reducible refine rtK_slot ?_
  | with_reducible refine ws_set ?_
  | ((with_reducible apply setK_val); walk_at "npin"; walk_at "nset")
  | ((with_reducible apply setK_new); walk_at "npin"; walk_at "nset")
  | with_reducible refine ws_if ?_
  | with_reducible refine we_c ?_
  | ((with_reducible apply we_var); rfl)
  | ((with_reducible apply we_varo); rfl)
  | with_reducible refine we_op ?_
  | with_reducible refine opK1_val ?_
  | with_reducible refine opK1_new ?_
  | with_reducible refine opK1_slot ?_
  | with_reducible refine opK2_vv xAdd ?_
  | with_reducible refine opK2_vv xSub ?_
  | with_reducible refine opK2_vv xLt ?_
  | with_reducible refine opK2_vv xLe ?_
  | with_reducible refine opK2_vv xGt ?_
  | with_reducible refine opK2_vv xGe ?_
  | with_reducible refine opK2_vv xEq ?_
  | with_reducible refine opK2_vv xNe ?_
  | with_reducible refine opK2_vv xIsN ?_
  | with_reducible refine opK2_vv xNotN ?_
  | with_reducible refine we_un ?_
  | with_reducible refine unK_val xNeg ?_
  | (with_reducible refine we_isi ?_)
  | with_reducible refine we_not ?_
  | with_reducible refine notK_t ?_
  | with_reducible refine notK_f ?_
  | with_reducible refine notK_b ?_
  | with_reducible refine we_and ?_
  | with_reducible refine andK_t ?_
  | with_reducible refine andK_f ?_
  | with_reducible refine we_or ?_
  | with_reducible refine orK_t ?_
  | with_reducible refine orK_f ?_
  | with_reducible refine we_ifE ?_
  | with_reducible refine ifEK_t ?_
  | with_reducible refine ifEK_f ?_
  | with_reducible refine ifK_t ?_
  | with_reducible refine ifK_f ?_
  | with_reducible refine we_fn ?_
  | with_reducible refine we_call ?_
  | walk_at "spec"
  | with_reducible refine wa_cons ?_
  | with_reducible refine wa_nil ?_
  | with_reducible refine argK_val ?_
  | with_reducible refine argK_new ?_
  | with_reducible refine argK_slot ?_
  | with_reducible refine argK2_val ?_
  | ((with_reducible apply argK2_slot); rfl)
  | with_reducible refine fnK_v xLenTI ?_
  | with_reducible refine fnK_v xLenLI ?_
  | ((with_reducible apply fnK_s (h := xLenLI)); rfl)
  | with_reducible refine fnK_v xLenT ?_
  | with_reducible refine fnK_v xLenL ?_
  | ((with_reducible apply fnK_s (h := xLenL)); rfl)
  | with_reducible refine fnK_v xTupL ?_
  | with_reducible refine fnK_v xTupT ?_
  | ((with_reducible apply fnK_s (h := xTupL)); rfl)
  | with_reducible refine fnK_v xLstL ?_
  | with_reducible refine fnK_v xLstT ?_
  | ((with_reducible apply fnK_s (h := xLstL)); rfl)
  | with_reducible refine fnK_v xAbs ?_
  | with_reducible refine fnK_vv xGcd ?_
  | with_reducible refine callK_v1 ?_
  | with_reducible refine callK_v2 ?_
  | with_reducible refine callK_v3 ?_
  | ((with_reducible apply callK_o0); rfl)
  | ((with_reducible apply callK_o1); rfl)
  | ((with_reducible apply callK_o2); rfl)
  | with_reducible refine retV_val ?_
  | with_reducible refine retV_new ?_
  | ((with_reducible refine retO_val ?_); walk_at "nset")
  | ((with_reducible refine retO_new ?_); walk_at "nset")
  | with_reducible refine we_tup ?_
  | with_reducible refine we_lst ?_
  | with_reducible refine wt_cons ?_
  | with_reducible refine wt_nil ?_
  | with_reducible refine takK_val ?_
  | with_reducible refine takK_new ?_
  | with_reducible refine tcK_ok ?_
  | with_reducible refine tupK_ok ?_
  | with_reducible refine ws_for ?_
  | with_reducible refine wi_rg ?_
  | with_reducible refine wi_seq ?_
  | with_reducible refine wi_enum ?_
  | with_reducible refine wi_zip2 ?_
  | with_reducible refine wi_zip3 ?_
  | with_reducible refine zipK2_tt ?_
  | with_reducible refine zipK2_tl ?_
  | with_reducible refine zipK2_ll ?_
  | with_reducible refine zipK3_tll ?_
  | with_reducible refine wi_rg3 ?_
  | with_reducible refine unK_val xBackT ?_
  | with_reducible refine unK_val xBackL ?_
  | with_reducible refine itK_list ?_
  | with_reducible refine itK_tuple ?_
  | with_reducible refine itK_new ?_
  | ((with_reducible apply itK_slot); rfl)
  | with_reducible refine enK_l ?_
  | with_reducible refine enK_t ?_
  | with_reducible refine forK_n ?_
  | with_reducible refine we_lc ?_
  | ((with_reducible apply wg_nm); walk_at "npin"; walk_at "nset")
  | with_reducible refine wg_tup rfl ?_
  | with_reducible refine wgs_cons ?_
  | with_reducible refine wgs_nil ?_
  | with_reducible refine lcT_t ?_
  | ((with_reducible apply lcE_val); rfl)
  | ((with_reducible apply lcE_new); rfl)
  | with_reducible refine we_cat ?_
  | with_reducible refine catK1_new ?_
  | with_reducible refine catK1_slot ?_
  | with_reducible refine catK1_list ?_
  | with_reducible refine ws_par ?_
  | ((with_reducible apply parK_ok); walk_at "npin"; walk_at "npin"; walk_at "nset")
  | with_reducible refine lpK_nx ?_
  | with_reducible refine lpK_ret ?_
  | with_reducible refine ws_asg ?_
  | with_reducible refine asgK_val ?_
  | with_reducible refine we_cut ?_
  | with_reducible refine cutK_val ?_
  | with_reducible refine cutK_new ?_
  | with_reducible refine cutK_slot ?_
  | with_reducible refine wp_none ?_
  | with_reducible refine wp_some ?_
  | with_reducible refine ptK_int ?_
  | with_reducible refine cutK2_t ?_
  | with_reducible refine cutK2_l ?_
  | ((with_reducible apply cutK2_s); rfl)
  | with_reducible refine we_meth ?_
  | with_reducible refine mthK_t ?_
  | with_reducible refine mthK_l ?_
  | with_reducible refine mthK_n ?_
  | with_reducible refine mthK_s ?_
  | with_reducible refine opK2_vv xCntT ?_
  | with_reducible refine opK2_vv xCntL ?_
  | ((with_reducible apply opK2_sv (h := xCntL)); rfl)
  | with_reducible refine we_frz ?_
  | walk_at "isi"
  | with_reducible refine frzK_val ?_
  | with_reducible refine frzK_new ?_
  | ((with_reducible apply we_mut); rfl)
  | with_reducible refine ws_setIx ?_
  | ((with_reducible apply sixK_val); rfl)
  | ((with_reducible apply ws_aug); rfl)
  | ((with_reducible refine defK_val ?_); try dsimp only [outsOf, List.zipWith])
  | ((with_reducible refine defK_new ?_); try dsimp only [outsOf, List.zipWith])
  | ((with_reducible refine defK_nx ?_); try dsimp only [outsOf, List.zipWith])
  | ((with_reducible apply defK_slot); rfl; try dsimp only [outsOf, List.zipWith])
  | ((with_reducible refine wf_def ?_); try simp only [List.length_cons, List.length_nil, List.cons_append, List.nil_append, Nat.reduceAdd, Nat.reduceSub, List.reduceReplicate]))
local macro_rules | `(tactic| walk_at "wp") => `(tactic| repeat (walk_at "w1"))
local macro_rules | `(tactic| walk_at "wt") => `(tactic| repeat (first | with_reducible refine wt_nil ?_ | with_reducible refine wt_cons ?_ | with_reducible refine takK_val ?_ | with_reducible refine takK_new ?_ | with_reducible refine tcK_ok ?_ | with_reducible refine tupK_ok ?_ | ((with_reducible apply parK_ok); walk_at "npin"; walk_at "npin"; walk_at "nset")))
local macro_rules | `(tactic| walk_at "wipe") => `(tactic| simp only [wipeE, unwipe, List.getD_cons_succ, List.getD_cons_zero, List.set_cons_succ, List.set_cons_zero])
local macro_rules | `(tactic| walk_at "spec") => `(tactic| fail)
section
variable {R : Rs → List Sl → Prop} {ms P : List Int}
end
end MR

set_option Elab.async false
set_option linter.all false
set_option maxRecDepth 100000
set_option maxHeartbeats 1000000
namespace MR
open PySem PySem.Spec PyProof.Rows L2
variable [Tq]
local macro_rules | `(tactic| walk_at "npin") => `(tactic| first | rfl | exact np_at rfl (by assumption))
local macro_rules | `(tactic| walk_at "isi") => `(tactic| first
  | with_reducible refine isi_int_n ?_
  | with_reducible refine isi_int_b ?_
  | with_reducible refine isi_int_i ?_
  | with_reducible refine isi_int_s ?_
  | with_reducible refine isi_int_l ?_
  | with_reducible refine isi_int_t ?_
  | ((with_reducible apply isi_int_o); rfl)
  | with_reducible refine isi_bool_n ?_
  | with_reducible refine isi_bool_b ?_
  | with_reducible refine isi_bool_i ?_
  | with_reducible refine isi_bool_s ?_
  | with_reducible refine isi_bool_l ?_
  | with_reducible refine isi_bool_t ?_
  | ((with_reducible apply isi_bool_o); rfl)
  | with_reducible refine isi_str_n ?_
  | with_reducible refine isi_str_b ?_
  | with_reducible refine isi_str_i ?_
  | with_reducible refine isi_str_s ?_
  | with_reducible refine isi_str_l ?_
  | with_reducible refine isi_str_t ?_
  | ((with_reducible apply isi_str_o); rfl)
  | with_reducible refine isi_tuple_n ?_
  | with_reducible refine isi_tuple_b ?_
  | with_reducible refine isi_tuple_i ?_
  | with_reducible refine isi_tuple_s ?_
  | with_reducible refine isi_tuple_l ?_
  | with_reducible refine isi_tuple_t ?_
  | ((with_reducible apply isi_tuple_o); rfl)
  | with_reducible refine isi_list_n ?_
  | with_reducible refine isi_list_b ?_
  | with_reducible refine isi_list_i ?_
  | with_reducible refine isi_list_s ?_
  | with_reducible refine isi_list_l ?_
  | with_reducible refine isi_list_t ?_
  | ((with_reducible apply isi_list_o); rfl))
local macro_rules | `(tactic| walk_at "nset") => `(tactic| try simp only [List.set_cons_succ, List.set_cons_zero])
local macro_rules | `(tactic| walk_at "w1") => `(tactic| first
  | with_reducible refine ws_seq ?_
  | with_reducible refine seqK_nx ?_
  | with_reducible refine seqK_ret ?_
  | with_reducible refine ws_skip ?_
  | with_reducible refine ws_expr ?_
  | with_reducible refine exK_val ?_
  | with_reducible refine exK_new ?_
  | with_reducible refine exK_err ?_
  | with_reducible refine seqK_err ?_
  | with_reducible refine rtK_err ?_
  | with_reducible refine setK_err ?_
  | with_reducible refine retV_err ?_
  | ((with_reducible refine retO_err ?_); walk_at "nset")
  | ((with_reducible refine defK_err ?_); try dsimp only [outsOf, List.zipWith])
  | with_reducible refine ws_raise1 ?_
  | with_reducible refine raK_int ?_
  | with_reducible refine we_errOf ?_
  | with_reducible refine eofK_val ?_
  | with_reducible refine eofK_new ?_
  | with_reducible refine ws_ret ?_
  | with_reducible refine rtK_val ?_
  | with_reducible refine rtK_new ?_
  | with_reducible refine rtK_slot ?_
  | with_reducible refine ws_set ?_
  | ((with_reducible apply setK_val); walk_at "npin"; walk_at "nset")
  | ((with_reducible apply setK_new); walk_at "npin"; walk_at "nset")
  | with_reducible refine ws_if ?_
  | with_reducible refine we_c ?_
  | ((with_reducible apply we_var); rfl)
  | ((with_reducible apply we_varo); rfl)
  | with_reducible refine we_op ?_
  | with_reducible refine opK1_val ?_
  | with_reducible refine opK1_new ?_
  | with_reducible refine opK1_slot ?_
  | with_reducible refine opK2_vv xAdd ?_
  | with_reducible refine opK2_vv xSub ?_
  | with_reducible refine opK2_vv xLt ?_
  | with_reducible refine opK2_vv xLe ?_
  | with_reducible refine opK2_vv xGt ?_
  | with_reducible refine opK2_vv xGe ?_
  | with_reducible refine opK2_vv xEq ?_
  | with_reducible refine opK2_vv xNe ?_
  | with_reducible refine opK2_vv xIsN ?_
  | with_reducible refine opK2_vv xNotN ?_
  | with_reducible refine we_un ?_
  | with_reducible refine unK_val xNeg ?_
  | (with_reducible refine we_isi ?_)
  | with_reducible refine we_not ?_
  | with_reducible refine notK_t ?_
  | with_reducible refine notK_f ?_
  | with_reducible refine notK_b ?_
  | with_reducible refine we_and ?_
  | with_reducible refine andK_t ?_
  | with_reducible refine andK_f ?_
  | with_reducible refine we_or ?_
  | with_reducible refine orK_t ?_
  | with_reducible refine orK_f ?_
  | with_reducible refine we_ifE ?_
  | with_reducible refine ifEK_t ?_
  | with_reducible refine ifEK_f ?_
  | with_reducible refine ifK_t ?_
  | with_reducible refine ifK_f ?_
  | with_reducible refine we_fn ?_
  | with_reducible refine we_call ?_
  | walk_at "spec"
  | with_reducible refine wa_cons ?_
  | with_reducible refine wa_nil ?_
  | with_reducible refine argK_val ?_
  | with_reducible refine argK_new ?_
  | with_reducible refine argK_slot ?_
  | with_reducible refine argK2_val ?_
  | ((with_reducible apply argK2_slot); rfl)
  | with_reducible refine fnK_v xLenTI ?_
  | with_reducible refine fnK_v xLenLI ?_
  | ((with_reducible apply fnK_s (h := xLenLI)); rfl)
  | with_reducible refine fnK_v xLenT ?_
  | with_reducible refine fnK_v xLenL ?_
  | ((with_reducible apply fnK_s (h := xLenL)); rfl)
  | with_reducible refine fnK_v xTupL ?_
  | with_reducible refine fnK_v xTupT ?_
  | ((with_reducible apply fnK_s (h := xTupL)); rfl)
  | with_reducible refine fnK_v xLstL ?_
  | with_reducible refine fnK_v xLstT ?_
  | ((with_reducible apply fnK_s (h := xLstL)); rfl)
  | with_reducible refine fnK_v xAbs ?_
  | with_reducible refine fnK_vv xGcd ?_
  | with_reducible refine callK_v1 ?_
  | with_reducible refine callK_v2 ?_
  | with_reducible refine callK_v3 ?_
  | ((with_reducible apply callK_o0); rfl)
  | ((with_reducible apply callK_o1); rfl)
  | ((with_reducible apply callK_o2); rfl)
  | with_reducible refine retV_val ?_
  | with_reducible refine retV_new ?_
  | ((with_reducible refine retO_val ?_); walk_at "nset")
  | ((with_reducible refine retO_new ?_); walk_at "nset")
  | with_reducible refine we_tup ?_
  | with_reducible refine we_lst ?_
  | with_reducible refine wt_cons ?_
  | with_reducible refine wt_nil ?_
  | with_reducible refine takK_val ?_
  | with_reducible refine takK_new ?_
  | with_reducible refine tcK_ok ?_
  | with_reducible refine tupK_ok ?_
  | with_reducible refine ws_for ?_
  | with_reducible refine wi_rg ?_
  | with_reducible refine wi_seq ?_
  | with_reducible refine wi_enum ?_
  | with_reducible refine wi_zip2 ?_
  | with_reducible refine wi_zip3 ?_
  | with_reducible refine zipK2_tt ?_
  | with_reducible refine zipK2_tl ?_
  | with_reducible refine zipK2_ll ?_
  | with_reducible refine zipK3_tll ?_
  | with_reducible refine wi_rg3 ?_
  | with_reducible refine unK_val xBackT ?_
  | with_reducible refine unK_val xBackL ?_
  | with_reducible refine itK_list ?_
  | with_reducible refine itK_tuple ?_
  | with_reducible refine itK_new ?_
  | ((with_reducible apply itK_slot); rfl)
  | with_reducible refine enK_l ?_
  | with_reducible refine enK_t ?_
  | with_reducible refine forK_n ?_
  | with_reducible refine we_lc ?_
  | ((with_reducible apply wg_nm); walk_at "npin"; walk_at "nset")
  | with_reducible refine wg_tup rfl ?_
  | with_reducible refine wgs_cons ?_
  | with_reducible refine wgs_nil ?_
  | with_reducible refine lcT_t ?_
  | ((with_reducible apply lcE_val); rfl)
  | ((with_reducible apply lcE_new); rfl)
  | with_reducible refine we_cat ?_
  | with_reducible refine catK1_new ?_
  | with_reducible refine catK1_slot ?_
  | with_reducible refine catK1_list ?_
  | with_reducible refine ws_par ?_
  | ((with_reducible apply parK_ok); walk_at "npin"; walk_at "npin"; walk_at "nset")
  | with_reducible refine lpK_nx ?_
  | with_reducible refine lpK_ret ?_
  | with_reducible refine ws_asg ?_
  | with_reducible refine asgK_val ?_
  | with_reducible refine we_cut ?_
  | with_reducible refine cutK_val ?_
  | with_reducible refine cutK_new ?_
  | with_reducible refine cutK_slot ?_
  | with_reducible refine wp_none ?_
  | with_reducible refine wp_some ?_
  | with_reducible refine ptK_int ?_
  | with_reducible refine cutK2_t ?_
  | with_reducible refine cutK2_l ?_
  | ((with_reducible apply cutK2_s); rfl)
  | with_reducible refine we_meth ?_
  | with_reducible refine mthK_t ?_
  | with_reducible refine mthK_l ?_
  | with_reducible refine mthK_n ?_
  | with_reducible refine mthK_s ?_
  | with_reducible refine opK2_vv xCntT ?_
  | with_reducible refine opK2_vv xCntL ?_
  | ((with_reducible apply opK2_sv (h := xCntL)); rfl)
  | with_reducible refine we_frz ?_
  | walk_at "isi"
  | with_reducible refine frzK_val ?_
  | with_reducible refine frzK_new ?_
  | ((with_reducible apply we_mut); rfl)
  | with_reducible refine ws_setIx ?_
  | ((with_reducible apply sixK_val); rfl)
  | ((with_reducible apply ws_aug); rfl)
  | ((with_reducible refine defK_val ?_); try dsimp only [outsOf, List.zipWith])
  | ((with_reducible refine defK_new ?_); try dsimp only [outsOf, List.zipWith])
  | ((with_reducible refine defK_nx ?_); try dsimp only [outsOf, List.zipWith])
  | ((with_reducible apply defK_slot); rfl; try dsimp only [outsOf, List.zipWith])
  | ((with_reducible refine wf_def ?_); try simp only [List.length_cons, List.length_nil, List.cons_append, List.nil_append, Nat.reduceAdd, Nat.reduceSub, List.reduceReplicate]))
local macro_rules | `(tactic| walk_at "wp") => `(tactic| repeat (walk_at "w1"))
local macro_rules | `(tactic| walk_at "wt") => `(tactic| repeat (first | with_reducible refine wt_nil ?_ | with_reducible refine wt_cons ?_ | with_reducible refine takK_val ?_ | with_reducible refine takK_new ?_ | with_reducible refine tcK_ok ?_ | with_reducible refine tupK_ok ?_ | ((with_reducible apply parK_ok); walk_at "npin"; walk_at "npin"; walk_at "nset")))
local macro_rules | `(tactic| walk_at "wipe") => `(tactic| simp only [wipeE, unwipe, List.getD_cons_succ, List.getD_cons_zero, List.set_cons_succ, List.set_cons_zero])
local macro_rules | `(tactic| walk_at "spec") => `(tactic| fail)
theorem pins_spec2 {src : List D} {n : Nat} (hs : Src src) (hn : n ≤ 8) : ∃ src' P, Src src' ∧ Pn P n ∧ (0 < n → P ≠ []) ∧ P.length ≤ 3 ∧ f_l_pins [.own true src, .val (.int (n : Int))] = some (.val (.tuple (P.map PyData.int)), [.own true src', .val (.int (n : Int))]) := by
  obtain ⟨s1, rs, h1, h2, h3⟩ := shuffled_spec (L := List.range n) hs (by simpa using hn)
  have c1 : sCall f_l_shuffled [(sVar 0), (sListRg (sVar 1))] [.own true src, .val (.int (n : Int)), .un] = some (.new ((sI rs).map PyData.int), [.own true s1, .val (.int (n : Int)), .un]) := call_on (i := 0) (e := [.own true src, .val (.int (n : Int)), .un]) (p := true) rfl (listRg_ok (f := sVar 1) (sVar_val rfl) hn) h3
  obtain ⟨m, s2, k1, k2, k3⟩ := below_call' (i := 0) (e := [.own true s1, .val (.int (n : Int)), .un]) (fk := sC (.int 2)) rfl h1 rfl (by omega) (by omega)
  have e1 : ∃ k : Int, 1 ≤ k ∧ k ≤ 3 ∧ sOp gIx (sLst [(sC (.int 1)), (sC (.int 3))]) (sCall f_l_below [(sVar 0), (sC (.int 2))]) [.own true s1, .val (.int (n : Int)), .un] = some (.val (.int k), [.own true s2, .val (.int (n : Int)), .un]) := by
    have hz : m = 0 ∨ m = 1 := by omega
    rcases hz with rfl | rfl
    · exact ⟨1, by omega, by omega, (sOp_eq (ra := .new [.int 1, .int 3]) rfl nofun k3 nofun rfl rfl).trans rfl⟩
    · exact ⟨3, by omega, by omega, (sOp_eq (ra := .new [.int 1, .int 3]) rfl nofun k3 nofun rfl rfl).trans rfl⟩
  obtain ⟨k, q1, q2, q3⟩ := e1
  obtain ⟨m2, s3, g1, g2, g3, g4⟩ := below_at' (xs := s1) (ys := s2) (r := [.val (.int (n : Int)), .un]) k1 q3 (by omega) (by omega)
  obtain ⟨j, rfl⟩ : ∃ j : Nat, m2 = j := ⟨m2.toNat, by omega⟩
  have c2 : sOp gAdd (sC (.int 1)) (sCall f_l_below [(sVar 0), (sOp gIx (sLst [(sC (.int 1)), (sC (.int 3))]) (sCall f_l_below [(sVar 0), (sC (.int 2))]))]) [.own true s1, .val (.int (n : Int)), .un] = some (.val (.int ((1 + j : Nat) : Int)), [.own true s3, .val (.int (n : Int)), .un]) := by
    refine (sOp_ok (da := .int 1) rfl g4).trans ?_
    have : ((1 + j : Nat) : Int) = 1 + (j : Int) := by omega
    rw [this]
    rfl
  have c3 : sCut (sCall f_l_shuffled [(sVar 0), (sListRg (sVar 1))]) none (some (sOp gAdd (sC (.int 1)) (sCall f_l_below [(sVar 0), (sOp gIx (sLst [(sC (.int 1)), (sC (.int 3))]) (sCall f_l_below [(sVar 0), (sC (.int 2))]))]))) [.own true src, .val (.int (n : Int)), .un] = some (.new ((sI (rs.take (1 + j))).map PyData.int), [.own true s3, .val (.int (n : Int)), .un]) := by
    unfold sCut
    rw [bnd_ok c1 nofun]
    simp only [sPart]
    rw [bnd_val c2]
    simp only [settle, vw, gCut]
    rw [cutD_take, sI_take]
    rfl
  have nd : (rs.take (1 + j)).Nodup := (h2.symm.nodup List.nodup_range).sublist (List.take_sublist _ _)
  have hr : ∀ i ∈ rs.take (1 + j), i < n := fun i hi => List.mem_range.mp (h2.mem_iff.mp (List.mem_of_mem_take hi))
  have hln : (sortI (sI (rs.take (1 + j)))).length = min (1 + j) n := by rw [(sortI_perm _).length_eq, sI_len, List.length_take, h2.length_eq, List.length_range]
  refine ⟨s3, sortI (sI (rs.take (1 + j))), g1, sortI_pn nd hr, fun hz z => (by rw [z] at hln; simp only [List.length_nil] at hln; omega), by omega, ?_⟩
  refine def_val (e' := [.own true s3, .val (.int (n : Int)), .own false ((sI (rs.take (1 + j))).map PyData.int)]) ?_ rfl
  refine (seq_nx (e1 := [.own true s3, .val (.int (n : Int)), .own false ((sI (rs.take (1 + j))).map PyData.int)]) (setn_to c3 rfl rfl)).trans ?_
  refine ret_ok ?_ nofun
  have t1 : sFn gSorted [(sVar 2)] [.own true s3, .val (.int (n : Int)), .own false ((sI (rs.take (1 + j))).map PyData.int)] = some (.new ((sortI (sI (rs.take (1 + j)))).map PyData.int), [.own true s3, .val (.int (n : Int)), .own false ((sI (rs.take (1 + j))).map PyData.int)]) := by
    rw [sFn1 (sVar_own rfl) nofun rfl rfl]
    unfold gSorted
    simp only
    rw [intsOf_ints]
    simp only
    have hl := h2.length_eq
    rw [List.length_range] at hl
    rw [if_pos (by rw [sI_len, List.length_take]; omega)]
    rfl
  exact (sFnNew t1).trans rfl


theorem gEq_t (a b : List Int) : gEq (.tuple (a.map PyData.int)) (.tuple (b.map PyData.int)) = some (.val (.bool (decide (a = b)))) := by
  unfold gEq
  rw [if_pos ⟨shaped_t a, shaped_t b⟩]
  simp only [PyData.eqv, eqvAll_ints]
theorem xSorted {l : List Int} (h : l.length < 64) : gSorted [.list (l.map PyData.int)] = some (.new ((sortI l).map PyData.int)) := by
  unfold gSorted
  simp only [intsOf_ints]
  rw [if_pos h]
section
variable {R : Rs → List Sl → Prop} {ms P a b : List Int}
theorem pins2_w {src : List D} {n : Nat} (hs : Src src) (h0 : 0 < n) (hn : n ≤ 8) (q : ∀ src' P, Src src' → Pn P n → P ≠ [] → P.length ≤ 3 → R (.val (.tuple (P.map PyData.int))) [.own true src', .val (.int (n : Int))]) : WF f_l_pins [.own true src, .val (.int (n : Int))] R := by
  obtain ⟨s', P, h1, h2, h4, h5, h3⟩ := pins_spec2 hs hn
  exact wf_eq h3 (q s' P h1 h2 (h4 h0) h5)
theorem some_pins_w {n : Nat} (hP : Pn P n) (hn : P ≠ []) (q : R (.val .none) [.val (.tuple (P.map PyData.int)), .val (.int (n : Int))]) : WF f_check_some_pins [.val (.tuple (P.map PyData.int)), .val (.int (n : Int))] R := by
  unfold f_check_some_pins
  walk_at "wp"
  refine wf_eq (check_pins_spec hP) ?_
  walk_at "wp"
  refine opK2_vv (gEq_t P []) ?_
  refine ifK_d (fun c => absurd c hn) (fun _ => ?_)
  walk_at "wp"
  exact q
theorem pinned_ring_w (hm : Mk ms) (hP : Pn P ms.length) (hn : P ≠ []) (q : R (.val .none) [.val (.tuple (ms.map PyData.int)), .val (.tuple (P.map PyData.int))]) : WF f_check_pinned_ring [.val (.tuple (ms.map PyData.int)), .val (.tuple (P.map PyData.int))] R := by
  unfold f_check_pinned_ring
  walk_at "wp"
  refine check_ring_w hm ?_
  walk_at "wp"
  refine some_pins_w hP hn ?_
  walk_at "wp"
  exact q
theorem arcs_at {ms P l : List Int} (hP : Pn P ms.length) (h : l ∈ arcs ms P) (h8 : ms.length ≤ 8) : l.length ≤ 8 := by
  obtain ⟨k, hk⟩ := List.getElem?_of_mem h
  unfold arcs at hk
  rw [List.getElem?_zipWith] at hk
  by_cases c : k < P.length
  · have le := ends_len (P := P) (n := ms.length) (fun z => by rw [z] at c; cases c)
    rw [List.getElem?_eq_getElem c, List.getElem?_eq_getElem (le ▸ c)] at hk
    cases hk
    have := hP.arc c
    rw [getD_eq c, getD_eq (le ▸ c)] at this
    unfold arcI
    rw [List.length_map, List.length_range]
    omega
  · rw [List.getElem?_eq_none (by omega)] at hk
    cases hk
theorem sortI_len (l : List Int) : (sortI l).length = l.length := (sortI_perm l).length_eq
end
end MR

set_option Elab.async false
set_option linter.all false
set_option maxRecDepth 100000
set_option maxHeartbeats 1000000
namespace MR
open PySem PySem.Spec PyProof.Rows L2
variable [Tq]
local macro_rules | `(tactic| walk_at "npin") => `(tactic| first | rfl | exact np_at rfl (by assumption))
local macro_rules | `(tactic| walk_at "isi") => `(tactic| first
  | with_reducible refine isi_int_n ?_
  | with_reducible refine isi_int_b ?_
  | with_reducible refine isi_int_i ?_
  | with_reducible refine isi_int_s ?_
  | with_reducible refine isi_int_l ?_
  | with_reducible refine isi_int_t ?_
  | ((with_reducible apply isi_int_o); rfl)
  | with_reducible refine isi_bool_n ?_
  | with_reducible refine isi_bool_b ?_
  | with_reducible refine isi_bool_i ?_
  | with_reducible refine isi_bool_s ?_
  | with_reducible refine isi_bool_l ?_
  | with_reducible refine isi_bool_t ?_
  | ((with_reducible apply isi_bool_o); rfl)
  | with_reducible refine isi_str_n ?_
  | with_reducible refine isi_str_b ?_
  | with_reducible refine isi_str_i ?_
  | with_reducible refine isi_str_s ?_
  | with_reducible refine isi_str_l ?_
  | with_reducible refine isi_str_t ?_
  | ((with_reducible apply isi_str_o); rfl)
  | with_reducible refine isi_tuple_n ?_
  | with_reducible refine isi_tuple_b ?_
  | with_reducible refine isi_tuple_i ?_
  | with_reducible refine isi_tuple_s ?_
  | with_reducible refine isi_tuple_l ?_
  | with_reducible refine isi_tuple_t ?_
  | ((with_reducible apply isi_tuple_o); rfl)
  | with_reducible refine isi_list_n ?_
  | with_reducible refine isi_list_b ?_
  | with_reducible refine isi_list_i ?_
  | with_reducible refine isi_list_s ?_
  | with_reducible refine isi_list_l ?_
  | with_reducible refine isi_list_t ?_
  | ((with_reducible apply isi_list_o); rfl))
local macro_rules | `(tactic| walk_at "nset") => `(tactic| try simp only [List.set_cons_succ, List.set_cons_zero])
local macro_rules | `(tactic| walk_at "w1") => `(tactic| first
  | with_reducible refine ws_seq ?_
  | with_reducible refine seqK_nx ?_
  | with_reducible refine seqK_ret ?_
  | with_reducible refine ws_skip ?_
  | with_reducible refine ws_expr ?_
  | with_reducible refine exK_val ?_
  | with_reducible refine exK_new ?_
  | with_reducible refine exK_err ?_
  | with_reducible refine seqK_err ?_
  | with_reducible refine rtK_err ?_
  | with_reducible refine setK_err ?_
  | with_reducible refine retV_err ?_
  | ((with_reducible refine retO_err ?_); walk_at "nset")
  | ((with_reducible refine defK_err ?_); try dsimp only [outsOf, List.zipWith])
  | with_reducible refine ws_raise1 ?_
  | with_reducible refine raK_int ?_
  | with_reducible refine we_errOf ?_
  | with_reducible refine eofK_val ?_
  | with_reducible refine eofK_new ?_
  | with_reducible refine ws_ret ?_
  | with_reducible refine rtK_val ?_
  | with_reducible refine rtK_new ?_
  | with_reducible refine rtK_slot ?_
  | with_reducible refine ws_set ?_
  | ((with_reducible apply setK_val); walk_at "npin"; walk_at "nset")
  | ((with_reducible apply setK_new); walk_at "npin"; walk_at "nset")
  | with_reducible refine ws_if ?_
  | with_reducible refine we_c ?_
  | ((with_reducible apply we_var); rfl)
  | ((with_reducible apply we_varo); rfl)
  | with_reducible refine we_op ?_
  | with_reducible refine opK1_val ?_
  | with_reducible refine opK1_new ?_
  | with_reducible refine opK1_slot ?_
  | with_reducible refine opK2_vv xAdd ?_
  | with_reducible refine opK2_vv xSub ?_
  | with_reducible refine opK2_vv xLt ?_
  | with_reducible refine opK2_vv xLe ?_
  | with_reducible refine opK2_vv xGt ?_
  | with_reducible refine opK2_vv xGe ?_
  | with_reducible refine opK2_vv xEq ?_
  | with_reducible refine opK2_vv xNe ?_
  | with_reducible refine opK2_vv xIsN ?_
  | with_reducible refine opK2_vv xNotN ?_
  | with_reducible refine we_un ?_
  | with_reducible refine unK_val xNeg ?_
  | (with_reducible refine we_isi ?_)
  | with_reducible refine we_not ?_
  | with_reducible refine notK_t ?_
  | with_reducible refine notK_f ?_
  | with_reducible refine notK_b ?_
  | with_reducible refine we_and ?_
  | with_reducible refine andK_t ?_
  | with_reducible refine andK_f ?_
  | with_reducible refine we_or ?_
  | with_reducible refine orK_t ?_
  | with_reducible refine orK_f ?_
  | with_reducible refine we_ifE ?_
  | with_reducible refine ifEK_t ?_
  | with_reducible refine ifEK_f ?_
  | with_reducible refine ifK_t ?_
  | with_reducible refine ifK_f ?_
  | with_reducible refine we_fn ?_
  | with_reducible refine we_call ?_
  | walk_at "spec"
  | with_reducible refine wa_cons ?_
  | with_reducible refine wa_nil ?_
  | with_reducible refine argK_val ?_
  | with_reducible refine argK_new ?_
  | with_reducible refine argK_slot ?_
  | with_reducible refine argK2_val ?_
  | ((with_reducible apply argK2_slot); rfl)
  | with_reducible refine fnK_v xLenTI ?_
  | with_reducible refine fnK_v xLenLI ?_
  | ((with_reducible apply fnK_s (h := xLenLI)); rfl)
  | with_reducible refine fnK_v xLenT ?_
  | with_reducible refine fnK_v xLenL ?_
  | ((with_reducible apply fnK_s (h := xLenL)); rfl)
  | with_reducible refine fnK_v xTupL ?_
  | with_reducible refine fnK_v xTupT ?_
  | ((with_reducible apply fnK_s (h := xTupL)); rfl)
  | with_reducible refine fnK_v xLstL ?_
  | with_reducible refine fnK_v xLstT ?_
  | ((with_reducible apply fnK_s (h := xLstL)); rfl)
  | with_reducible refine fnK_v xAbs ?_
  | with_reducible refine fnK_vv xGcd ?_
  | with_reducible refine callK_v1 ?_
  | with_reducible refine callK_v2 ?_
  | with_reducible refine callK_v3 ?_
  | ((with_reducible apply callK_o0); rfl)
  | ((with_reducible apply callK_o1); rfl)
  | ((with_reducible apply callK_o2); rfl)
  | with_reducible refine retV_val ?_
  | with_reducible refine retV_new ?_
  | ((with_reducible refine retO_val ?_); walk_at "nset")
  | ((with_reducible refine retO_new ?_); walk_at "nset")
  | with_reducible refine we_tup ?_
  | with_reducible refine we_lst ?_
  | with_reducible refine wt_cons ?_
  | with_reducible refine wt_nil ?_
  | with_reducible refine takK_val ?_
  | with_reducible refine takK_new ?_
  | with_reducible refine tcK_ok ?_
  | with_reducible refine tupK_ok ?_
  | with_reducible refine ws_for ?_
  | with_reducible refine wi_rg ?_
  | with_reducible refine wi_seq ?_
  | with_reducible refine wi_enum ?_
  | with_reducible refine wi_zip2 ?_
  | with_reducible refine wi_zip3 ?_
  | with_reducible refine zipK2_tt ?_
  | with_reducible refine zipK2_tl ?_
  | with_reducible refine zipK2_ll ?_
  | with_reducible refine zipK3_tll ?_
  | with_reducible refine wi_rg3 ?_
  | with_reducible refine unK_val xBackT ?_
  | with_reducible refine unK_val xBackL ?_
  | with_reducible refine itK_list ?_
  | with_reducible refine itK_tuple ?_
  | with_reducible refine itK_new ?_
  | ((with_reducible apply itK_slot); rfl)
  | with_reducible refine enK_l ?_
  | with_reducible refine enK_t ?_
  | with_reducible refine forK_n ?_
  | with_reducible refine we_lc ?_
  | ((with_reducible apply wg_nm); walk_at "npin"; walk_at "nset")
  | with_reducible refine wg_tup rfl ?_
  | with_reducible refine wgs_cons ?_
  | with_reducible refine wgs_nil ?_
  | with_reducible refine lcT_t ?_
  | ((with_reducible apply lcE_val); rfl)
  | ((with_reducible apply lcE_new); rfl)
  | with_reducible refine we_cat ?_
  | with_reducible refine catK1_new ?_
  | with_reducible refine catK1_slot ?_
  | with_reducible refine catK1_list ?_
  | with_reducible refine ws_par ?_
  | ((with_reducible apply parK_ok); walk_at "npin"; walk_at "npin"; walk_at "nset")
  | with_reducible refine lpK_nx ?_
  | with_reducible refine lpK_ret ?_
  | with_reducible refine ws_asg ?_
  | with_reducible refine asgK_val ?_
  | with_reducible refine we_cut ?_
  | with_reducible refine cutK_val ?_
  | with_reducible refine cutK_new ?_
  | with_reducible refine cutK_slot ?_
  | with_reducible refine wp_none ?_
  | with_reducible refine wp_some ?_
  | with_reducible refine ptK_int ?_
  | with_reducible refine cutK2_t ?_
  | with_reducible refine cutK2_l ?_
  | ((with_reducible apply cutK2_s); rfl)
  | with_reducible refine we_meth ?_
  | with_reducible refine mthK_t ?_
  | with_reducible refine mthK_l ?_
  | with_reducible refine mthK_n ?_
  | with_reducible refine mthK_s ?_
  | with_reducible refine opK2_vv xCntT ?_
  | with_reducible refine opK2_vv xCntL ?_
  | ((with_reducible apply opK2_sv (h := xCntL)); rfl)
  | with_reducible refine we_frz ?_
  | walk_at "isi"
  | with_reducible refine frzK_val ?_
  | with_reducible refine frzK_new ?_
  | ((with_reducible apply we_mut); rfl)
  | with_reducible refine ws_setIx ?_
  | ((with_reducible apply sixK_val); rfl)
  | ((with_reducible apply ws_aug); rfl)
  | ((with_reducible refine defK_val ?_); try dsimp only [outsOf, List.zipWith])
  | ((with_reducible refine defK_new ?_); try dsimp only [outsOf, List.zipWith])
  | ((with_reducible refine defK_nx ?_); try dsimp only [outsOf, List.zipWith])
  | ((with_reducible apply defK_slot); rfl; try dsimp only [outsOf, List.zipWith])
  | ((with_reducible refine wf_def ?_); try simp only [List.length_cons, List.length_nil, List.cons_append, List.nil_append, Nat.reduceAdd, Nat.reduceSub, List.reduceReplicate]))
local macro_rules | `(tactic| walk_at "wp") => `(tactic| repeat (walk_at "w1"))
local macro_rules | `(tactic| walk_at "wt") => `(tactic| repeat (first | with_reducible refine wt_nil ?_ | with_reducible refine wt_cons ?_ | with_reducible refine takK_val ?_ | with_reducible refine takK_new ?_ | with_reducible refine tcK_ok ?_ | with_reducible refine tupK_ok ?_ | ((with_reducible apply parK_ok); walk_at "npin"; walk_at "npin"; walk_at "nset")))
local macro_rules | `(tactic| walk_at "wipe") => `(tactic| simp only [wipeE, unwipe, List.getD_cons_succ, List.getD_cons_zero, List.set_cons_succ, List.set_cons_zero])
local macro_rules | `(tactic| walk_at "spec") => `(tactic| fail)
theorem rep_sc {c : Int} {is : List Nat} {ms : List Int} (h : ∀ i ∈ is, i < ms.length) : ∀ k, rep (sc c ms) is k = sc c (rep ms is k)
  | 0 => rfl
  | k + 1 => by
    show refls (rep (sc c ms) is k) is = sc c (refls (rep ms is k) is)
    rw [rep_sc h k, refls_sc (by rw [rep_len]; exact h)]
theorem xPow6 : gPow (.int 10) (.int 6) = some (.val (.int 1000000)) := by
  unfold gPow gInt2
  simp only
  rw [if_pos ⟨by omega, by omega, by decide⟩]
  rfl
end MR

set_option Elab.async false
set_option linter.all false
set_option maxRecDepth 100000
set_option maxHeartbeats 1000000
namespace MR
open PySem PySem.Spec PyProof.Rows L2
variable [Tq]
/-! ### a ring that tells whether a block changes nothing -/
end MR

set_option Elab.async false
set_option linter.all false
set_option maxRecDepth 100000
set_option maxHeartbeats 1000000
namespace MR
open PySem PySem.Spec PyProof.Rows L2
variable [Tq]
local macro_rules | `(tactic| walk_at "npin") => `(tactic| first | rfl | exact np_at rfl (by assumption))
local macro_rules | `(tactic| walk_at "isi") => `(tactic| first
  | with_reducible refine isi_int_n ?_
  | with_reducible refine isi_int_b ?_
  | with_reducible refine isi_int_i ?_
  | with_reducible refine isi_int_s ?_
  | with_reducible refine isi_int_l ?_
  | with_reducible refine isi_int_t ?_
  | ((with_reducible apply isi_int_o); rfl)
  | with_reducible refine isi_bool_n ?_
  | with_reducible refine isi_bool_b ?_
  | with_reducible refine isi_bool_i ?_
  | with_reducible refine isi_bool_s ?_
  | with_reducible refine isi_bool_l ?_
  | with_reducible refine isi_bool_t ?_
  | ((with_reducible apply isi_bool_o); rfl)
  | with_reducible refine isi_str_n ?_
  | with_reducible refine isi_str_b ?_
  | with_reducible refine isi_str_i ?_
  | with_reducible refine isi_str_s ?_
  | with_reducible refine isi_str_l ?_
  | with_reducible refine isi_str_t ?_
  | ((with_reducible apply isi_str_o); rfl)
  | with_reducible refine isi_tuple_n ?_
  | with_reducible refine isi_tuple_b ?_
  | with_reducible refine isi_tuple_i ?_
  | with_reducible refine isi_tuple_s ?_
  | with_reducible refine isi_tuple_l ?_
  | with_reducible refine isi_tuple_t ?_
  | ((with_reducible apply isi_tuple_o); rfl)
  | with_reducible refine isi_list_n ?_
  | with_reducible refine isi_list_b ?_
  | with_reducible refine isi_list_i ?_
  | with_reducible refine isi_list_s ?_
  | with_reducible refine isi_list_l ?_
  | with_reducible refine isi_list_t ?_
  | ((with_reducible apply isi_list_o); rfl))
local macro_rules | `(tactic| walk_at "nset") => `(tactic| try simp only [List.set_cons_succ, List.set_cons_zero])
local macro_rules | `(tactic| walk_at "w1") => `(tactic| first
  | with_reducible refine ws_seq ?_
  | with_reducible refine seqK_nx ?_
  | with_reducible refine seqK_ret ?_
  | with_reducible refine ws_skip ?_
  | with_reducible refine ws_expr ?_
  | with_reducible refine exK_val ?_
  | with_reducible refine exK_new ?_
  | with_reducible refine exK_err ?_
  | with_reducible refine seqK_err ?_
  | with_reducible refine rtK_err ?_
  | with_reducible refine setK_err ?_
  | with_reducible refine retV_err ?_
  | ((with_reducible refine retO_err ?_); walk_at "nset")
  | ((with_reducible refine defK_err ?_); try dsimp only [outsOf, List.zipWith])
  | with_reducible refine ws_raise1 ?_
  | with_reducible refine raK_int ?_
  | with_reducible refine we_errOf ?_
  | with_reducible refine eofK_val ?_
  | with_reducible refine eofK_new ?_
  | with_reducible refine ws_ret ?_
  | with_reducible refine rtK_val ?_
  | with_reducible refine rtK_new ?_
  | with_reducible refine rtK_slot ?_
  | with_reducible refine ws_set ?_
  | ((with_reducible apply setK_val); walk_at "npin"; walk_at "nset")
  | ((with_reducible apply setK_new); walk_at "npin"; walk_at "nset")
  | with_reducible refine ws_if ?_
  | with_reducible refine we_c ?_
  | ((with_reducible apply we_var); rfl)
  | ((with_reducible apply we_varo); rfl)
  | with_reducible refine we_op ?_
  | with_reducible refine opK1_val ?_
  | with_reducible refine opK1_new ?_
  | with_reducible refine opK1_slot ?_
  | with_reducible refine opK2_vv xAdd ?_
  | with_reducible refine opK2_vv xSub ?_
  | with_reducible refine opK2_vv xLt ?_
  | with_reducible refine opK2_vv xLe ?_
  | with_reducible refine opK2_vv xGt ?_
  | with_reducible refine opK2_vv xGe ?_
  | with_reducible refine opK2_vv xEq ?_
  | with_reducible refine opK2_vv xNe ?_
  | with_reducible refine opK2_vv xIsN ?_
  | with_reducible refine opK2_vv xNotN ?_
  | with_reducible refine we_un ?_
  | with_reducible refine unK_val xNeg ?_
  | (with_reducible refine we_isi ?_)
  | with_reducible refine we_not ?_
  | with_reducible refine notK_t ?_
  | with_reducible refine notK_f ?_
  | with_reducible refine notK_b ?_
  | with_reducible refine we_and ?_
  | with_reducible refine andK_t ?_
  | with_reducible refine andK_f ?_
  | with_reducible refine we_or ?_
  | with_reducible refine orK_t ?_
  | with_reducible refine orK_f ?_
  | with_reducible refine we_ifE ?_
  | with_reducible refine ifEK_t ?_
  | with_reducible refine ifEK_f ?_
  | with_reducible refine ifK_t ?_
  | with_reducible refine ifK_f ?_
  | with_reducible refine we_fn ?_
  | with_reducible refine we_call ?_
  | walk_at "spec"
  | with_reducible refine wa_cons ?_
  | with_reducible refine wa_nil ?_
  | with_reducible refine argK_val ?_
  | with_reducible refine argK_new ?_
  | with_reducible refine argK_slot ?_
  | with_reducible refine argK2_val ?_
  | ((with_reducible apply argK2_slot); rfl)
  | with_reducible refine fnK_v xLenTI ?_
  | with_reducible refine fnK_v xLenLI ?_
  | ((with_reducible apply fnK_s (h := xLenLI)); rfl)
  | with_reducible refine fnK_v xLenT ?_
  | with_reducible refine fnK_v xLenL ?_
  | ((with_reducible apply fnK_s (h := xLenL)); rfl)
  | with_reducible refine fnK_v xTupL ?_
  | with_reducible refine fnK_v xTupT ?_
  | ((with_reducible apply fnK_s (h := xTupL)); rfl)
  | with_reducible refine fnK_v xLstL ?_
  | with_reducible refine fnK_v xLstT ?_
  | ((with_reducible apply fnK_s (h := xLstL)); rfl)
  | with_reducible refine fnK_v xAbs ?_
  | with_reducible refine fnK_vv xGcd ?_
  | with_reducible refine callK_v1 ?_
  | with_reducible refine callK_v2 ?_
  | with_reducible refine callK_v3 ?_
  | ((with_reducible apply callK_o0); rfl)
  | ((with_reducible apply callK_o1); rfl)
  | ((with_reducible apply callK_o2); rfl)
  | with_reducible refine retV_val ?_
  | with_reducible refine retV_new ?_
  | ((with_reducible refine retO_val ?_); walk_at "nset")
  | ((with_reducible refine retO_new ?_); walk_at "nset")
  | with_reducible refine we_tup ?_
  | with_reducible refine we_lst ?_
  | with_reducible refine wt_cons ?_
  | with_reducible refine wt_nil ?_
  | with_reducible refine takK_val ?_
  | with_reducible refine takK_new ?_
  | with_reducible refine tcK_ok ?_
  | with_reducible refine tupK_ok ?_
  | with_reducible refine ws_for ?_
  | with_reducible refine wi_rg ?_
  | with_reducible refine wi_seq ?_
  | with_reducible refine wi_enum ?_
  | with_reducible refine wi_zip2 ?_
  | with_reducible refine wi_zip3 ?_
  | with_reducible refine zipK2_tt ?_
  | with_reducible refine zipK2_tl ?_
  | with_reducible refine zipK2_ll ?_
  | with_reducible refine zipK3_tll ?_
  | with_reducible refine wi_rg3 ?_
  | with_reducible refine unK_val xBackT ?_
  | with_reducible refine unK_val xBackL ?_
  | with_reducible refine itK_list ?_
  | with_reducible refine itK_tuple ?_
  | with_reducible refine itK_new ?_
  | ((with_reducible apply itK_slot); rfl)
  | with_reducible refine enK_l ?_
  | with_reducible refine enK_t ?_
  | with_reducible refine forK_n ?_
  | with_reducible refine we_lc ?_
  | ((with_reducible apply wg_nm); walk_at "npin"; walk_at "nset")
  | with_reducible refine wg_tup rfl ?_
  | with_reducible refine wgs_cons ?_
  | with_reducible refine wgs_nil ?_
  | with_reducible refine lcT_t ?_
  | ((with_reducible apply lcE_val); rfl)
  | ((with_reducible apply lcE_new); rfl)
  | with_reducible refine we_cat ?_
  | with_reducible refine catK1_new ?_
  | with_reducible refine catK1_slot ?_
  | with_reducible refine catK1_list ?_
  | with_reducible refine ws_par ?_
  | ((with_reducible apply parK_ok); walk_at "npin"; walk_at "npin"; walk_at "nset")
  | with_reducible refine lpK_nx ?_
  | with_reducible refine lpK_ret ?_
  | with_reducible refine ws_asg ?_
  | with_reducible refine asgK_val ?_
  | with_reducible refine we_cut ?_
  | with_reducible refine cutK_val ?_
  | with_reducible refine cutK_new ?_
  | with_reducible refine cutK_slot ?_
  | with_reducible refine wp_none ?_
  | with_reducible refine wp_some ?_
  | with_reducible refine ptK_int ?_
  | with_reducible refine cutK2_t ?_
  | with_reducible refine cutK2_l ?_
  | ((with_reducible apply cutK2_s); rfl)
  | with_reducible refine we_meth ?_
  | with_reducible refine mthK_t ?_
  | with_reducible refine mthK_l ?_
  | with_reducible refine mthK_n ?_
  | with_reducible refine mthK_s ?_
  | with_reducible refine opK2_vv xCntT ?_
  | with_reducible refine opK2_vv xCntL ?_
  | ((with_reducible apply opK2_sv (h := xCntL)); rfl)
  | with_reducible refine we_frz ?_
  | walk_at "isi"
  | with_reducible refine frzK_val ?_
  | with_reducible refine frzK_new ?_
  | ((with_reducible apply we_mut); rfl)
  | with_reducible refine ws_setIx ?_
  | ((with_reducible apply sixK_val); rfl)
  | ((with_reducible apply ws_aug); rfl)
  | ((with_reducible refine defK_val ?_); try dsimp only [outsOf, List.zipWith])
  | ((with_reducible refine defK_new ?_); try dsimp only [outsOf, List.zipWith])
  | ((with_reducible refine defK_nx ?_); try dsimp only [outsOf, List.zipWith])
  | ((with_reducible apply defK_slot); rfl; try dsimp only [outsOf, List.zipWith])
  | ((with_reducible refine wf_def ?_); try simp only [List.length_cons, List.length_nil, List.cons_append, List.nil_append, Nat.reduceAdd, Nat.reduceSub, List.reduceReplicate]))
local macro_rules | `(tactic| walk_at "wp") => `(tactic| repeat (walk_at "w1"))
local macro_rules | `(tactic| walk_at "wt") => `(tactic| repeat (first | with_reducible refine wt_nil ?_ | with_reducible refine wt_cons ?_ | with_reducible refine takK_val ?_ | with_reducible refine takK_new ?_ | with_reducible refine tcK_ok ?_ | with_reducible refine tupK_ok ?_ | ((with_reducible apply parK_ok); walk_at "npin"; walk_at "npin"; walk_at "nset")))
local macro_rules | `(tactic| walk_at "wipe") => `(tactic| simp only [wipeE, unwipe, List.getD_cons_succ, List.getD_cons_zero, List.set_cons_succ, List.set_cons_zero])
local macro_rules | `(tactic| walk_at "spec") => `(tactic| fail)
/-! ### blocks of blocks, blocks backwards -/
theorem Li.rep {a : List Int} {is : List Nat} {n k : Nat} (h : Li a n) (h8 : n ≤ 8) (hi : ∀ i ∈ is, i < a.length) (hl : is.length * k ≤ 10000) : Mk (rep a is k) ∧ ∀ x, x < a.length → -600000 ≤ (MR.rep a is k).getD x 0 ∧ (MR.rep a is k).getD x 0 ≤ 600000 := by
  have key : ∀ x, x < a.length → -600000 ≤ (MR.rep a is k).getD x 0 ∧ (MR.rep a is k).getD x 0 ≤ 600000 := fun x hx => by
    have b := (rep_bound (M := 29) (B := 29) h.1 hi (fun y hy => by have := h.2.2 _ (getD_mem hy); omega) h.dAt k).1 x hx
    have e : 2 * 29 * (is.length : Int) * (k : Int) = 58 * (((is.length * k : Nat)) : Int) := by rw [Int.natCast_mul, ← Int.mul_assoc]; rfl
    rw [e] at b
    have : (((is.length * k : Nat)) : Int) ≤ 10000 := by omega
    omega
  refine ⟨⟨by rw [rep_len]; exact h.1, by rw [rep_len]; exact Nat.le_trans h.2.1 h8, fun m hm => ?_⟩, key⟩
  obtain ⟨x, hx, rfl⟩ := List.mem_iff_getElem.mp hm
  have hx' : x < a.length := by rw [rep_len] at hx; exact hx
  have := key x hx'
  rw [getD_eq hx] at this
  omega
end MR

set_option Elab.async false
set_option linter.all false
set_option maxRecDepth 100000
set_option maxHeartbeats 1000000
namespace MR
open PySem PySem.Spec PyProof.Rows L2
variable [Tq]
local macro_rules | `(tactic| walk_at "npin") => `(tactic| first | rfl | exact np_at rfl (by assumption))
local macro_rules | `(tactic| walk_at "isi") => `(tactic| first
  | with_reducible refine isi_int_n ?_
  | with_reducible refine isi_int_b ?_
  | with_reducible refine isi_int_i ?_
  | with_reducible refine isi_int_s ?_
  | with_reducible refine isi_int_l ?_
  | with_reducible refine isi_int_t ?_
  | ((with_reducible apply isi_int_o); rfl)
  | with_reducible refine isi_bool_n ?_
  | with_reducible refine isi_bool_b ?_
  | with_reducible refine isi_bool_i ?_
  | with_reducible refine isi_bool_s ?_
  | with_reducible refine isi_bool_l ?_
  | with_reducible refine isi_bool_t ?_
  | ((with_reducible apply isi_bool_o); rfl)
  | with_reducible refine isi_str_n ?_
  | with_reducible refine isi_str_b ?_
  | with_reducible refine isi_str_i ?_
  | with_reducible refine isi_str_s ?_
  | with_reducible refine isi_str_l ?_
  | with_reducible refine isi_str_t ?_
  | ((with_reducible apply isi_str_o); rfl)
  | with_reducible refine isi_tuple_n ?_
  | with_reducible refine isi_tuple_b ?_
  | with_reducible refine isi_tuple_i ?_
  | with_reducible refine isi_tuple_s ?_
  | with_reducible refine isi_tuple_l ?_
  | with_reducible refine isi_tuple_t ?_
  | ((with_reducible apply isi_tuple_o); rfl)
  | with_reducible refine isi_list_n ?_
  | with_reducible refine isi_list_b ?_
  | with_reducible refine isi_list_i ?_
  | with_reducible refine isi_list_s ?_
  | with_reducible refine isi_list_l ?_
  | with_reducible refine isi_list_t ?_
  | ((with_reducible apply isi_list_o); rfl))
local macro_rules | `(tactic| walk_at "nset") => `(tactic| try simp only [List.set_cons_succ, List.set_cons_zero])
local macro_rules | `(tactic| walk_at "w1") => `(tactic| first
  | with_reducible refine ws_seq ?_
  | with_reducible refine seqK_nx ?_
  | with_reducible refine seqK_ret ?_
  | with_reducible refine ws_skip ?_
  | with_reducible refine ws_expr ?_
  | with_reducible refine exK_val ?_
  | with_reducible refine exK_new ?_
  | with_reducible refine exK_err ?_
  | with_reducible refine seqK_err ?_
  | with_reducible refine rtK_err ?_
  | with_reducible refine setK_err ?_
  | with_reducible refine retV_err ?_
  | ((with_reducible refine retO_err ?_); walk_at "nset")
  | ((with_reducible refine defK_err ?_); try dsimp only [outsOf, List.zipWith])
  | with_reducible refine ws_raise1 ?_
  | with_reducible refine raK_int ?_
  | with_reducible refine we_errOf ?_
  | with_reducible refine eofK_val ?_
  | with_reducible refine eofK_new ?_
  | with_reducible refine ws_ret ?_
  | with_reducible refine rtK_val ?_
  | with_reducible refine rtK_new ?_
  | with_reducible refine rtK_slot ?_
  | with_reducible refine ws_set ?_
  | ((with_reducible apply setK_val); walk_at "npin"; walk_at "nset")
  | ((with_reducible apply setK_new); walk_at "npin"; walk_at "nset")
  | with_reducible refine ws_if ?_
  | with_reducible refine we_c ?_
  | ((with_reducible apply we_var); rfl)
  | ((with_reducible apply we_varo); rfl)
  | with_reducible refine we_op ?_
  | with_reducible refine opK1_val ?_
  | with_reducible refine opK1_new ?_
  | with_reducible refine opK1_slot ?_
  | with_reducible refine opK2_vv xAdd ?_
  | with_reducible refine opK2_vv xSub ?_
  | with_reducible refine opK2_vv xLt ?_
  | with_reducible refine opK2_vv xLe ?_
  | with_reducible refine opK2_vv xGt ?_
  | with_reducible refine opK2_vv xGe ?_
  | with_reducible refine opK2_vv xEq ?_
  | with_reducible refine opK2_vv xNe ?_
  | with_reducible refine opK2_vv xIsN ?_
  | with_reducible refine opK2_vv xNotN ?_
  | with_reducible refine we_un ?_
  | with_reducible refine unK_val xNeg ?_
  | (with_reducible refine we_isi ?_)
  | with_reducible refine we_not ?_
  | with_reducible refine notK_t ?_
  | with_reducible refine notK_f ?_
  | with_reducible refine notK_b ?_
  | with_reducible refine we_and ?_
  | with_reducible refine andK_t ?_
  | with_reducible refine andK_f ?_
  | with_reducible refine we_or ?_
  | with_reducible refine orK_t ?_
  | with_reducible refine orK_f ?_
  | with_reducible refine we_ifE ?_
  | with_reducible refine ifEK_t ?_
  | with_reducible refine ifEK_f ?_
  | with_reducible refine ifK_t ?_
  | with_reducible refine ifK_f ?_
  | with_reducible refine we_fn ?_
  | with_reducible refine we_call ?_
  | walk_at "spec"
  | with_reducible refine wa_cons ?_
  | with_reducible refine wa_nil ?_
  | with_reducible refine argK_val ?_
  | with_reducible refine argK_new ?_
  | with_reducible refine argK_slot ?_
  | with_reducible refine argK2_val ?_
  | ((with_reducible apply argK2_slot); rfl)
  | with_reducible refine fnK_v xLenTI ?_
  | with_reducible refine fnK_v xLenLI ?_
  | ((with_reducible apply fnK_s (h := xLenLI)); rfl)
  | with_reducible refine fnK_v xLenT ?_
  | with_reducible refine fnK_v xLenL ?_
  | ((with_reducible apply fnK_s (h := xLenL)); rfl)
  | with_reducible refine fnK_v xTupL ?_
  | with_reducible refine fnK_v xTupT ?_
  | ((with_reducible apply fnK_s (h := xTupL)); rfl)
  | with_reducible refine fnK_v xLstL ?_
  | with_reducible refine fnK_v xLstT ?_
  | ((with_reducible apply fnK_s (h := xLstL)); rfl)
  | with_reducible refine fnK_v xAbs ?_
  | with_reducible refine fnK_vv xGcd ?_
  | with_reducible refine callK_v1 ?_
  | with_reducible refine callK_v2 ?_
  | with_reducible refine callK_v3 ?_
  | ((with_reducible apply callK_o0); rfl)
  | ((with_reducible apply callK_o1); rfl)
  | ((with_reducible apply callK_o2); rfl)
  | with_reducible refine retV_val ?_
  | with_reducible refine retV_new ?_
  | ((with_reducible refine retO_val ?_); walk_at "nset")
  | ((with_reducible refine retO_new ?_); walk_at "nset")
  | with_reducible refine we_tup ?_
  | with_reducible refine we_lst ?_
  | with_reducible refine wt_cons ?_
  | with_reducible refine wt_nil ?_
  | with_reducible refine takK_val ?_
  | with_reducible refine takK_new ?_
  | with_reducible refine tcK_ok ?_
  | with_reducible refine tupK_ok ?_
  | with_reducible refine ws_for ?_
  | with_reducible refine wi_rg ?_
  | with_reducible refine wi_seq ?_
  | with_reducible refine wi_enum ?_
  | with_reducible refine wi_zip2 ?_
  | with_reducible refine wi_zip3 ?_
  | with_reducible refine zipK2_tt ?_
  | with_reducible refine zipK2_tl ?_
  | with_reducible refine zipK2_ll ?_
  | with_reducible refine zipK3_tll ?_
  | with_reducible refine wi_rg3 ?_
  | with_reducible refine unK_val xBackT ?_
  | with_reducible refine unK_val xBackL ?_
  | with_reducible refine itK_list ?_
  | with_reducible refine itK_tuple ?_
  | with_reducible refine itK_new ?_
  | ((with_reducible apply itK_slot); rfl)
  | with_reducible refine enK_l ?_
  | with_reducible refine enK_t ?_
  | with_reducible refine forK_n ?_
  | with_reducible refine we_lc ?_
  | ((with_reducible apply wg_nm); walk_at "npin"; walk_at "nset")
  | with_reducible refine wg_tup rfl ?_
  | with_reducible refine wgs_cons ?_
  | with_reducible refine wgs_nil ?_
  | with_reducible refine lcT_t ?_
  | ((with_reducible apply lcE_val); rfl)
  | ((with_reducible apply lcE_new); rfl)
  | with_reducible refine we_cat ?_
  | with_reducible refine catK1_new ?_
  | with_reducible refine catK1_slot ?_
  | with_reducible refine catK1_list ?_
  | with_reducible refine ws_par ?_
  | ((with_reducible apply parK_ok); walk_at "npin"; walk_at "npin"; walk_at "nset")
  | with_reducible refine lpK_nx ?_
  | with_reducible refine lpK_ret ?_
  | with_reducible refine ws_asg ?_
  | with_reducible refine asgK_val ?_
  | with_reducible refine we_cut ?_
  | with_reducible refine cutK_val ?_
  | with_reducible refine cutK_new ?_
  | with_reducible refine cutK_slot ?_
  | with_reducible refine wp_none ?_
  | with_reducible refine wp_some ?_
  | with_reducible refine ptK_int ?_
  | with_reducible refine cutK2_t ?_
  | with_reducible refine cutK2_l ?_
  | ((with_reducible apply cutK2_s); rfl)
  | with_reducible refine we_meth ?_
  | with_reducible refine mthK_t ?_
  | with_reducible refine mthK_l ?_
  | with_reducible refine mthK_n ?_
  | with_reducible refine mthK_s ?_
  | with_reducible refine opK2_vv xCntT ?_
  | with_reducible refine opK2_vv xCntL ?_
  | ((with_reducible apply opK2_sv (h := xCntL)); rfl)
  | with_reducible refine we_frz ?_
  | walk_at "isi"
  | with_reducible refine frzK_val ?_
  | with_reducible refine frzK_new ?_
  | ((with_reducible apply we_mut); rfl)
  | with_reducible refine ws_setIx ?_
  | ((with_reducible apply sixK_val); rfl)
  | ((with_reducible apply ws_aug); rfl)
  | ((with_reducible refine defK_val ?_); try dsimp only [outsOf, List.zipWith])
  | ((with_reducible refine defK_new ?_); try dsimp only [outsOf, List.zipWith])
  | ((with_reducible refine defK_nx ?_); try dsimp only [outsOf, List.zipWith])
  | ((with_reducible apply defK_slot); rfl; try dsimp only [outsOf, List.zipWith])
  | ((with_reducible refine wf_def ?_); try simp only [List.length_cons, List.length_nil, List.cons_append, List.nil_append, Nat.reduceAdd, Nat.reduceSub, List.reduceReplicate]))
local macro_rules | `(tactic| walk_at "wp") => `(tactic| repeat (walk_at "w1"))
local macro_rules | `(tactic| walk_at "wt") => `(tactic| repeat (first | with_reducible refine wt_nil ?_ | with_reducible refine wt_cons ?_ | with_reducible refine takK_val ?_ | with_reducible refine takK_new ?_ | with_reducible refine tcK_ok ?_ | with_reducible refine tupK_ok ?_ | ((with_reducible apply parK_ok); walk_at "npin"; walk_at "npin"; walk_at "nset")))
local macro_rules | `(tactic| walk_at "wipe") => `(tactic| simp only [wipeE, unwipe, List.getD_cons_succ, List.getD_cons_zero, List.set_cons_succ, List.set_cons_zero])
local macro_rules | `(tactic| walk_at "spec") => `(tactic| fail)
/-! ### turned rings -/
def rot (t : Nat) (a : List Int) : List Int := a.drop t ++ a.take t
theorem rot_len (t : Nat) (a : List Int) : (rot t a).length = a.length := by unfold rot; simp; omega
def up (t n x : Nat) : Nat := if x + t < n then x + t else x + t - n
def dn (t n x : Nat) : Nat := if t ≤ x then x - t else x + n - t
theorem up_lt {t n x : Nat} (ht : t < n) (hx : x < n) : up t n x < n := by unfold up; split <;> omega
theorem dn_lt {t n x : Nat} (ht : t < n) (hx : x < n) : dn t n x < n := by unfold dn; split <;> omega
theorem up_dn {t n x : Nat} (ht : t < n) (hx : x < n) : up t n (dn t n x) = x := by unfold up dn; split <;> split <;> omega
theorem rot_at {t x : Nat} {a : List Int} (ht : t < a.length) (hx : x < a.length) : (rot t a).getD x 0 = a.getD (up t a.length x) 0 := by
  unfold rot up
  rw [List.getD_eq_getElem?_getD, List.getD_eq_getElem?_getD, List.getElem?_append, List.length_drop]
  by_cases c : x + t < a.length
  · rw [if_pos (by omega), if_pos c, List.getElem?_drop, Nat.add_comm t x]
  · rw [if_neg (by omega), if_neg c, List.getElem?_take_of_lt (by omega), show x - (a.length - t) = x + t - a.length by omega]
theorem refl_rot {t i : Nat} {a : List Int} (ht : t < a.length) (hi : i < a.length) : refl (rot t a) i = rot t (refl a (up t a.length i)) := by
  have l := rot_len t a
  have hu := up_lt ht hi
  have lr := refl_len a (up t a.length i)
  refine ext_getD (by rw [refl_len, rot_len, rot_len, refl_len]) fun x hx => ?_
  rw [refl_len, l] at hx
  rw [refl_getD (by rw [l]; exact hi), rot_at (a := refl a (up t a.length i)) (by rw [lr]; exact ht) (by rw [lr]; exact hx), lr, refl_getD hu]
  by_cases c : x = i
  · subst c
    rw [if_pos rfl, if_pos rfl, rm_eq (by rw [l]; exact hi), rm_eq hu, l, rot_at ht (pvS_lt hi), rot_at ht (nxS_lt hi), rot_at ht hi]
    have e1 : up t a.length (pvS a.length x) = pvS a.length (up t a.length x) := by unfold up pvS; split <;> split <;> split <;> first | omega | (split <;> omega)
    have e2 : up t a.length (nxS a.length x) = nxS a.length (up t a.length x) := by unfold up nxS; split <;> split <;> split <;> first | omega | (split <;> omega)
    rw [e1, e2]
  · rw [if_neg c, if_neg (fun z => c (by unfold up at z; split at z <;> split at z <;> omega)), rot_at ht hx]
theorem refls_rot {t : Nat} : ∀ {is : List Nat} {a : List Int}, t < a.length → (∀ i ∈ is, i < a.length) → refls (rot t a) (is.map (dn t a.length)) = rot t (refls a is)
  | [], a, _, _ => rfl
  | i :: is, a, ht, h => by
    have hi := h i List.mem_cons_self
    show refls (refl (rot t a) (dn t a.length i)) (is.map (dn t a.length)) = rot t (refls (refl a i) is)
    rw [refl_rot ht (dn_lt ht hi), up_dn ht hi]
    have := refls_rot (t := t) (is := is) (a := refl a i) (by rw [refl_len]; exact ht) (fun j hj => by rw [refl_len]; exact h j (List.mem_cons_of_mem _ hj))
    rw [refl_len] at this
    exact this
theorem dAt_rot {t x : Nat} {a : List Int} (ht : t < a.length) (hx : x < a.length) : dAt (rot t a) x = dAt a (up t a.length x) := by
  unfold dAt
  have hu := up_lt ht hx
  rw [rot_len, nx_eq hx, nx_eq hu, rot_at ht (nxS_lt hx), rot_at ht hx]
  have e2 : up t a.length (nxS a.length x) = nxS a.length (up t a.length x) := by unfold up nxS; split <;> split <;> split <;> first | omega | (split <;> omega)
  rw [e2]
theorem dsv_at {a : List Int} {x : Nat} (hx : x < a.length) : (ds a).getD x 0 = dAt a x := by
  unfold ds
  rw [List.getD_eq_getElem?_getD, List.getElem?_map, List.getElem?_range hx]
  rfl
theorem mem_ds {a : List Int} {d : Int} : d ∈ ds a ↔ ∃ x, x < a.length ∧ dAt a x = d := by
  unfold ds
  rw [List.mem_map]
  exact ⟨fun ⟨x, h1, h2⟩ => ⟨x, List.mem_range.mp h1, h2⟩, fun ⟨x, h1, h2⟩ => ⟨x, List.mem_range.mpr h1, h2⟩⟩
theorem gm_rot {t : Nat} {a : List Int} (ht : t < a.length) : gm (rot t a) = gm a := by
  refine gfold_perm (by rw [ds_len, rot_len]; omega) fun d => ?_
  rw [mem_ds, mem_ds, rot_len]
  constructor
  · rintro ⟨x, hx, rfl⟩
    exact ⟨_, up_lt ht hx, (dAt_rot ht hx).symm⟩
  · rintro ⟨x, hx, rfl⟩
    exact ⟨_, dn_lt ht hx, by rw [dAt_rot ht (dn_lt ht hx), up_dn ht hx]⟩
theorem gm_opp {a b : List Int} (h0 : 0 < a.length) (hb : 0 < b.length) (h1 : ∀ d ∈ ds a, -d ∈ ds b) (h2 : ∀ d ∈ ds b, -d ∈ ds a) : gm b = gm a := by
  have la : 0 < (ds a).length := by rw [ds_len]; exact h0
  have lb : 0 < (ds b).length := by rw [ds_len]; exact hb
  refine Nat.dvd_antisymm ?_ ?_
  · refine (gfold_all la).mpr fun x hx y hy => ?_
    have := (gfold_all lb).mp (Nat.dvd_refl _) _ (h1 x hx) _ (h1 y hy)
    rw [show (x - y).natAbs = (-x - -y).natAbs by omega]
    exact this
  · refine (gfold_all lb).mpr fun x hx y hy => ?_
    have := (gfold_all la).mp (Nat.dvd_refl _) _ (h2 x hx) _ (h2 y hy)
    rw [show (x - y).natAbs = (-x - -y).natAbs by omega]
    exact this
/-! ### rings backwards -/
theorem revD_at {x : Nat} {a : List Int} (hx : x < a.length) : a.reverse.getD x 0 = a.getD (a.length - 1 - x) 0 := by
  rw [List.getD_eq_getElem?_getD, List.getD_eq_getElem?_getD, List.getElem?_reverse hx]
theorem refl_rev {i : Nat} {a : List Int} (hi : i < a.length) : refl a.reverse (a.length - 1 - i) = (refl a i).reverse := by
  have l : a.reverse.length = a.length := List.length_reverse
  have lr := refl_len a i
  have hj : a.length - 1 - i < a.length := by omega
  refine ext_getD (by rw [refl_len, List.length_reverse, List.length_reverse, refl_len]) fun x hx => ?_
  rw [refl_len, l] at hx
  rw [refl_getD (by rw [l]; exact hj), revD_at (a := refl a i) (by rw [lr]; exact hx), lr, refl_getD hi]
  by_cases c : x = a.length - 1 - i
  · rw [if_pos c, if_pos (by omega), rm_eq (by rw [l]; exact hj), rm_eq hi, l, revD_at (pvS_lt hj), revD_at (nxS_lt hj), revD_at hj]
    have e1 : a.length - 1 - pvS a.length (a.length - 1 - i) = nxS a.length i := by unfold pvS nxS; split <;> split <;> omega
    have e2 : a.length - 1 - nxS a.length (a.length - 1 - i) = pvS a.length i := by unfold pvS nxS; split <;> split <;> omega
    rw [e1, e2, show a.length - 1 - (a.length - 1 - i) = i by omega]
    omega
  · rw [if_neg c, if_neg (by omega), revD_at hx]
theorem refls_revs : ∀ {is : List Nat} {a : List Int}, (∀ i ∈ is, i < a.length) → refls a.reverse (is.map (a.length - 1 - ·)) = (refls a is).reverse
  | [], a, _ => rfl
  | i :: is, a, h => by
    have hi := h i List.mem_cons_self
    show refls (refl a.reverse (a.length - 1 - i)) (is.map (a.length - 1 - ·)) = (refls (refl a i) is).reverse
    rw [refl_rev hi]
    have := refls_revs (is := is) (a := refl a i) (fun j hj => by rw [refl_len]; exact h j (List.mem_cons_of_mem _ hj))
    rw [refl_len] at this
    exact this
theorem dAt_rev {x : Nat} {a : List Int} (hx : x < a.length) : dAt a.reverse x = -dAt a (a.length - 1 - nxS a.length x) := by
  have hn := nxS_lt hx
  have hj : a.length - 1 - nxS a.length x < a.length := by omega
  unfold dAt
  rw [List.length_reverse, nx_eq hx, nx_eq hj, revD_at hn, revD_at hx]
  have e : nxS a.length (a.length - 1 - nxS a.length x) = a.length - 1 - x := by unfold nxS; split <;> split <;> omega
  rw [e]
  omega
theorem gm_rev {a : List Int} (h0 : 0 < a.length) : gm a.reverse = gm a := by
  have key : ∀ a : List Int, ∀ d ∈ ds a.reverse, -d ∈ ds a := fun a d hd => by
    obtain ⟨x, hx, rfl⟩ := mem_ds.mp hd
    rw [List.length_reverse] at hx
    have hn := nxS_lt hx
    rw [dAt_rev hx, Int.neg_neg]
    exact mem_ds.mpr ⟨_, by omega, rfl⟩
  refine gm_opp h0 (by rw [List.length_reverse]; exact h0) (fun d hd => ?_) (key a)
  have := key a.reverse d (by rw [List.reverse_reverse]; exact hd)
  exact this
/-! ### opposite rings -/
theorem ds_sc (c : Int) (a : List Int) : ds (sc c a) = sc c (ds a) := by
  refine ext_getD (by rw [ds_len, sc_len, sc_len, ds_len]) fun x hx => ?_
  rw [ds_len, sc_len] at hx
  rw [dsv_at (by rw [sc_len]; exact hx), sc_at (by rw [ds_len]; exact hx), dsv_at hx]
  unfold dAt
  rw [sc_len, sc_at (Nat.mod_lt _ (by omega)), sc_at hx, Int.mul_sub]
theorem gm_neg {a : List Int} (h0 : 0 < a.length) : gm (sc (-1) a) = gm a := by
  refine gm_opp h0 (by rw [sc_len]; exact h0) (fun d hd => ?_) (fun d hd => ?_)
  · rw [ds_sc]
    exact List.mem_map.mpr ⟨d, hd, by omega⟩
  · rw [ds_sc] at hd
    obtain ⟨x, hx, rfl⟩ := List.mem_map.mp hd
    rw [show -(-1 * x) = x by omega]
    exact hx
theorem sc_inj {a b : List Int} (h : sc (-1) a = sc (-1) b) : a = b := by
  have e : ∀ l : List Int, sc (-1) (sc (-1) l) = l := fun l => by
    unfold sc
    rw [List.map_map]
    refine (List.map_congr_left fun x _ => ?_).trans (List.map_id _)
    show -1 * (-1 * x) = x
    omega
  rw [← e a, h, e b]
theorem per_neg {a : List Int} {is : List Nat} {m : Nat} (h0 : 0 < a.length) (hi : ∀ i ∈ is, i < a.length) (hp : IsPer a is m) : IsPer (sc (-1) a) is m ∧ drift (sc (-1) a) is m = 0 - drift a is m := by
  have r : ∀ k, rep (sc (-1) a) is k = sc (-1) (rep a is k) := fun k => rep_sc hi k
  refine ⟨⟨hp.1, hp.2.1, ?_, fun k k1 k2 hk => hp.2.2.2 k k1 k2 ?_⟩, ?_⟩
  · rw [r, ds_sc, ds_sc, hp.2.2.1]
  · rw [r, ds_sc, ds_sc] at hk
    exact sc_inj hk
  · unfold drift
    rw [r, sc_at (by rw [rep_len]; exact h0), sc_at h0]
    omega
theorem per_sh {a : List Int} {is : List Nat} {m : Nat} {c : Int} (h0 : 0 < a.length) (hi : ∀ i ∈ is, i < a.length) (hp : IsPer a is m) : IsPer (sh c a) is m ∧ drift (sh c a) is m = drift a is m := by
  have r : ∀ k, rep (sh c a) is k = sh c (rep a is k) := fun k => rep_sh hi k
  refine ⟨⟨hp.1, hp.2.1, ?_, fun k k1 k2 hk => hp.2.2.2 k k1 k2 ?_⟩, ?_⟩
  · rw [r, ds_sh, ds_sh, hp.2.2.1]
  · rw [r, ds_sh, ds_sh] at hk
    exact hk
  · unfold drift
    rw [r, sh_at (by rw [rep_len]; exact h0), sh_at h0]
    omega
end MR

set_option Elab.async false
set_option linter.all false
set_option maxRecDepth 100000
set_option maxHeartbeats 1000000
namespace MR
open PySem PySem.Spec PyProof.Rows L2
variable [Tq]
local macro_rules | `(tactic| walk_at "npin") => `(tactic| first | rfl | exact np_at rfl (by assumption))
local macro_rules | `(tactic| walk_at "isi") => `(tactic| first
  | with_reducible refine isi_int_n ?_
  | with_reducible refine isi_int_b ?_
  | with_reducible refine isi_int_i ?_
  | with_reducible refine isi_int_s ?_
  | with_reducible refine isi_int_l ?_
  | with_reducible refine isi_int_t ?_
  | ((with_reducible apply isi_int_o); rfl)
  | with_reducible refine isi_bool_n ?_
  | with_reducible refine isi_bool_b ?_
  | with_reducible refine isi_bool_i ?_
  | with_reducible refine isi_bool_s ?_
  | with_reducible refine isi_bool_l ?_
  | with_reducible refine isi_bool_t ?_
  | ((with_reducible apply isi_bool_o); rfl)
  | with_reducible refine isi_str_n ?_
  | with_reducible refine isi_str_b ?_
  | with_reducible refine isi_str_i ?_
  | with_reducible refine isi_str_s ?_
  | with_reducible refine isi_str_l ?_
  | with_reducible refine isi_str_t ?_
  | ((with_reducible apply isi_str_o); rfl)
  | with_reducible refine isi_tuple_n ?_
  | with_reducible refine isi_tuple_b ?_
  | with_reducible refine isi_tuple_i ?_
  | with_reducible refine isi_tuple_s ?_
  | with_reducible refine isi_tuple_l ?_
  | with_reducible refine isi_tuple_t ?_
  | ((with_reducible apply isi_tuple_o); rfl)
  | with_reducible refine isi_list_n ?_
  | with_reducible refine isi_list_b ?_
  | with_reducible refine isi_list_i ?_
  | with_reducible refine isi_list_s ?_
  | with_reducible refine isi_list_l ?_
  | with_reducible refine isi_list_t ?_
  | ((with_reducible apply isi_list_o); rfl))
local macro_rules | `(tactic| walk_at "nset") => `(tactic| try simp only [List.set_cons_succ, List.set_cons_zero])
local macro_rules | `(tactic| walk_at "w1") => `(tactic| first
  | with_reducible refine ws_seq ?_
  | with_reducible refine seqK_nx ?_
  | with_reducible refine seqK_ret ?_
  | with_reducible refine ws_skip ?_
  | with_reducible refine ws_expr ?_
  | with_reducible refine exK_val ?_
  | with_reducible refine exK_new ?_
  | with_reducible refine exK_err ?_
  | with_reducible refine seqK_err ?_
  | with_reducible refine rtK_err ?_
  | with_reducible refine setK_err ?_
  | with_reducible refine retV_err ?_
  | ((with_reducible refine retO_err ?_); walk_at "nset")
  | ((with_reducible refine defK_err ?_); try dsimp only [outsOf, List.zipWith])
  | with_reducible refine ws_raise1 ?_
  | with_reducible refine raK_int ?_
  | with_reducible refine we_errOf ?_
  | with_reducible refine eofK_val ?_
  | with_reducible refine eofK_new ?_
  | with_reducible refine ws_ret ?_
  | with_reducible refine rtK_val ?_
  | with_reducible refine rtK_new ?_
  | with_reducible refine rtK_slot ?_
  | with_reducible refine ws_set ?_
  | ((with_reducible apply setK_val); walk_at "npin"; walk_at "nset")
  | ((with_reducible apply setK_new); walk_at "npin"; walk_at "nset")
  | with_reducible refine ws_if ?_
  | with_reducible refine we_c ?_
  | ((with_reducible apply we_var); rfl)
  | ((with_reducible apply we_varo); rfl)
  | with_reducible refine we_op ?_
  | with_reducible refine opK1_val ?_
  | with_reducible refine opK1_new ?_
  | with_reducible refine opK1_slot ?_
  | with_reducible refine opK2_vv xAdd ?_
  | with_reducible refine opK2_vv xSub ?_
  | with_reducible refine opK2_vv xLt ?_
  | with_reducible refine opK2_vv xLe ?_
  | with_reducible refine opK2_vv xGt ?_
  | with_reducible refine opK2_vv xGe ?_
  | with_reducible refine opK2_vv xEq ?_
  | with_reducible refine opK2_vv xNe ?_
  | with_reducible refine opK2_vv xIsN ?_
  | with_reducible refine opK2_vv xNotN ?_
  | with_reducible refine we_un ?_
  | with_reducible refine unK_val xNeg ?_
  | (with_reducible refine we_isi ?_)
  | with_reducible refine we_not ?_
  | with_reducible refine notK_t ?_
  | with_reducible refine notK_f ?_
  | with_reducible refine notK_b ?_
  | with_reducible refine we_and ?_
  | with_reducible refine andK_t ?_
  | with_reducible refine andK_f ?_
  | with_reducible refine we_or ?_
  | with_reducible refine orK_t ?_
  | with_reducible refine orK_f ?_
  | with_reducible refine we_ifE ?_
  | with_reducible refine ifEK_t ?_
  | with_reducible refine ifEK_f ?_
  | with_reducible refine ifK_t ?_
  | with_reducible refine ifK_f ?_
  | with_reducible refine we_fn ?_
  | with_reducible refine we_call ?_
  | walk_at "spec"
  | with_reducible refine wa_cons ?_
  | with_reducible refine wa_nil ?_
  | with_reducible refine argK_val ?_
  | with_reducible refine argK_new ?_
  | with_reducible refine argK_slot ?_
  | with_reducible refine argK2_val ?_
  | ((with_reducible apply argK2_slot); rfl)
  | with_reducible refine fnK_v xLenTI ?_
  | with_reducible refine fnK_v xLenLI ?_
  | ((with_reducible apply fnK_s (h := xLenLI)); rfl)
  | with_reducible refine fnK_v xLenT ?_
  | with_reducible refine fnK_v xLenL ?_
  | ((with_reducible apply fnK_s (h := xLenL)); rfl)
  | with_reducible refine fnK_v xTupL ?_
  | with_reducible refine fnK_v xTupT ?_
  | ((with_reducible apply fnK_s (h := xTupL)); rfl)
  | with_reducible refine fnK_v xLstL ?_
  | with_reducible refine fnK_v xLstT ?_
  | ((with_reducible apply fnK_s (h := xLstL)); rfl)
  | with_reducible refine fnK_v xAbs ?_
  | with_reducible refine fnK_vv xGcd ?_
  | with_reducible refine callK_v1 ?_
  | with_reducible refine callK_v2 ?_
  | with_reducible refine callK_v3 ?_
  | ((with_reducible apply callK_o0); rfl)
  | ((with_reducible apply callK_o1); rfl)
  | ((with_reducible apply callK_o2); rfl)
  | with_reducible refine retV_val ?_
  | with_reducible refine retV_new ?_
  | ((with_reducible refine retO_val ?_); walk_at "nset")
  | ((with_reducible refine retO_new ?_); walk_at "nset")
  | with_reducible refine we_tup ?_
  | with_reducible refine we_lst ?_
  | with_reducible refine wt_cons ?_
  | with_reducible refine wt_nil ?_
  | with_reducible refine takK_val ?_
  | with_reducible refine takK_new ?_
  | with_reducible refine tcK_ok ?_
  | with_reducible refine tupK_ok ?_
  | with_reducible refine ws_for ?_
  | with_reducible refine wi_rg ?_
  | with_reducible refine wi_seq ?_
  | with_reducible refine wi_enum ?_
  | with_reducible refine wi_zip2 ?_
  | with_reducible refine wi_zip3 ?_
  | with_reducible refine zipK2_tt ?_
  | with_reducible refine zipK2_tl ?_
  | with_reducible refine zipK2_ll ?_
  | with_reducible refine zipK3_tll ?_
  | with_reducible refine wi_rg3 ?_
  | with_reducible refine unK_val xBackT ?_
  | with_reducible refine unK_val xBackL ?_
  | with_reducible refine itK_list ?_
  | with_reducible refine itK_tuple ?_
  | with_reducible refine itK_new ?_
  | ((with_reducible apply itK_slot); rfl)
  | with_reducible refine enK_l ?_
  | with_reducible refine enK_t ?_
  | with_reducible refine forK_n ?_
  | with_reducible refine we_lc ?_
  | ((with_reducible apply wg_nm); walk_at "npin"; walk_at "nset")
  | with_reducible refine wg_tup rfl ?_
  | with_reducible refine wgs_cons ?_
  | with_reducible refine wgs_nil ?_
  | with_reducible refine lcT_t ?_
  | ((with_reducible apply lcE_val); rfl)
  | ((with_reducible apply lcE_new); rfl)
  | with_reducible refine we_cat ?_
  | with_reducible refine catK1_new ?_
  | with_reducible refine catK1_slot ?_
  | with_reducible refine catK1_list ?_
  | with_reducible refine ws_par ?_
  | ((with_reducible apply parK_ok); walk_at "npin"; walk_at "npin"; walk_at "nset")
  | with_reducible refine lpK_nx ?_
  | with_reducible refine lpK_ret ?_
  | with_reducible refine ws_asg ?_
  | with_reducible refine asgK_val ?_
  | with_reducible refine we_cut ?_
  | with_reducible refine cutK_val ?_
  | with_reducible refine cutK_new ?_
  | with_reducible refine cutK_slot ?_
  | with_reducible refine wp_none ?_
  | with_reducible refine wp_some ?_
  | with_reducible refine ptK_int ?_
  | with_reducible refine cutK2_t ?_
  | with_reducible refine cutK2_l ?_
  | ((with_reducible apply cutK2_s); rfl)
  | with_reducible refine we_meth ?_
  | with_reducible refine mthK_t ?_
  | with_reducible refine mthK_l ?_
  | with_reducible refine mthK_n ?_
  | with_reducible refine mthK_s ?_
  | with_reducible refine opK2_vv xCntT ?_
  | with_reducible refine opK2_vv xCntL ?_
  | ((with_reducible apply opK2_sv (h := xCntL)); rfl)
  | with_reducible refine we_frz ?_
  | walk_at "isi"
  | with_reducible refine frzK_val ?_
  | with_reducible refine frzK_new ?_
  | ((with_reducible apply we_mut); rfl)
  | with_reducible refine ws_setIx ?_
  | ((with_reducible apply sixK_val); rfl)
  | ((with_reducible apply ws_aug); rfl)
  | ((with_reducible refine defK_val ?_); try dsimp only [outsOf, List.zipWith])
  | ((with_reducible refine defK_new ?_); try dsimp only [outsOf, List.zipWith])
  | ((with_reducible refine defK_nx ?_); try dsimp only [outsOf, List.zipWith])
  | ((with_reducible apply defK_slot); rfl; try dsimp only [outsOf, List.zipWith])
  | ((with_reducible refine wf_def ?_); try simp only [List.length_cons, List.length_nil, List.cons_append, List.nil_append, Nat.reduceAdd, Nat.reduceSub, List.reduceReplicate]))
local macro_rules | `(tactic| walk_at "wp") => `(tactic| repeat (walk_at "w1"))
local macro_rules | `(tactic| walk_at "wt") => `(tactic| repeat (first | with_reducible refine wt_nil ?_ | with_reducible refine wt_cons ?_ | with_reducible refine takK_val ?_ | with_reducible refine takK_new ?_ | with_reducible refine tcK_ok ?_ | with_reducible refine tupK_ok ?_ | ((with_reducible apply parK_ok); walk_at "npin"; walk_at "npin"; walk_at "nset")))
local macro_rules | `(tactic| walk_at "wipe") => `(tactic| simp only [wipeE, unwipe, List.getD_cons_succ, List.getD_cons_zero, List.set_cons_succ, List.set_cons_zero])
local macro_rules | `(tactic| walk_at "spec") => `(tactic| fail)
/-! ### the numbers of orders -/
def fct (n : Nat) : Int := ((Builtin.Math.factorialNat n : Nat) : Int)
def co (l : List Int) : Int := (usort l).foldl (fun n s => n / fct (l.count s)) (fct l.length)
def cr (ms P : List Int) : Int := (arcs ms P).foldl (fun n l => n * co l) 1
theorem fct_ok {n : Nat} (h : n ≤ 16) : 0 < fct n ∧ fct n < 18446744073709551616 := by
  have : ∀ k : Fin 17, 0 < fct k.val ∧ fct k.val < 18446744073709551616 := by decide +kernel
  exact this ⟨n, by omega⟩
theorem div_down {l : List Int} (h : l.length ≤ 16) : ∀ (us : List Int) (n : Int), 0 ≤ n → 0 ≤ us.foldl (fun n s => n / fct (l.count s)) n ∧ us.foldl (fun n s => n / fct (l.count s)) n ≤ n
  | [], n, h0 => ⟨h0, Int.le_refl _⟩
  | s :: us, n, h0 => by
    have c := fct_ok (n := l.count s) (Nat.le_trans List.count_le_length h)
    have d0 : 0 ≤ n / fct (l.count s) := Int.ediv_nonneg h0 (by omega)
    have d1 : n / fct (l.count s) ≤ n := Int.ediv_le_self _ h0
    have := div_down h us _ d0
    exact ⟨this.1, Int.le_trans this.2 d1⟩
theorem co_ok {l : List Int} (h : l.length ≤ 16) : 0 ≤ co l ∧ co l < 18446744073709551616 := by
  have c := fct_ok h
  have := div_down h (usort l) (fct l.length) (by omega)
  exact ⟨this.1, Int.lt_of_le_of_lt this.2 c.2⟩
theorem xFactN {n : Nat} (h : n ≤ 16) : gFact [.int (n : Int)] = some (.val (.int (fct n))) := xFact h
theorem map_cons_inv {us : List Int} {d : D} {ds : List D} (h : d :: ds = us.map PyData.int) : ∃ s us', us = s :: us' ∧ d = .int s ∧ ds = us'.map PyData.int := by
  cases us with
  | nil => cases h
  | cons s us => injection h with h1 h2; exact ⟨s, us, rfl, h1, h2⟩
theorem map_cons_invL {us : List (List Int)} {d : D} {ds : List D} (h : d :: ds = us.map lD) : ∃ s us', us = s :: us' ∧ d = lD s ∧ ds = us'.map lD := by
  cases us with
  | nil => cases h
  | cons s us => injection h with h1 h2; exact ⟨s, us, rfl, h1, h2⟩
theorem count_orders_w {R : Rs → List Sl → Prop} {l : List Int} (h : l.length ≤ 16) (q : R (.val (.int (co l))) [.val (.list (l.map PyData.int))]) : WF f_count_orders [.val (.list (l.map PyData.int))] R := by
  unfold f_count_orders
  walk_at "wp"
  refine fnK_v (xFactN h) ?_
  walk_at "wp"
  refine fnK_v (xSrtL (by omega)) ?_
  walk_at "wp"
  refine fl_list (I := fun ds e => ∃ (us : List Int) (n : Int) (w : Sl), NP w ∧ ds = us.map PyData.int ∧ us.foldl (fun n s => n / fct (l.count s)) n = co l ∧ e = [.val (.list (l.map PyData.int)), .val (.int n), w]) ?_ ?_ ⟨usort l, fct l.length, .un, by trivial, rfl, rfl, rfl⟩
  · rintro d ds e ⟨us, n, w, gw, h1, h2, rfl⟩
    obtain ⟨s, us, rfl, rfl, rfl⟩ := map_cons_inv h1
    have hc : l.count s ≤ 16 := Nat.le_trans List.count_le_length h
    refine wg_nm (np_at rfl gw) ?_
    walk_at "nset"
    walk_at "wp"
    refine fnK_v (xFactN hc) ?_
    walk_at "wp"
    refine augK_val (xDiv (fct_ok hc)) rfl ?_
    walk_at "wp"
    exact ⟨trivial, us, _, _, by trivial, rfl, h2, rfl⟩
  rintro e ⟨us, n, w, gw, h1, h2, rfl⟩
  obtain rfl : us = [] := by cases us with | nil => rfl | cons s us => cases h1
  walk_at "wp"
  rw [show n = co l from h2]
  exact q
theorem arc_len8 {ms P l : List Int} (hP : Pn P ms.length) (h8 : ms.length ≤ 8) (h : l ∈ arcs ms P) : l.length ≤ 16 := Nat.le_trans (arcs_at hP h h8) (by omega)
theorem count_rings_w {R : Rs → List Sl → Prop} {a P : List Int} (h0 : 0 < a.length) (h8 : a.length ≤ 8) (hP : Pn P a.length) (hn : P ≠ []) (q : R (.val (.int (cr a P))) [.val (.tuple (a.map PyData.int)), .val (.tuple (P.map PyData.int))]) :
    WF f_count_rings [.val (.tuple (a.map PyData.int)), .val (.tuple (P.map PyData.int))] R := by
  unfold f_count_rings
  walk_at "wp"
  refine arcs_between_w h0 h8 hP hn ?_
  walk_at "wp"
  refine fl_list (I := fun ds e => ∃ (ls : List (List Int)) (n : Int) (w : Sl), NP w ∧ (∀ l ∈ ls, l.length ≤ 16) ∧ ds = ls.map lD ∧ ls.foldl (fun n l => n * co l) n = cr a P ∧ e = [.val (.tuple (a.map PyData.int)), .val (.tuple (P.map PyData.int)), .val (.int n), w]) ?_ ?_ ⟨arcs a P, 1, .un, by trivial, fun l hl => arc_len8 hP h8 hl, rfl, rfl, rfl⟩
  · rintro d ds e ⟨ls, n, w, gw, hl, h1, h2, rfl⟩
    obtain ⟨l, ls, rfl, rfl, rfl⟩ := map_cons_invL h1
    have l16 := hl l List.mem_cons_self
    have cb := co_ok l16
    refine wg_nm (np_at rfl gw) ?_
    walk_at "nset"
    walk_at "wp"
    refine count_orders_w l16 ?_
    walk_at "wp"
    refine augK_val (xMul (.inr ⟨by omega, by omega⟩)) rfl ?_
    walk_at "wp"
    exact ⟨trivial, ls, _, _, by trivial, fun l h => hl l (List.mem_cons_of_mem _ h), rfl, h2, rfl⟩
  rintro e ⟨ls, n, w, gw, hl, h1, h2, rfl⟩
  obtain rfl : ls = [] := by cases ls with | nil => rfl | cons s us => cases h1
  walk_at "wp"
  rw [show n = cr a P from h2]
  exact q
theorem count_pinned_w {R : Rs → List Sl → Prop} {a P : List Int} (ha : Mk a) (hP : Pn P a.length) (hn : P ≠ []) (q : R (.val (.int (cr a P))) [.val (.tuple (a.map PyData.int)), .val (.tuple (P.map PyData.int))]) :
    WF f_count_pinned [.val (.tuple (a.map PyData.int)), .val (.tuple (P.map PyData.int))] R := by
  unfold f_count_pinned
  walk_at "wp"
  refine pinned_ring_w ha hP hn ?_
  walk_at "wp"
  refine count_rings_w (mk_pos ha) (mk8 ha) hP hn ?_
  walk_at "wp"
  exact q
end MR

set_option Elab.async false
set_option linter.all false
set_option maxRecDepth 100000
set_option maxHeartbeats 1000000
namespace MR
open PySem PySem.Spec PyProof.Rows L2
variable [Tq]
/-! ### opposite arcs, turned arcs -/
theorem nodup_up {l : List Int} (h : l.Pairwise (· < ·)) : l.Nodup := h.imp fun h => by omega
theorem neg_inj {x y : Int} (h : -1 * x = -1 * y) : x = y := by omega
theorem count_sc (l : List Int) (s : Int) : (sc (-1) l).count (-1 * s) = l.count s := by
  unfold sc
  induction l with
  | nil => rfl
  | cons x l ih =>
    rw [List.map_cons, List.count_cons, List.count_cons, ih]
    congr 1
    by_cases c : x = s
    · subst c; simp
    · have : ¬ (-1 * x = -1 * s) := fun z => c (neg_inj z)
      simp [c, this]
theorem usort_sc (l : List Int) : (usort (sc (-1) l)).Perm ((usort l).map (-1 * ·)) := by
  refine (List.perm_ext_iff_of_nodup (nodup_up (usort_up _)) ?_).mpr fun k => ?_
  · exact List.Pairwise.map _ (fun a b hab z => hab (neg_inj z)) (nodup_up (usort_up l))
  · rw [mem_usort]
    unfold sc
    constructor
    · intro h
      obtain ⟨x, hx, rfl⟩ := List.mem_map.mp h
      exact List.mem_map.mpr ⟨x, mem_usort.mpr hx, rfl⟩
    · intro h
      obtain ⟨x, hx, rfl⟩ := List.mem_map.mp h
      exact List.mem_map.mpr ⟨x, mem_usort.mp hx, rfl⟩
theorem div_swap {n a b : Int} (ha : 0 < a) (hb : 0 < b) : n / a / b = n / b / a := by
  rw [Int.ediv_ediv_of_nonneg (by omega), Int.ediv_ediv_of_nonneg (by omega), Int.mul_comm]
theorem co_sc {l : List Int} (h : l.length ≤ 16) : co (sc (-1) l) = co l := by
  unfold co
  rw [sc_len]
  have p := usort_sc l
  have pos : ∀ s, 0 < fct ((sc (-1) l).count s) := fun s => (fct_ok (Nat.le_trans List.count_le_length (by rw [sc_len]; exact h))).1
  rw [p.foldl_eq' (f := fun n s => n / fct ((sc (-1) l).count s)) (fun x _ y _ z => div_swap (pos x) (pos y)), List.foldl_map]
  congr 1
  funext n s
  rw [count_sc]
theorem arcs_sc {a P : List Int} : arcs (sc (-1) a) P = (arcs a P).map (sc (-1)) := by
  unfold arcs
  rw [sc_len, List.map_zipWith]
  congr 1
  funext p e
  unfold arcI
  rw [sc_len, ds_sc]
  unfold sc
  rw [List.map_map]
  refine List.map_congr_left fun k _ => ?_
  show ((ds a).map (-1 * ·)).getD _ 0 = -1 * (ds a).getD _ 0
  rw [List.getD_eq_getElem?_getD, List.getD_eq_getElem?_getD, List.getElem?_map]
  cases (ds a)[(p.toNat + k) % a.length]? <;> simp
theorem cr_sc {a P : List Int} (hP : Pn P a.length) (h8 : a.length ≤ 8) : cr (sc (-1) a) P = cr a P := by
  unfold cr
  rw [arcs_sc, List.foldl_map]
  have : ∀ (ls : List (List Int)) (n : Int), (∀ l ∈ ls, l.length ≤ 16) → ls.foldl (fun n l => n * co (sc (-1) l)) n = ls.foldl (fun n l => n * co l) n := by
    intro ls
    induction ls with
    | nil => intro n _; rfl
    | cons l ls ih =>
      intro n h
      rw [List.foldl_cons, List.foldl_cons, co_sc (h l List.mem_cons_self)]
      exact ih _ fun l h' => h l (List.mem_cons_of_mem _ h')
  exact this _ _ fun l hl => arc_len8 hP h8 hl
/-- how far it is from a pinned seat to the next -/
def nd (n : Nat) (ps : List Nat) (p : Nat) : Nat := (((List.range n).find? fun d => ps.any (· == (p + d + 1) % n)).getD 0) + 1
def arcN (a : List Int) (ps : List Nat) (p : Nat) : List Int := (List.range (nd a.length ps p)).map fun k => (ds a).getD ((p + k) % a.length) 0
theorem any_nat {ps : List Nat} {x : Nat} : ps.any (· == x) = true ↔ x ∈ ps := by
  rw [List.any_eq_true]
  exact ⟨fun ⟨y, h1, h2⟩ => by rw [← eq_of_beq h2]; exact h1, fun h => ⟨x, h, beq_self_eq_true x⟩⟩
theorem nd_is {n p d : Nat} {ps : List Nat} (h1 : 1 ≤ d) (h2 : d ≤ n) (h3 : (p + d) % n ∈ ps) (h4 : ∀ k, 1 ≤ k → k < d → (p + k) % n ∉ ps) : nd n ps p = d := by
  unfold nd
  have : (List.range n).find? (fun d => ps.any (· == (p + d + 1) % n)) = some (d - 1) := by
    rw [List.find?_range_eq_some]
    refine ⟨any_nat.mpr (by rw [show p + (d - 1) + 1 = p + d by omega]; exact h3), List.mem_range.mpr (by omega), fun j hj => ?_⟩
    have := h4 (j + 1) (by omega) (by omega)
    rw [← Nat.add_assoc] at this
    rw [Bool.not_eq_true', Bool.eq_false_iff]
    exact fun z => this (any_nat.mp z)
  rw [this]
  show d - 1 + 1 = d
  omega
theorem tn_mem {P : List Int} {n x : Nat} (hP : Pn P n) : x ∈ P.map Int.toNat ↔ ∃ j, j < P.length ∧ P.getD j 0 = (x : Int) := by
  rw [List.mem_map]
  constructor
  · rintro ⟨i, hi, rfl⟩
    obtain ⟨j, hj, rfl⟩ := List.mem_iff_getElem.mp hi
    have := (hP.ran _ hi).1
    exact ⟨j, hj, by rw [getD_eq hj]; omega⟩
  · rintro ⟨j, hj, h⟩
    exact ⟨P.getD j 0, getD_mem hj, by rw [h]; rfl⟩
theorem Pn.le {P : List Int} {n i j : Nat} (h : Pn P n) (hij : i ≤ j) (hj : j < P.length) : P.getD i 0 ≤ P.getD j 0 := by
  rcases Nat.lt_or_ge i j with z | z
  · exact Int.le_of_lt (h.lt z hj)
  · rw [show i = j by omega]
    exact Int.le_refl _
theorem nd_at {P : List Int} {n k : Nat} (hP : Pn P n) (hk : k < P.length) : nd n (P.map Int.toNat) (P.getD k 0).toNat = ((ends P n).getD k 0 - P.getD k 0).toNat := by
  obtain ⟨a1, a2, a3, a4⟩ := hP.arc hk
  have at0 := hP.at (i := 0) (by omega)
  have atk := hP.at hk
  refine nd_is (by omega) (by omega) ?_ fun d h1 h2 hm => ?_
  · rw [tn_mem hP]
    by_cases c : k + 1 < P.length
    · rw [ends_lt c] at a2 ⊢
      have := hP.at c
      exact ⟨k + 1, c, by rw [Nat.mod_eq_of_lt (by omega)]; omega⟩
    · rw [ends_last (by omega)] at a2 ⊢
      refine ⟨0, by omega, ?_⟩
      rw [Nat.mod_eq_sub_mod (by omega), Nat.mod_eq_of_lt (by omega)]
      omega
  · obtain ⟨j, hj, e⟩ := (tn_mem hP).mp hm
    have atj := hP.at hj
    by_cases c : k + 1 < P.length
    · rw [ends_lt c] at h2
      have := hP.at c
      rw [Nat.mod_eq_of_lt (by omega)] at e
      rcases Nat.lt_or_ge k j with z | z
      · have := hP.le (i := k + 1) z hj
        omega
      · have := hP.le z hk
        omega
    · rw [ends_last (by omega)] at h2
      have l1 := hP.le (i := j) (j := k) (by omega) hk
      have l0 := hP.le (i := 0) (Nat.zero_le j) hj
      by_cases c2 : (P.getD k 0).toNat + d < n
      · rw [Nat.mod_eq_of_lt c2] at e
        omega
      · rw [Nat.mod_eq_sub_mod (by omega), Nat.mod_eq_of_lt (by omega)] at e
        omega
theorem arcs_nd {a P : List Int} (hP : Pn P a.length) (hn : P ≠ []) : arcs a P = (P.map Int.toNat).map (arcN a (P.map Int.toNat)) := by
  have l := ends_len (n := a.length) hn
  refine List.ext_getElem? fun k => ?_
  by_cases hk : k < P.length
  · unfold arcs
    rw [List.getElem?_zipWith, List.getElem?_eq_getElem hk, List.getElem?_eq_getElem (l ▸ hk), List.getElem?_map, List.getElem?_map, List.getElem?_eq_getElem hk]
    show some (arcI a P[k] _) = some (arcN a _ P[k].toNat)
    have e := nd_at hP hk
    rw [getD_eq hk, getD_eq (l ▸ hk)] at e
    unfold arcI arcN
    rw [e]
  · rw [List.getElem?_eq_none (by rw [arcs_len hn]; omega), List.getElem?_eq_none (by simp; omega)]
theorem dn_eq {t n x : Nat} (ht : t < n) (hx : x < n) : dn t n x = (x + (n - t)) % n := by
  unfold dn
  split
  · rw [Nat.mod_eq_sub_mod (by omega), Nat.mod_eq_of_lt (by omega)]; omega
  · rw [Nat.mod_eq_of_lt (by omega)]; omega
theorem dn_add {t n x j : Nat} (ht : t < n) (hx : x < n) : (dn t n x + j) % n = dn t n ((x + j) % n) := by
  rw [dn_eq ht hx, dn_eq ht (Nat.mod_lt _ (by omega)), Nat.mod_add_mod, Nat.mod_add_mod]
  congr 1
  omega
theorem dn_inj {t n x y : Nat} (ht : t < n) (hx : x < n) (hy : y < n) (h : dn t n x = dn t n y) : x = y := by
  rw [← up_dn ht hx, h, up_dn ht hy]
theorem nd_mem {n p : Nat} {ps qs : List Nat} (h : ∀ x, x ∈ ps ↔ x ∈ qs) : nd n ps p = nd n qs p := by
  unfold nd
  have : (fun d => ps.any (· == (p + d + 1) % n)) = fun d => qs.any (· == (p + d + 1) % n) := by
    funext d
    rw [Bool.eq_iff_iff, any_nat, any_nat]
    exact h _
  rw [this]
theorem nd_dn {n t p : Nat} {ps : List Nat} (ht : t < n) (hp : p < n) (h : ∀ x ∈ ps, x < n) : nd n (ps.map (dn t n)) (dn t n p) = nd n ps p := by
  unfold nd
  have : (fun d => (ps.map (dn t n)).any (· == (dn t n p + d + 1) % n)) = fun d => ps.any (· == (p + d + 1) % n) := by
    funext d
    rw [Bool.eq_iff_iff, any_nat, any_nat, Nat.add_assoc, dn_add ht hp, ← Nat.add_assoc]
    constructor
    · intro z
      obtain ⟨y, hy, e⟩ := List.mem_map.mp z
      rw [← dn_inj ht (h y hy) (Nat.mod_lt _ (by omega)) e]
      exact hy
    · exact fun z => List.mem_map.mpr ⟨_, z, rfl⟩
  rw [this]
theorem arcN_dn {a : List Int} {t p : Nat} {ps : List Nat} (ht : t < a.length) (hp : p < a.length) (h : ∀ x ∈ ps, x < a.length) : arcN (rot t a) (ps.map (dn t a.length)) (dn t a.length p) = arcN a ps p := by
  unfold arcN
  rw [rot_len, nd_dn ht hp h]
  refine List.map_congr_left fun k _ => ?_
  have hm : (p + k) % a.length < a.length := Nat.mod_lt _ (by omega)
  rw [dn_add ht hp, dsv_at (by rw [rot_len]; exact dn_lt ht hm), dAt_rot ht (dn_lt ht hm), up_dn ht hm, dsv_at hm]
theorem toNat_sI (l : List Nat) : (sI l).map Int.toNat = l := by
  unfold sI
  rw [List.map_map]
  exact (List.map_congr_left fun x _ => rfl).trans (List.map_id _)
/-- the pinned seats of the turned ring -/
def pinsT (t n : Nat) (P : List Int) : List Int := sortI (sI ((P.map Int.toNat).map (dn t n)))
theorem tn_lt {P : List Int} {n : Nat} (hP : Pn P n) : ∀ x ∈ P.map Int.toNat, x < n := fun x hx => by
  obtain ⟨j, hj, e⟩ := (tn_mem hP).mp hx
  have := hP.at hj
  omega
theorem pinsT_pn {t n : Nat} {P : List Int} (ht : t < n) (hP : Pn P n) : Pn (pinsT t n P) n := by
  refine sortI_pn ?_ fun i hi => ?_
  · rw [List.map_map]
    refine List.Pairwise.map _ (fun _ _ h => h) (List.Pairwise.imp_of_mem (R := (· < ·)) (fun {a b} ha hb h z => ?_) hP.up : List.Pairwise (fun a b => (dn t n ∘ Int.toNat) a ≠ (dn t n ∘ Int.toNat) b) P)
    have ra := hP.ran a ha
    have rb := hP.ran b hb
    have := dn_inj ht (by omega) (by omega) z
    omega
  · obtain ⟨x, hx, rfl⟩ := List.mem_map.mp hi
    exact dn_lt ht (tn_lt hP x hx)
theorem pinsT_ne {t n : Nat} {P : List Int} (hn : P ≠ []) : pinsT t n P ≠ [] := fun z => by
  have := congrArg List.length z
  unfold pinsT at this
  rw [sortI_len, sI_len, List.length_map, List.length_map] at this
  exact hn (List.length_eq_zero_iff.mp this)
theorem arcs_rot {a P : List Int} {t : Nat} (ht : t < a.length) (hP : Pn P a.length) (hn : P ≠ []) : (arcs (rot t a) (pinsT t a.length P)).Perm (arcs a P) := by
  have hQ := pinsT_pn ht hP
  rw [arcs_nd hP hn, arcs_nd (by rw [rot_len]; exact hQ) (pinsT_ne hn)]
  have p : ((pinsT t a.length P).map Int.toNat).Perm ((P.map Int.toNat).map (dn t a.length)) := by
    have := (sortI_perm (sI ((P.map Int.toNat).map (dn t a.length)))).map Int.toNat
    rw [toNat_sI] at this
    exact this
  have e : arcN (rot t a) ((pinsT t a.length P).map Int.toNat) = arcN (rot t a) ((P.map Int.toNat).map (dn t a.length)) := by
    funext x
    unfold arcN
    rw [nd_mem fun x => p.mem_iff]
  rw [e]
  refine (p.map _).trans ?_
  rw [List.map_map]
  refine List.Perm.of_eq (List.map_congr_left fun x hx => ?_)
  exact arcN_dn ht (tn_lt hP x hx) (tn_lt hP)
theorem cr_rot {a P : List Int} {t : Nat} (ht : t < a.length) (hP : Pn P a.length) (hn : P ≠ []) : cr (rot t a) (pinsT t a.length P) = cr a P :=
  (arcs_rot ht hP hn).foldl_eq' (fun x _ y _ z => Int.mul_right_comm z _ _) 1
end MR

set_option Elab.async false
set_option linter.all false
set_option maxRecDepth 100000
set_option maxHeartbeats 2000000
/-! y = [..] let go as plain data; a comprehension in a comprehension whose names are cells outside -/
namespace MR
open PySem PySem.Spec PyProof.Rows L2
variable [Tq]
theorem frz_cases {f : Ev} {e e1 : Env} {r : Rs} (h : sFrz f e = some (r, e1)) : (∃ x, r = .err x ∧ f e = some (.err x, e1)) ∨ ∃ r0 e0 d, f e = some (r0, e0) ∧ (∀ x, r0 ≠ .err x) ∧ tk r0 e0 = some (d, e1) ∧ r = .val d := by
  unfold sFrz at h
  cases hf : f e with
  | none => rw [hf] at h; cases h
  | some q =>
    obtain ⟨r1, e2⟩ := q
    rw [hf] at h
    have go : (∀ x, r1 ≠ .err x) → (tk r1 e2).map (fun q : D × Env => (Rs.val q.1, q.2)) = some (r, e1) → ∃ r0 e0 d, some (r1, e2) = some (r0, e0) ∧ (∀ x, r0 ≠ .err x) ∧ tk r0 e0 = some (d, e1) ∧ r = .val d := fun hn h => by
      cases ht : tk r1 e2 with
      | none => rw [ht] at h; cases h
      | some q => rw [ht] at h; cases h; exact ⟨r1, e2, q.1, rfl, hn, ht, rfl⟩
    cases r1 with
    | err x => cases h; exact .inl ⟨x, rfl, rfl⟩
    | _ => exact .inr (go nofun h)
section
variable {X : Fm} {W : WX} {s scope : Scope} {tg iter elt : Expr} {ifs : List Expr} {own : List (Str × Nat)} {vs : List Nat} {fi : Iv} {g : Tgt} {ft fe : Ev} {pos : Pos} {N0 : List Str}
theorem sd_setLcF {js : List Nat} {y : Str} {n : Nat} {py spos : Pos} (hc : ∀ i, (X.C i).calm = true) (hN : ∀ i, (X.C i).N.Nodup) (hy : ∀ i, (X.C i).N[n]? = some y) (hyl : ∀ i, (X.C i).env.scope.names.lookup y = some .local)
    (hsw : ∀ i, swapsWith (.ListComp elt [⟨tg, iter, ifs, 0⟩] scope pos) (some (.Name y py)) spos.line (X.C i).env = pure true) (hi : PID X W tg iter fi) (ok : ∀ i, BlkOk (X.C i).N (X.C i).env.scope scope own) (hv : own.map (·.2) = vs) (hg : PGD (X.blk scope) tg g js) (hjs : ∀ j ∈ js, j ∈ vs)
    (ht : TsD (X.blk scope) ifs ft) (he : PD (X.blk scope) W0 elt fe) (hs : ∀ i x, foldedSetIterable iter (X.C i).env x = pure x := by intro _ _; rfl) : SD X W (.Assign [.Name y py] (.ListComp elt [⟨tg, iter, ifs, 0⟩] scope pos) spos) (sSet n (sFrz (sLc fi g ft fe vs))) := by
  obtain ⟨wi, pi, ki⟩ := hi
  obtain ⟨tgt, pg, kg⟩ := hg
  obtain ⟨tt, pt, kt⟩ := ht
  obtain ⟨te, pe, ke⟩ := he
  subst hv
  refine ⟨_, fun i => ps_setLc (hc i) (hN i) (hy i) (hyl i) (hsw i) (pi i) (ok i) (fun s H C cl fp => pg (i, s, H, C, cl, fp)) (fun s H C cl fp => pt (i, s, H, C, cl, fp)) (fun s H C cl fp => pe (i, s, H, C, cl, fp)) (hs i), fun F H σ e O o e' Dn s h k => ?_⟩
  rcases sSet_cases h with ⟨x, h1, rfl⟩ | ⟨xs, e1, h1, c, rfl, rfl⟩ | ⟨r, e1, d, e2, h1, n1, hd, c, rfl, rfl⟩
  · rcases frz_cases h1 with ⟨x', z, h0⟩ | ⟨r0, e0, d0, h0, _, _, z⟩
    · cases z
      exact lc_all ki kg hjs kt ke s h0 (fun v F' H' O' t q => q.elim) (er_out k)
    · cases z
  · rcases frz_cases h1 with ⟨x', z, h0⟩ | ⟨r0, e0, d0, h0, _, _, z⟩
    · cases z
    · cases z
  · rcases frz_cases h1 with ⟨x', z, h0⟩ | ⟨r0, e0, d0, h0, hn, hd0, z⟩
    · exact absurd z (n1 x')
    · subst z
      cases hd
      refine lc_all ki kg hjs kt ke s h0 (fun v F1 H1 O1 t q => ?_) (fun x _ _ _ _ _ y => absurd y (hn x))
      obtain ⟨F2, O2, t2, hd2, _⟩ := take_ok t q hd0
      obtain ⟨O3, t3⟩ := set_val t2 c hd2
      exact k _ _ _ _ t3
def rlS (s t : Scope) : Scope := { s with names := s.names.map fun (n, k) => if (k == .free && t.kind == .function && t.names.lookup n == some .cell) then (n, .cell) else (n, k) }
theorem pd_lc2C {t : Scope} {js : List Nat} (hc : ∀ i, (X.C i).calm = true) (ht0 : ∀ i, (X.C i).env.scope = t) (hNN : ∀ i, (X.C i).N = N0) (hN : N0.Nodup) (hi : PID (X.blk s) W tg iter fi) (ok : BlkOk N0 (rlS s t) scope own) (hv : own.map (·.2) = vs) (hg : PGD ((X.blk s).blk scope) tg g js) (hjs : ∀ j ∈ js, j ∈ vs)
    (ht : TsD ((X.blk s).blk scope) ifs ft) (he : PD ((X.blk s).blk scope) W0 elt fe) (hs : ∀ i x, foldedSetIterable iter ((X.blk s).C i).env x = pure x := by intro _ _; rfl) : PD (X.blk s) W (.ListComp elt [⟨tg, iter, ifs, 0⟩] scope pos) (sLc fi g ft fe vs) :=
  pd_lc (fun i => hc i.1) (fun i => by show ((X.C i.1).N).Nodup; rw [hNN]; exact hN) hi (fun i => by
    have e : ((X.blk s).C i).env.scope = rlS s t := by
      show relabel s (X.C i.1).env = rlS s t
      unfold relabel rlS Env.kindOf
      rw [ht0]
    rw [e]
    show BlkOk ((X.C i.1).N) (rlS s t) scope own
    rw [hNN]
    exact ok) hv hg hjs ht he hs
end
end MR

set_option Elab.async false
set_option linter.all false
set_option maxRecDepth 100000
set_option maxHeartbeats 1000000
namespace MR
open PySem PySem.Spec PyProof.Rows L2
variable [Tq]
local macro_rules | `(tactic| walk_at "npin") => `(tactic| first | rfl | exact np_at rfl (by assumption))
local macro_rules | `(tactic| walk_at "isi") => `(tactic| first
  | with_reducible refine isi_int_n ?_
  | with_reducible refine isi_int_b ?_
  | with_reducible refine isi_int_i ?_
  | with_reducible refine isi_int_s ?_
  | with_reducible refine isi_int_l ?_
  | with_reducible refine isi_int_t ?_
  | ((with_reducible apply isi_int_o); rfl)
  | with_reducible refine isi_bool_n ?_
  | with_reducible refine isi_bool_b ?_
  | with_reducible refine isi_bool_i ?_
  | with_reducible refine isi_bool_s ?_
  | with_reducible refine isi_bool_l ?_
  | with_reducible refine isi_bool_t ?_
  | ((with_reducible apply isi_bool_o); rfl)
  | with_reducible refine isi_str_n ?_
  | with_reducible refine isi_str_b ?_
  | with_reducible refine isi_str_i ?_
  | with_reducible refine isi_str_s ?_
  | with_reducible refine isi_str_l ?_
  | with_reducible refine isi_str_t ?_
  | ((with_reducible apply isi_str_o); rfl)
  | with_reducible refine isi_tuple_n ?_
  | with_reducible refine isi_tuple_b ?_
  | with_reducible refine isi_tuple_i ?_
  | with_reducible refine isi_tuple_s ?_
  | with_reducible refine isi_tuple_l ?_
  | with_reducible refine isi_tuple_t ?_
  | ((with_reducible apply isi_tuple_o); rfl)
  | with_reducible refine isi_list_n ?_
  | with_reducible refine isi_list_b ?_
  | with_reducible refine isi_list_i ?_
  | with_reducible refine isi_list_s ?_
  | with_reducible refine isi_list_l ?_
  | with_reducible refine isi_list_t ?_
  | ((with_reducible apply isi_list_o); rfl))
local macro_rules | `(tactic| walk_at "nset") => `(tactic| try simp only [List.set_cons_succ, List.set_cons_zero])
local macro_rules | `(tactic| walk_at "w1") => `(tactic| first
  | with_reducible refine ws_seq ?_
  | with_reducible refine seqK_nx ?_
  | with_reducible refine seqK_ret ?_
  | with_reducible refine ws_skip ?_
  | with_reducible refine ws_expr ?_
  | with_reducible refine exK_val ?_
  | with_reducible refine exK_new ?_
  | with_reducible refine exK_err ?_
  | with_reducible refine seqK_err ?_
  | with_reducible refine rtK_err ?_
  | with_reducible refine setK_err ?_
  | with_reducible refine retV_err ?_
  | ((with_reducible refine retO_err ?_); walk_at "nset")
  | ((with_reducible refine defK_err ?_); try dsimp only [outsOf, List.zipWith])
  | with_reducible refine ws_raise1 ?_
  | with_reducible refine raK_int ?_
  | with_reducible refine we_errOf ?_
  | with_reducible refine eofK_val ?_
  | with_reducible refine eofK_new ?_
  | with_reducible refine ws_ret ?_
  | with_reducible refine rtK_val ?_
  | with_reducible refine rtK_new ?_
  | with_reducible refine rtK_slot ?_
  | with_reducible refine ws_set ?_
  | ((with_reducible apply setK_val); walk_at "npin"; walk_at "nset")
  | ((with_reducible apply setK_new); walk_at "npin"; walk_at "nset")
  | with_reducible refine ws_if ?_
  | with_reducible refine we_c ?_
  | ((with_reducible apply we_var); rfl)
  | ((with_reducible apply we_varo); rfl)
  | with_reducible refine we_op ?_
  | with_reducible refine opK1_val ?_
  | with_reducible refine opK1_new ?_
  | with_reducible refine opK1_slot ?_
  | with_reducible refine opK2_vv xAdd ?_
  | with_reducible refine opK2_vv xSub ?_
  | with_reducible refine opK2_vv xLt ?_
  | with_reducible refine opK2_vv xLe ?_
  | with_reducible refine opK2_vv xGt ?_
  | with_reducible refine opK2_vv xGe ?_
  | with_reducible refine opK2_vv xEq ?_
  | with_reducible refine opK2_vv xNe ?_
  | with_reducible refine opK2_vv xIsN ?_
  | with_reducible refine opK2_vv xNotN ?_
  | with_reducible refine we_un ?_
  | with_reducible refine unK_val xNeg ?_
  | (with_reducible refine we_isi ?_)
  | with_reducible refine we_not ?_
  | with_reducible refine notK_t ?_
  | with_reducible refine notK_f ?_
  | with_reducible refine notK_b ?_
  | with_reducible refine we_and ?_
  | with_reducible refine andK_t ?_
  | with_reducible refine andK_f ?_
  | with_reducible refine we_or ?_
  | with_reducible refine orK_t ?_
  | with_reducible refine orK_f ?_
  | with_reducible refine we_ifE ?_
  | with_reducible refine ifEK_t ?_
  | with_reducible refine ifEK_f ?_
  | with_reducible refine ifK_t ?_
  | with_reducible refine ifK_f ?_
  | with_reducible refine we_fn ?_
  | with_reducible refine we_call ?_
  | walk_at "spec"
  | with_reducible refine wa_cons ?_
  | with_reducible refine wa_nil ?_
  | with_reducible refine argK_val ?_
  | with_reducible refine argK_new ?_
  | with_reducible refine argK_slot ?_
  | with_reducible refine argK2_val ?_
  | ((with_reducible apply argK2_slot); rfl)
  | with_reducible refine fnK_v xLenTI ?_
  | with_reducible refine fnK_v xLenLI ?_
  | ((with_reducible apply fnK_s (h := xLenLI)); rfl)
  | with_reducible refine fnK_v xLenT ?_
  | with_reducible refine fnK_v xLenL ?_
  | ((with_reducible apply fnK_s (h := xLenL)); rfl)
  | with_reducible refine fnK_v xTupL ?_
  | with_reducible refine fnK_v xTupT ?_
  | ((with_reducible apply fnK_s (h := xTupL)); rfl)
  | with_reducible refine fnK_v xLstL ?_
  | with_reducible refine fnK_v xLstT ?_
  | ((with_reducible apply fnK_s (h := xLstL)); rfl)
  | with_reducible refine fnK_v xAbs ?_
  | with_reducible refine fnK_vv xGcd ?_
  | with_reducible refine callK_v1 ?_
  | with_reducible refine callK_v2 ?_
  | with_reducible refine callK_v3 ?_
  | ((with_reducible apply callK_o0); rfl)
  | ((with_reducible apply callK_o1); rfl)
  | ((with_reducible apply callK_o2); rfl)
  | with_reducible refine retV_val ?_
  | with_reducible refine retV_new ?_
  | ((with_reducible refine retO_val ?_); walk_at "nset")
  | ((with_reducible refine retO_new ?_); walk_at "nset")
  | with_reducible refine we_tup ?_
  | with_reducible refine we_lst ?_
  | with_reducible refine wt_cons ?_
  | with_reducible refine wt_nil ?_
  | with_reducible refine takK_val ?_
  | with_reducible refine takK_new ?_
  | with_reducible refine tcK_ok ?_
  | with_reducible refine tupK_ok ?_
  | with_reducible refine ws_for ?_
  | with_reducible refine wi_rg ?_
  | with_reducible refine wi_seq ?_
  | with_reducible refine wi_enum ?_
  | with_reducible refine wi_zip2 ?_
  | with_reducible refine wi_zip3 ?_
  | with_reducible refine zipK2_tt ?_
  | with_reducible refine zipK2_tl ?_
  | with_reducible refine zipK2_ll ?_
  | with_reducible refine zipK3_tll ?_
  | with_reducible refine wi_rg3 ?_
  | with_reducible refine unK_val xBackT ?_
  | with_reducible refine unK_val xBackL ?_
  | with_reducible refine itK_list ?_
  | with_reducible refine itK_tuple ?_
  | with_reducible refine itK_new ?_
  | ((with_reducible apply itK_slot); rfl)
  | with_reducible refine enK_l ?_
  | with_reducible refine enK_t ?_
  | with_reducible refine forK_n ?_
  | with_reducible refine we_lc ?_
  | ((with_reducible apply wg_nm); walk_at "npin"; walk_at "nset")
  | with_reducible refine wg_tup rfl ?_
  | with_reducible refine wgs_cons ?_
  | with_reducible refine wgs_nil ?_
  | with_reducible refine lcT_t ?_
  | ((with_reducible apply lcE_val); rfl)
  | ((with_reducible apply lcE_new); rfl)
  | with_reducible refine we_cat ?_
  | with_reducible refine catK1_new ?_
  | with_reducible refine catK1_slot ?_
  | with_reducible refine catK1_list ?_
  | with_reducible refine ws_par ?_
  | ((with_reducible apply parK_ok); walk_at "npin"; walk_at "npin"; walk_at "nset")
  | with_reducible refine lpK_nx ?_
  | with_reducible refine lpK_ret ?_
  | with_reducible refine ws_asg ?_
  | with_reducible refine asgK_val ?_
  | with_reducible refine we_cut ?_
  | with_reducible refine cutK_val ?_
  | with_reducible refine cutK_new ?_
  | with_reducible refine cutK_slot ?_
  | with_reducible refine wp_none ?_
  | with_reducible refine wp_some ?_
  | with_reducible refine ptK_int ?_
  | with_reducible refine cutK2_t ?_
  | with_reducible refine cutK2_l ?_
  | ((with_reducible apply cutK2_s); rfl)
  | with_reducible refine we_meth ?_
  | with_reducible refine mthK_t ?_
  | with_reducible refine mthK_l ?_
  | with_reducible refine mthK_n ?_
  | with_reducible refine mthK_s ?_
  | with_reducible refine opK2_vv xCntT ?_
  | with_reducible refine opK2_vv xCntL ?_
  | ((with_reducible apply opK2_sv (h := xCntL)); rfl)
  | with_reducible refine we_frz ?_
  | walk_at "isi"
  | with_reducible refine frzK_val ?_
  | with_reducible refine frzK_new ?_
  | ((with_reducible apply we_mut); rfl)
  | with_reducible refine ws_setIx ?_
  | ((with_reducible apply sixK_val); rfl)
  | ((with_reducible apply ws_aug); rfl)
  | ((with_reducible refine defK_val ?_); try dsimp only [outsOf, List.zipWith])
  | ((with_reducible refine defK_new ?_); try dsimp only [outsOf, List.zipWith])
  | ((with_reducible refine defK_nx ?_); try dsimp only [outsOf, List.zipWith])
  | ((with_reducible apply defK_slot); rfl; try dsimp only [outsOf, List.zipWith])
  | ((with_reducible refine wf_def ?_); try simp only [List.length_cons, List.length_nil, List.cons_append, List.nil_append, Nat.reduceAdd, Nat.reduceSub, List.reduceReplicate]))
local macro_rules | `(tactic| walk_at "wp") => `(tactic| repeat (walk_at "w1"))
local macro_rules | `(tactic| walk_at "wt") => `(tactic| repeat (first | with_reducible refine wt_nil ?_ | with_reducible refine wt_cons ?_ | with_reducible refine takK_val ?_ | with_reducible refine takK_new ?_ | with_reducible refine tcK_ok ?_ | with_reducible refine tupK_ok ?_ | ((with_reducible apply parK_ok); walk_at "npin"; walk_at "npin"; walk_at "nset")))
local macro_rules | `(tactic| walk_at "wipe") => `(tactic| simp only [wipeE, unwipe, List.getD_cons_succ, List.getD_cons_zero, List.set_cons_succ, List.set_cons_zero])
local macro_rules | `(tactic| walk_at "spec") => `(tactic| fail)
/-- a ring's data changed -/
def mapR (f : List Int → List Int) : D → D
  | .tuple xs => match intsOf xs with
    | some ns => mD (f ns)
    | none => .none
  | d => d
theorem mapR_m (f : List Int → List Int) (ms : List Int) : mapR f (mD ms) = mD (f ms) := by
  unfold mapR
  simp only [intsOf_ints]
theorem mapR_2 (f : List Int → List Int) (a b : List Int) : [mD a, mD b].map (mapR f) = [mD (f a), mD (f b)] := by
  rw [List.map_cons, List.map_cons, List.map_nil, mapR_m, mapR_m]
theorem two_m {a b : List Int} {d : D} (h : d ∈ [mD a, mD b]) (hb : b.length = a.length) : ∃ x : List Int, x.length = a.length ∧ d = mD x := by
  rcases List.mem_cons.mp h with rfl | h
  · exact ⟨a, rfl, rfl⟩
  · rcases List.mem_cons.mp h with rfl | h
    · exact ⟨b, hb, rfl⟩
    · cases h
theorem map_neg (a : List Int) : a.map (fun x => 0 - x) = sc (-1) a := by
  unfold sc
  exact List.map_congr_left fun x _ => by omega
theorem mk_map {a : List Int} {f : Int → Int} (h3 : 3 ≤ a.length) (h8 : a.length ≤ 8) (h : ∀ x ∈ a, -1000000 ≤ f x ∧ f x ≤ 1000000) : Mk (a.map f) := ⟨by rw [List.length_map]; exact h3, by rw [List.length_map]; exact h8, fun m hm => by
  obtain ⟨x, hx, rfl⟩ := List.mem_map.mp hm
  exact h x hx⟩
theorem mk_sub {a b : List Int} (ha : Mk a) (hl : b.length = a.length) (h : ∀ x ∈ b, x ∈ a) : Mk b := ⟨by rw [hl]; exact ha.1, by rw [hl]; exact ha.2.1, fun m hm => ha.2.2 m (h m hm)⟩
theorem rot_mem {t : Nat} {a : List Int} : ∀ x ∈ rot t a, x ∈ a := fun x hx => by
  unfold rot at hx
  rcases List.mem_append.mp hx with h | h
  · exact List.mem_of_mem_drop h
  · exact List.mem_of_mem_take h
theorem seat_dn {t n s : Nat} (ht : t < n) (hs : s < n) : ((s : Int) - (t : Int)) % (n : Int) = ((dn t n s : Nat) : Int) := by
  unfold dn
  split
  · rw [Int.emod_eq_of_lt (by omega) (by omega)]; omega
  · rw [← Int.add_emod_right, Int.emod_eq_of_lt (by omega) (by omega)]; omega
theorem pinsT_eq {t n : Nat} {P : List Int} (ht : t < n) (hP : Pn P n) : sortI (P.map fun p => (p - (t : Int)) % (n : Int)) = pinsT t n P := by
  unfold pinsT sI
  rw [List.map_map, List.map_map]
  congr 1
  refine List.map_congr_left fun p hp => ?_
  have := hP.ran p hp
  show (p - (t : Int)) % (n : Int) = ((dn t n p.toNat : Nat) : Int)
  rw [← seat_dn ht (by omega), Int.toNat_of_nonneg this.1]
theorem law_true (ns : List Int) (hn : ns.length ≤ 63) : ∃ outs, f_law_k42 [.val (.list (ns.map PyData.int))] = some (.val (.bool true), outs) := by
  have go : WF f_law_k42 [.val (.list (ns.map PyData.int))] (fun r _ => r = .val (.bool true)) := by
    unfold f_law_k42
    simp only [List.map_cons, List.map_nil, List.cons_append, List.nil_append]
    walk_at "wp"
    refine random_w hn fun xs o hs => ?_
    walk_at "wp"
    refine little_w hs (n := 8) (by omega) (by omega) fun ys a hs1 hL => ?_
    have ha : Mk a := hL.mk (by omega)
    have a0 := mk_pos ha
    have a8 := mk8 ha
    have a3 := ha.1
    walk_at "wp"
    refine seats_w (n := a.length) (m := 9) hs1 a0 (by omega) (by omega) fun s2 is hs2 his hil => ?_
    have hil' : is.length ≤ 10000 := by omega
    obtain ⟨m, hp⟩ := per_ex a3 a8 his
    walk_at "wp"
    refine below_w hs2 (by omega) (by omega) fun t s3 hs3 t0 t1 => ?_
    obtain ⟨t, rfl⟩ : ∃ k : Nat, t = k := ⟨t.toNat, by omega⟩
    have ht : t < a.length := by omega
    walk_at "wp"
    refine below_w hs3 (by omega) (by omega) fun c s4 hs4 c0 c1 => ?_
    walk_at "wp"
    refine apply_w ha his ?_
    have hbb := hL.rep (k := 1) (by omega) his (by omega)
    have hbx : ∀ x ∈ refls a is, -600000 ≤ x ∧ x ≤ 600000 := fun x hx => by
      obtain ⟨j, hj, rfl⟩ := List.mem_iff_getElem.mp hx
      have := hbb.2 j (by rw [refls_len] at hj; exact hj)
      rw [show rep a is 1 = refls a is from rfl, getD_eq hj] at this
      exact this
    have hb : Mk (refls a is) := hbb.1
    have lb : (refls a is).length = a.length := refls_len _ _
    have hax : ∀ x ∈ a, 0 ≤ x ∧ x < 30 := hL.2.2
    obtain ⟨b, eb⟩ : ∃ b, refls a is = b := ⟨_, rfl⟩
    rw [eb] at hbx hb lb ⊢
    walk_at "wt"
    walk_at "wp"
    refine lcK_n (by rfl) (by simp) ?_
    walk_at "wipe"
    refine ll_map (Fn := mapR (rot t)) (fun d hd => ?_) ?_
    · obtain ⟨x, hx, rfl⟩ := two_m hd lb
      walk_at "wp"
      rw [cutLo (by omega), cutHi (by omega)]
      refine opK2_vv (xAddTI (by simp only [List.length_drop, List.length_take]; omega)) ?_
      walk_at "wp"
      exact ⟨(mapR_m (rot t) x).symm, rfl⟩
    walk_at "wipe"
    rw [mapR_2]
    walk_at "wp"
    walk_at "wt"
    walk_at "wp"
    refine lcK_n (by rfl) (by simp) ?_
    walk_at "wipe"
    refine ll_map (Fn := mapR (sh (c - 50))) (fun d hd => ?_) ?_
    · obtain ⟨x, hx, rfl⟩ := two_m hd lb
      walk_at "wp"
      refine lcK_n (by rfl) (by rw [List.length_map]; omega) ?_
      walk_at "wipe"
      refine ll_map (Fn := mapI (· + (c - 50))) (fun d hd => ?_) ?_
      · obtain ⟨i, _, rfl⟩ := List.mem_map.mp hd
        walk_at "wp"
        exact ⟨rfl, rfl⟩
      walk_at "wipe"
      walk_at "wp"
      rw [mapI_ints]
      exact ⟨(mapR_m (sh (c - 50)) x).symm, rfl⟩
    walk_at "wipe"
    rw [mapR_2]
    walk_at "wp"
    walk_at "wt"
    walk_at "wp"
    refine lcK_n (by rfl) (by simp) ?_
    walk_at "wipe"
    refine ll_map (Fn := mapR (sc (-1))) (fun d hd => ?_) ?_
    · obtain ⟨x, hx, rfl⟩ := two_m hd lb
      walk_at "wp"
      refine lcK_n (by rfl) (by rw [List.length_map]; omega) ?_
      walk_at "wipe"
      refine ll_map (Fn := mapI (fun x => 0 - x)) (fun d hd => ?_) ?_
      · obtain ⟨i, _, rfl⟩ := List.mem_map.mp hd
        walk_at "wp"
        exact ⟨rfl, rfl⟩
      walk_at "wipe"
      walk_at "wp"
      rw [mapI_ints, map_neg]
      exact ⟨(mapR_m (sc (-1)) x).symm, rfl⟩
    walk_at "wipe"
    rw [mapR_2]
    walk_at "wp"
    walk_at "wt"
    walk_at "wp"
    refine lcK_n (by rfl) (by simp) ?_
    walk_at "wipe"
    refine ll_map (Fn := mapR List.reverse) (fun d hd => ?_) ?_
    · obtain ⟨x, hx, rfl⟩ := two_m hd lb
      walk_at "wp"
      exact ⟨by rw [mapR_m]; show PyData.tuple _ = PyData.tuple _; rw [List.map_reverse], rfl⟩
    walk_at "wipe"
    rw [mapR_2]
    walk_at "wp"
    have mR : ∀ x : List Int, Mk x → Mk (rot t x) := fun x hx => mk_sub hx (rot_len t x) rot_mem
    have mV : ∀ x : List Int, Mk x → Mk x.reverse := fun x hx => mk_sub hx List.length_reverse fun y hy => List.mem_reverse.mp hy
    have mSa : Mk (sh (c - 50) a) := mk_map a3 a8 fun x hx => by have := hax x hx; omega
    have mSb : Mk (sh (c - 50) b) := mk_map (by rw [lb]; exact a3) (by rw [lb]; exact a8) fun x hx => by have := hbx x hx; omega
    have mNa : Mk (sc (-1) a) := mk_map a3 a8 fun x hx => by have := hax x hx; omega
    have mNb : Mk (sc (-1) b) := mk_map (by rw [lb]; exact a3) (by rw [lb]; exact a8) fun x hx => by have := hbx x hx; omega
    have isT : ∀ i ∈ is.map (dn t a.length), i < (rot t a).length := fun i hi => by
      obtain ⟨j, hj, rfl⟩ := List.mem_map.mp hi
      rw [rot_len]
      exact dn_lt ht (his j hj)
    have isV : ∀ i ∈ is.map (a.length - 1 - ·), i < a.reverse.length := fun i hi => by
      obtain ⟨j, hj, rfl⟩ := List.mem_map.mp hi
      have := his j hj
      rw [List.length_reverse]
      omega
    have isS : ∀ i ∈ is, i < (sh (c - 50) a).length := fun i hi => by rw [sh_len]; exact his i hi
    have isN : ∀ i ∈ is, i < (sc (-1) a).length := fun i hi => by rw [sc_len]; exact his i hi
    have eT : refls (rot t a) (is.map (dn t a.length)) = rot t b := by rw [refls_rot ht his, eb]
    have eV : refls a.reverse (is.map (a.length - 1 - ·)) = b.reverse := by rw [refls_revs his, eb]
    have eS : refls (sh (c - 50) a) is = sh (c - 50) b := by rw [refls_sh his, eb]
    have eN : refls (sc (-1) a) is = sc (-1) b := by rw [refls_sc his, eb]
    refine opK2_vv (xIxL (j := 0) rfl rfl) ?_
    walk_at "wp"
    refine lcK_n (by rfl) (by rw [List.length_map, sI_len]; omega) ?_
    walk_at "wipe"
    refine ll_map (Fn := mapI (fun s => (s - (t : Int)) % (a.length : Int))) (fun d hd => ?_) ?_
    · obtain ⟨i, _, rfl⟩ := List.mem_map.mp hd
      walk_at "wp"
      refine opK2_vv (xMod (by omega)) ?_
      walk_at "wp"
      exact ⟨rfl, rfl⟩
    walk_at "wipe"
    walk_at "wp"
    rw [mapI_ints, show (sI is).map (fun s => (s - (t : Int)) % (a.length : Int)) = sI (is.map (dn t a.length)) by
      unfold sI
      rw [List.map_map, List.map_map]
      exact List.map_congr_left fun s hs => seat_dn ht (his s hs)]
    refine apply_w (mR a ha) isT ?_
    rw [eT]
    walk_at "wp"
    refine opK2_vv (xIxL (j := 1) rfl rfl) ?_
    walk_at "wp"
    refine opK2_vv (gNe_t _ _) ?_
    rw [decide_eq_true rfl]
    refine ifK_f ?_
    walk_at "wp"
    refine opK2_vv (xIxL (j := 0) rfl rfl) ?_
    walk_at "wp"
    refine apply_w mSa isS ?_
    rw [eS]
    walk_at "wp"
    refine opK2_vv (xIxL (j := 1) rfl rfl) ?_
    walk_at "wp"
    refine opK2_vv (gNe_t _ _) ?_
    rw [decide_eq_true rfl]
    refine orK_f ?_
    walk_at "wp"
    refine opK2_vv (xIxL (j := 0) rfl rfl) ?_
    walk_at "wp"
    refine apply_w mNa isN ?_
    rw [eN]
    walk_at "wp"
    refine opK2_vv (xIxL (j := 1) rfl rfl) ?_
    walk_at "wp"
    refine opK2_vv (gNe_t _ _) ?_
    rw [decide_eq_true rfl]
    refine ifK_f ?_
    walk_at "wp"
    refine opK2_vv (xIxL (j := 0) rfl rfl) ?_
    walk_at "wp"
    refine lcK_n (by rfl) (by rw [List.length_map, sI_len]; omega) ?_
    walk_at "wipe"
    refine ll_map (Fn := mapI (fun s => (a.length : Int) - 1 - s)) (fun d hd => ?_) ?_
    · obtain ⟨i, _, rfl⟩ := List.mem_map.mp hd
      walk_at "wp"
      exact ⟨rfl, rfl⟩
    walk_at "wipe"
    walk_at "wp"
    rw [mapI_ints, show (sI is).map (fun s => (a.length : Int) - 1 - s) = sI (is.map (a.length - 1 - ·)) by
      unfold sI
      rw [List.map_map, List.map_map]
      exact List.map_congr_left fun s hs => by
        have := his s hs
        show (a.length : Int) - 1 - (s : Int) = ((a.length - 1 - s : Nat) : Int)
        omega]
    refine apply_w (mV a ha) isV ?_
    rw [eV]
    walk_at "wp"
    refine opK2_vv (xIxL (j := 1) rfl rfl) ?_
    walk_at "wp"
    refine opK2_vv (gNe_t _ _) ?_
    rw [decide_eq_true rfl]
    refine ifK_f ?_
    walk_at "wp"
    have pair : ∀ (x y : List Int) (js : List Nat), Mk x → Mk y → (∀ i ∈ js, i < x.length) → refls x js = y → gm x = gm a → ∃ x' y' : List Int, PyData.list [mD x, mD y] = .list [mD x', mD y'] ∧ Mk x' ∧ Mk y' ∧ isNone (diffD x' y') = true ∧ gm x' = gm a := fun x y js hx hy hj e g => ⟨x, y, rfl, hx, hy, by rw [← e]; exact diff_refls hx.1 hj, g⟩
    refine fl_list (I := fun ds' e => (∀ d ∈ ds', ∃ x y : List Int, d = .list [mD x, mD y] ∧ Mk x ∧ Mk y ∧ isNone (diffD x y) = true ∧ gm x = gm a) ∧ ∃ w12, NP w12 ∧ e = [.val (.list (ns.map PyData.int)), .own false s4, .val (mD a), .val (.int (a.length : Int)), .val (iD is), .val (.int (t : Int)), .val (.int (c - 50)), .val (mD b), .val (.list [mD (rot t a), mD (rot t b)]), .val (.list [mD (sh (c - 50) a), mD (sh (c - 50) b)]), .val (.list [mD (sc (-1) a), mD (sc (-1) b)]), .val (.list [mD a.reverse, mD b.reverse]), w12, .un, .un, .un, .un, .un, .un, .un, .un]) ?_ ?_ ⟨fun d hd => ?_, .un, by trivial, rfl⟩
    · rintro d ds' e ⟨h1, w12, g12, rfl⟩
      obtain ⟨x, y, rfl, hx, hy, hd, hg⟩ := h1 d List.mem_cons_self
      refine wg_nm (np_at rfl g12) ?_
      walk_at "nset"
      walk_at "wp"
      refine opK2_vv (xIxL (j := 0) rfl rfl) ?_
      walk_at "wp"
      refine opK2_vv (xIxL (j := 1) rfl rfl) ?_
      walk_at "wp"
      refine difference_w hx hy ?_
      walk_at "wp"
      rw [hd]
      refine orK_f ?_
      walk_at "wp"
      refine opK2_vv (xIxL (j := 0) rfl rfl) ?_
      walk_at "wp"
      refine modulus_w hx ?_
      walk_at "wp"
      refine modulus_w ha ?_
      walk_at "wp"
      rw [hg, decide_eq_true rfl]
      refine ifK_f ?_
      walk_at "wp"
      exact ⟨trivial, fun d hd => h1 d (List.mem_cons_of_mem _ hd), _, by trivial, rfl⟩
    rotate_left
    · rcases List.mem_cons.mp hd with rfl | hd
      · exact pair _ _ _ (mR a ha) (mR b hb) isT eT (gm_rot ht)
      · rcases List.mem_cons.mp hd with rfl | hd
        · exact pair _ _ _ mSa mSb isS eS (by unfold gm; rw [ds_sh])
        · rcases List.mem_cons.mp hd with rfl | hd
          · exact pair _ _ _ mNa mNb isN eN (gm_neg a0)
          · rcases List.mem_cons.mp hd with rfl | hd
            · exact pair _ _ _ (mV a ha) (mV b hb) isV eV (gm_rev a0)
            · cases hd
    rintro e ⟨_, w12, g12, rfl⟩
    clear pair
    walk_at "wp"
    refine opK2_vv xPow6 ?_
    walk_at "wp"
    refine below_w hs4 (by omega) (by omega) fun T s5 hs5 T0 T1 => ?_
    obtain ⟨T, rfl⟩ : ∃ k : Nat, T = k := ⟨T.toNat, by omega⟩
    walk_at "wp"
    refine repeat_w ha his (by omega) ?_
    have lT := rep_len a is T
    walk_at "wp"
    refine opK2_vv (xIxL (j := 0) rfl rfl) ?_
    walk_at "wp"
    refine repeat_w mSa isS (by omega) ?_
    walk_at "wp"
    refine lcK_n (by rfl) (by rw [List.length_map]; omega) ?_
    walk_at "wipe"
    refine ll_map (Fn := mapI (· + (c - 50))) (fun d hd => ?_) ?_
    · obtain ⟨i, _, rfl⟩ := List.mem_map.mp hd
      walk_at "wp"
      exact ⟨rfl, rfl⟩
    walk_at "wipe"
    walk_at "wp"
    rw [mapI_ints]
    refine opK2_vv (gNe_t _ _) ?_
    rw [decide_eq_true (show rep (sh (c - 50) a) is T = List.map (fun x => x + (c - 50)) (rep a is T) from rep_sh his T)]
    refine ifK_f ?_
    walk_at "wp"
    refine opK2_vv (xIxL (j := 0) rfl rfl) ?_
    walk_at "wp"
    refine repeat_w mNa isN (by omega) ?_
    walk_at "wp"
    refine lcK_n (by rfl) (by rw [List.length_map]; omega) ?_
    walk_at "wipe"
    refine ll_map (Fn := mapI (fun x => 0 - x)) (fun d hd => ?_) ?_
    · obtain ⟨i, _, rfl⟩ := List.mem_map.mp hd
      walk_at "wp"
      exact ⟨rfl, rfl⟩
    walk_at "wipe"
    walk_at "wp"
    rw [mapI_ints, map_neg]
    refine opK2_vv (gNe_t _ _) ?_
    rw [decide_eq_true (rep_sc his T)]
    refine ifK_f ?_
    walk_at "wp"
    refine drift_w ha his hp ?_
    walk_at "wp"
    refine opK2_vv (xIxL (j := 0) rfl rfl) ?_
    walk_at "wp"
    obtain ⟨pS, dS⟩ := per_sh (c := c - 50) a0 his hp
    obtain ⟨pN, dN⟩ := per_neg a0 his hp
    refine drift_w mSa isS pS ?_
    walk_at "wp"
    rw [dS]
    refine opK2_vv (gNe_t [(m : Int), drift a is m] [(m : Int), drift a is m]) ?_
    rw [decide_eq_true rfl]
    refine orK_f ?_
    walk_at "wp"
    refine opK2_vv (xIxL (j := 0) rfl rfl) ?_
    walk_at "wp"
    refine drift_w mNa isN pN ?_
    walk_at "wp"
    rw [dN]
    refine opK2_vv (show gIx (.tuple ([(m : Int), drift a is m].map PyData.int)) (.int 0) = some (.val (.int (m : Int))) from ix_tn (j := 0) rfl (by simp)) ?_
    walk_at "wp"
    refine opK2_vv (show gIx (.tuple ([(m : Int), drift a is m].map PyData.int)) (.int 1) = some (.val (.int (drift a is m))) from ix_tn (j := 1) rfl (by simp)) ?_
    walk_at "wt"
    walk_at "wp"
    refine opK2_vv (gNe_t [(m : Int), 0 - drift a is m] [(m : Int), 0 - drift a is m]) ?_
    rw [decide_eq_true rfl]
    refine ifK_f ?_
    walk_at "wp"
    refine pins2_w hs5 a0 a8 fun s6 P hs6 hP hne hPl => ?_
    walk_at "wp"
    refine lcK_n (by rfl) (by rw [List.length_map]; omega) ?_
    walk_at "wipe"
    refine ll_map (Fn := mapI (fun s => (s - (t : Int)) % (a.length : Int))) (fun d hd => ?_) ?_
    · obtain ⟨i, _, rfl⟩ := List.mem_map.mp hd
      walk_at "wp"
      refine opK2_vv (xMod (by omega)) ?_
      walk_at "wp"
      exact ⟨rfl, rfl⟩
    walk_at "wipe"
    walk_at "wp"
    rw [mapI_ints]
    refine fnK_v (xSorted (by rw [List.length_map]; omega)) ?_
    rw [pinsT_eq ht hP]
    walk_at "wp"
    have hQ := pinsT_pn ht hP
    have eqI : gEq (.int (cr a P)) (.int (cr a P)) = some (.val (.bool true)) := by simp [gEq, SeqAt.shaped, PyData.canLay0, PyData.depth, PyData.eqv]
    refine we_chain2 (da := .int (cr a P)) (db := .int (cr a P)) (dc := .int (cr a P)) (we_get ?_) (we_get ?_) (we_get ?_) eqI eqI ?_
    · walk_at "wp"
      refine opK2_vv (xIxL (j := 0) rfl rfl) ?_
      walk_at "wp"
      refine count_pinned_w (mR a ha) (by rw [rot_len]; exact hQ) (pinsT_ne hne) ?_
      rw [cr_rot ht hP hne]
      walk_at "wp"
      exact ⟨rfl, rfl⟩
    · walk_at "wp"
      refine count_pinned_w ha hP hne ?_
      walk_at "wp"
      exact ⟨rfl, rfl⟩
    · walk_at "wp"
      refine opK2_vv (xIxL (j := 0) rfl rfl) ?_
      walk_at "wp"
      refine count_pinned_w mNa (by rw [sc_len]; exact hP) hne ?_
      rw [cr_sc hP a8]
      walk_at "wp"
      exact ⟨rfl, rfl⟩
    walk_at "wp"
    rfl
  obtain ⟨r, o, h1, rfl⟩ := go
  exact ⟨o, h1⟩
end MR

set_option Elab.async false
set_option linter.all false
set_option maxRecDepth 100000
set_option maxHeartbeats 4000000
namespace MR
open PySem PySem.Spec PyProof.Rows L2
@[reducible] def tq0 : Tq := ⟨fun _ => "", fun _ => False, True⟩
variable [Tq]
theorem noCX {P : Program} {w : World} {H : Hp} {s s' : Shared} {e : Value} (h : L2.CX P w [] H s (fun _ _ _ => False) e s') : False := by
  obtain ⟨_, _, _, _, _, _, _, _, _, _, _, _, z⟩ := h
  exact z
theorem law_fn {P : Program} {w : World} {K : PySem.W.Frag} {mg : Str → Option Value} {k : Nat} {fa : Addr} {x : Str} {φ : FnSem} (hl : ∀ ns : List Int, ns.length ≤ 63 → ∃ outs, φ [.val (.list (ns.map PyData.int))] = some (.val (.bool true), outs))
    (h : ∃ fd : FuncData, (∀ (s : Shared) (v : Value), BindsTo s fd ⟨[v], []⟩ [(x, v)]) ∧ ∀ base : Heap, K.In base → base.Ns mainGlobals mg → FnOk P w K mg base (L2.CX P w) k fa fd [x] (spOf K mg 1 φ)) :
    ∃ fd : FuncData, (∀ (s : Shared) (v : Value), BindsTo s fd ⟨[v], []⟩ [(x, v)]) ∧ ∀ base : Heap, K.In base → base.Ns mainGlobals mg → FnOk P w K mg base (L2.CX P w) k fa fd [x] (spLaw K) := by
  obtain ⟨fd, h1, h2⟩ := h
  exact ⟨fd, h1, fun base a b => (h2 base a b).imp (law_sp hl)⟩
end MR
namespace MR
open PySem PySem.Spec PyProof.Rows L2
variable [Tq]
/-! ### the text -/
def topS (i : Nat) : Stmt := PySem.Challenge.pw_markring_k42_whole_turned_and_changed_ri.main.body.getD i (.Pass ⟨0, 0, 0, 0⟩)
structure Top (mg : Str → Option Value) : Prop where
  b_abs : mg "abs" = none
  b_bool : mg "bool" = none
  b_divmod : mg "divmod" = none
  b_enumerate : mg "enumerate" = none
  b_factorial : mg "factorial" = some (.builtin "math.factorial")
  b_gcd : mg "gcd" = some (.builtin "math.gcd")
  b_int : mg "int" = none
  isinstance : mg "isinstance" = none
  b_len : mg "len" = none
  b_list : mg "list" = none
  b_range : mg "range" = none
  b_set : mg "set" = none
  b_sorted : mg "sorted" = none
  b_tuple : mg "tuple" = none
  b_zip : mg "zip" = none
  FEWEST_SEATS : ∃ t, mg "FEWEST_SEATS" = some (.int 3 t)
  MOST_SEATS : ∃ t, mg "MOST_SEATS" = some (.int 8 t)
  LARGEST_MARK : ∃ t, mg "LARGEST_MARK" = some (.int 1000000 t)
  MOST_TIMES : ∃ t, mg "MOST_TIMES" = some (.int 1000000000000000000 t)
theorem ofOne {X : Cx} {P : Program} {w : World} {K : PySem.W.Frag} {mg : Str → Option Value} {base : Heap} (h1 : X.prog = P) (h2 : X.w = w) (h3 : X.K = K) (h4 : X.mg = mg) (h5 : X.base = base) : Of (Fm.one X) P w K mg base := ⟨fun _ => h1, fun _ => h2, h3, h4, fun _ => h5⟩
theorem Of.blk {X : Fm} {P : Program} {w : World} {K : PySem.W.Frag} {mg : Str → Option Value} {base : Heap} {sc : Scope} (h : Of X P w K mg base) : Of (X.blk sc) P w K mg base := ⟨fun i => h.p i.1, fun i => h.w i.1, h.k, h.m, fun i => h.b i.1⟩
abbrev s_is_whole : Stmt := topS 12
abbrev N_is_whole : List Str := ["value"]
theorem sc_is_whole : FnScope N_is_whole ["value"] (defScope s_is_whole) := ⟨rfl, rfl, rfl, by decide +kernel, rfl, by decide +kernel, by decide +kernel⟩
abbrev s_is_seat : Stmt := topS 13
abbrev N_is_seat : List Str := ["value", "length"]
theorem sc_is_seat : FnScope N_is_seat ["value", "length"] (defScope s_is_seat) := ⟨rfl, rfl, rfl, by decide +kernel, rfl, by decide +kernel, by decide +kernel⟩
abbrev s_first_invalid : Stmt := topS 14
abbrev N_first_invalid : List Str := ["values", "largest", "position", "value"]
theorem sc_first_invalid : FnScope N_first_invalid ["values", "largest"] (defScope s_first_invalid) := ⟨rfl, rfl, rfl, by decide +kernel, rfl, by decide +kernel, by decide +kernel⟩
abbrev s_check_ring : Stmt := topS 15
abbrev N_check_ring : List Str := ["marks", "position"]
theorem sc_check_ring : FnScope N_check_ring ["marks"] (defScope s_check_ring) := ⟨rfl, rfl, rfl, by decide +kernel, rfl, by decide +kernel, by decide +kernel⟩
abbrev s_check_pins : Stmt := topS 16
abbrev N_check_pins : List Str := ["pins", "length", "lowest", "pin"]
theorem sc_check_pins : FnScope N_check_pins ["pins", "length"] (defScope s_check_pins) := ⟨rfl, rfl, rfl, by decide +kernel, rfl, by decide +kernel, by decide +kernel⟩
abbrev s_check_some_pins : Stmt := topS 17
abbrev N_check_some_pins : List Str := ["pins", "length"]
theorem sc_check_some_pins : FnScope N_check_some_pins ["pins", "length"] (defScope s_check_some_pins) := ⟨rfl, rfl, rfl, by decide +kernel, rfl, by decide +kernel, by decide +kernel⟩
abbrev s_check_moves : Stmt := topS 18
abbrev N_check_moves : List Str := ["seats", "length", "pins", "position", "seat"]
theorem sc_check_moves : FnScope N_check_moves ["seats", "length", "pins"] (defScope s_check_moves) := ⟨rfl, rfl, rfl, by decide +kernel, rfl, by decide +kernel, by decide +kernel⟩
abbrev s_check_times : Stmt := topS 19
abbrev N_check_times : List Str := ["times"]
theorem sc_check_times : FnScope N_check_times ["times"] (defScope s_check_times) := ⟨rfl, rfl, rfl, by decide +kernel, rfl, by decide +kernel, by decide +kernel⟩
abbrev s_count_orders : Stmt := topS 21
abbrev N_count_orders : List Str := ["steps", "number", "step"]
theorem sc_count_orders : FnScope N_count_orders ["steps"] (defScope s_count_orders) := ⟨rfl, rfl, rfl, by decide +kernel, rfl, by decide +kernel, by decide +kernel⟩
abbrev s_step_modulus : Stmt := topS 25
abbrev N_step_modulus : List Str := ["steps", "modulus", "step"]
theorem sc_step_modulus : FnScope N_step_modulus ["steps"] (defScope s_step_modulus) := ⟨rfl, rfl, rfl, by decide +kernel, rfl, by decide +kernel, by decide +kernel⟩
abbrev s_steps_between : Stmt := topS 24
abbrev N_steps_between : List Str := ["marks", "length", "seat"]
theorem sc_steps_between : FnScope N_steps_between ["marks"] (defScope s_steps_between) := ⟨rfl, rfl, rfl, by decide +kernel, rfl, by decide +kernel, by decide +kernel⟩
abbrev s_find_modulus : Stmt := topS 23
abbrev N_find_modulus : List Str := ["marks"]
theorem sc_find_modulus : FnScope N_find_modulus ["marks"] (defScope s_find_modulus) := ⟨rfl, rfl, rfl, by decide +kernel, rfl, by decide +kernel, by decide +kernel⟩
abbrev s_find_step_difference : Stmt := topS 29
abbrev N_find_step_difference : List Str := ["first", "second", "step"]
theorem sc_find_step_difference : FnScope N_find_step_difference ["first", "second"] (defScope s_find_step_difference) := ⟨rfl, rfl, rfl, by decide +kernel, rfl, by decide +kernel, by decide +kernel⟩
abbrev s_find_mark_difference : Stmt := topS 30
abbrev N_find_mark_difference : List Str := ["first", "second", "start", "end", "modulus"]
theorem sc_find_mark_difference : FnScope N_find_mark_difference ["first", "second"] (defScope s_find_mark_difference) := ⟨rfl, rfl, rfl, by decide +kernel, rfl, by decide +kernel, by decide +kernel⟩
abbrev s_difference_between : Stmt := topS 28
abbrev N_difference_between : List Str := ["first", "second", "difference"]
theorem sc_difference_between : FnScope N_difference_between ["first", "second"] (defScope s_difference_between) := ⟨rfl, rfl, rfl, by decide +kernel, rfl, by decide +kernel, by decide +kernel⟩
abbrev s_find_difference : Stmt := topS 27
abbrev N_find_difference : List Str := ["first", "second"]
theorem sc_find_difference : FnScope N_find_difference ["first", "second"] (defScope s_find_difference) := ⟨rfl, rfl, rfl, by decide +kernel, rfl, by decide +kernel, by decide +kernel⟩
abbrev s_reflected_mark : Stmt := topS 33
abbrev N_reflected_mark : List Str := ["marks", "seat", "following"]
theorem sc_reflected_mark : FnScope N_reflected_mark ["marks", "seat"] (defScope s_reflected_mark) := ⟨rfl, rfl, rfl, by decide +kernel, rfl, by decide +kernel, by decide +kernel⟩
abbrev s_reflect_seats : Stmt := topS 34
abbrev N_reflect_seats : List Str := ["marks", "seats", "changed", "seat"]
theorem sc_reflect_seats : FnScope N_reflect_seats ["marks", "seats"] (defScope s_reflect_seats) := ⟨rfl, rfl, rfl, by decide +kernel, rfl, by decide +kernel, by decide +kernel⟩
abbrev s_apply_moves : Stmt := topS 32
abbrev N_apply_moves : List Str := ["marks", "seats", "pins"]
theorem sc_apply_moves : FnScope N_apply_moves ["marks", "seats", "pins"] (defScope s_apply_moves) := ⟨rfl, rfl, rfl, by decide +kernel, rfl, by decide +kernel, by decide +kernel⟩
abbrev s_check_block : Stmt := topS 38
abbrev N_check_block : List Str := ["marks", "block"]
theorem sc_check_block : FnScope N_check_block ["marks", "block"] (defScope s_check_block) := ⟨rfl, rfl, rfl, by decide +kernel, rfl, by decide +kernel, by decide +kernel⟩
abbrev s_rings_of_round : Stmt := topS 40
abbrev N_rings_of_round : List Str := ["marks", "block", "steps", "rings"]
theorem sc_rings_of_round : FnScope N_rings_of_round ["marks", "block"] (defScope s_rings_of_round) := ⟨rfl, rfl, rfl, by decide +kernel, rfl, by decide +kernel, by decide +kernel⟩
abbrev s_repeat_seats : Stmt := topS 39
abbrev N_repeat_seats : List Str := ["marks", "block", "times", "rings", "rounds", "rest", "change", "mark"]
theorem sc_repeat_seats : FnScope N_repeat_seats ["marks", "block", "times"] (defScope s_repeat_seats) := ⟨rfl, rfl, rfl, by decide +kernel, rfl, by decide +kernel, by decide +kernel⟩
abbrev s_repeat_block : Stmt := topS 36
abbrev N_repeat_block : List Str := ["marks", "block", "times"]
theorem sc_repeat_block : FnScope N_repeat_block ["marks", "block", "times"] (defScope s_repeat_block) := ⟨rfl, rfl, rfl, by decide +kernel, rfl, by decide +kernel, by decide +kernel⟩
abbrev s_block_drift : Stmt := topS 37
abbrev N_block_drift : List Str := ["marks", "block", "rings"]
theorem sc_block_drift : FnScope N_block_drift ["marks", "block"] (defScope s_block_drift) := ⟨rfl, rfl, rfl, by decide +kernel, rfl, by decide +kernel, by decide +kernel⟩
abbrev s_check_pinned_ring : Stmt := topS 43
abbrev N_check_pinned_ring : List Str := ["marks", "pins"]
theorem sc_check_pinned_ring : FnScope N_check_pinned_ring ["marks", "pins"] (defScope s_check_pinned_ring) := ⟨rfl, rfl, rfl, by decide +kernel, rfl, by decide +kernel, by decide +kernel⟩
abbrev s_arcs_between : Stmt := topS 44
abbrev N_arcs_between : List Str := ["marks", "pins", "steps", "ends", "pin", "end"]
theorem sc_arcs_between : FnScope N_arcs_between ["marks", "pins"] (defScope s_arcs_between) := ⟨rfl, rfl, rfl, by decide +kernel, rfl, by decide +kernel, by decide +kernel⟩
abbrev s_count_rings : Stmt := topS 45
abbrev N_count_rings : List Str := ["marks", "pins", "number", "arc"]
theorem sc_count_rings : FnScope N_count_rings ["marks", "pins"] (defScope s_count_rings) := ⟨rfl, rfl, rfl, by decide +kernel, rfl, by decide +kernel, by decide +kernel⟩
abbrev s_count_pinned : Stmt := topS 42
abbrev N_count_pinned : List Str := ["marks", "pins"]
theorem sc_count_pinned : FnScope N_count_pinned ["marks", "pins"] (defScope s_count_pinned) := ⟨rfl, rfl, rfl, by decide +kernel, rfl, by decide +kernel, by decide +kernel⟩
abbrev s_l_random : Stmt := topS 47
abbrev N_l_random : List Str := ["_law_script", "_law_salt", "_law_seed", "_law_cell"]
theorem sc_l_random : FnScope N_l_random ["_law_script", "_law_salt"] (defScope s_l_random) := ⟨rfl, rfl, rfl, by decide +kernel, rfl, by decide +kernel, by decide +kernel⟩
abbrev s_l_below : Stmt := topS 48
abbrev N_l_below : List Str := ["_law_d", "_law_limit", "_law_result"]
theorem sc_l_below : FnScope N_l_below ["_law_d", "_law_limit"] (defScope s_l_below) := ⟨rfl, rfl, rfl, by decide +kernel, rfl, by decide +kernel, by decide +kernel⟩
abbrev s_l_little : Stmt := topS 49
abbrev N_l_little : List Str := ["_law_d", "_law_most", "_law_seat"]
theorem sc_l_little : FnScope N_l_little ["_law_d", "_law_most"] (defScope s_l_little) := ⟨rfl, rfl, rfl, by decide +kernel, rfl, by decide +kernel, by decide +kernel⟩
abbrev s_l_seats : Stmt := topS 50
abbrev N_l_seats : List Str := ["_law_d", "_law_length", "_law_many", "_law_k"]
theorem sc_l_seats : FnScope N_l_seats ["_law_d", "_law_length", "_law_many"] (defScope s_l_seats) := ⟨rfl, rfl, rfl, by decide +kernel, rfl, by decide +kernel, by decide +kernel⟩
abbrev s_l_shuffled : Stmt := topS 51
abbrev N_l_shuffled : List Str := ["_law_d", "_law_items", "_law_pool", "_law_result"]
theorem sc_l_shuffled : FnScope N_l_shuffled ["_law_d", "_law_items"] (defScope s_l_shuffled) := ⟨rfl, rfl, rfl, by decide +kernel, rfl, by decide +kernel, by decide +kernel⟩
abbrev s_l_pins : Stmt := topS 52
abbrev N_l_pins : List Str := ["_law_d", "_law_length", "_law_some"]
theorem sc_l_pins : FnScope N_l_pins ["_law_d", "_law_length"] (defScope s_l_pins) := ⟨rfl, rfl, rfl, by decide +kernel, rfl, by decide +kernel, by decide +kernel⟩
abbrev s_law_k42 : Stmt := topS 53
abbrev N_law_k42 : List Str := ["_law_script", "_law_d", "_law_marks", "_law_length", "_law_block", "_law_turn", "_law_amount", "_law_after", "_law_turned", "_law_raised", "_law_opposite", "_law_backward", "_law_pair", "_law_times", "_law_far", "_law_drift", "_law_shut", "_law_moved", "_law_ring", "_law_mark", "_law_seat"]
theorem sc_law_k42 : FnScope N_law_k42 ["_law_script"] (defScope s_law_k42) := ⟨rfl, rfl, rfl, by decide +kernel, rfl, by decide +kernel, by decide +kernel⟩
def memS (j : Nat) : Stmt → Stmt
  | .ClassDef _ _ _ b _ _ _ _ _ _ _ => b.getD j (.Pass ⟨0, 0, 0, 0⟩)
  | s => s
abbrev i_InvalidMarks : Stmt := memS 0 (topS 3)
theorem si_InvalidMarks : FnScope ["self", "position"] ["self", "position"] (defScope i_InvalidMarks) := ⟨rfl, rfl, rfl, by decide +kernel, rfl, by decide +kernel, by decide +kernel⟩
theorem init_InvalidMarks {P : Program} {w : World} {K : PySem.W.Frag} {mg : Str → Option Value} {base : Heap} {C B fI : Addr} {fd : FuncData} {mc : Value} (Fu : Fun K "__init__" "InvalidMarks.__init__" i_InvalidMarks fI fd) (T : OexC K C) (hno : PySem.W.findIn K (.ref C) "position" = some none)
    (mB : mg "MarkError" = some (.ref B)) (ga : PySem.W.specialIn K (.ref B) "__getattribute__" = some (some (.builtin "type.__getattribute__"))) (rd : PySem.W.readsIn K B mc = true) (vB : PySem.W.findCls K (.ref B) mc "__init__" = some (.val (.builtin "ValueError.__init__"))) :
    FnOk P w K mg base CX0 1 fI fd ["self", "position"] (spI C "position") := by
  refine Fu.ok si_InvalidMarks (fun vs H Q E h => ?_) (fun cdv A outer s H vs Q E hr h => ?_)
  · obtain ⟨a, i, rfl, _⟩ := h
    rfl
  · obtain ⟨a, i, rfl, hi, ha, q⟩ := h
    refine ⟨_, pss_cons (ps_expr (pe_binit (by rfl) mB ga rd vB (pa_cons (pv 0) (pa_cons (pe_joined (.cons pe_str (.cons (pe_fmt (pv 1)) .nil))) pa_nil)))) (pss_one (ps_ost (pv 0) (pv 1))), init_sem (by decide) T hno hi ha q⟩
theorem mk_InvalidMarks {w : World} {K : PySem.W.Frag} {h : Heap} {mg : Str → Option Value} {P : Program} (X : K.In h) (G : h.Ns mainGlobals mg) {C B fI : Addr} {mc : Value} {nm q N bs bm sn sub ab col dd k0 k1 k2 k3 k5 : _} {oc : Value} {od an : Option Addr} {osl : Array (Option Value)} {kV doc pm cdv ct : Value}
    (a : PySem.W.nsIn K mainGlobals "InvalidMarks" = some (some (.ref C))) (l : K.lookup C = some (excClassObj nm q C N bs bm true sn sub ab col dd k0 k1 k2 k3 k5 "ValueError.__new__")) (r : PySem.HandSPX.refsVE bm = true)
    (sa : PySem.W.findIn K (.ref C) "__setattr__" = some (some (.builtin "object.__setattr__"))) (ex : PySem.W.subIn K (.ref C) (.type "BaseException") = some true) (ty : PySem.W.typeIn K (.ref C) = some (.type "type")) (kc : PySem.W.keepIn K (.ref C) = true)
    (i : PySem.W.findIn K (.ref C) "__init__" = some (some (.ref fI))) (ti : PySem.W.typeIn K (.ref fI) = some (.type "function")) (no : PySem.W.findIn K (.ref C) "position" = some none)
    (b : PySem.W.nsIn K mainGlobals "MarkError" = some (some (.ref B))) (ga : PySem.W.specialIn K (.ref B) "__getattribute__" = some (some (.builtin "type.__getattribute__"))) (rd : PySem.W.readsIn K B mc = true) (vB : PySem.W.findCls K (.ref B) mc "__init__" = some (.val (.builtin "ValueError.__init__")))
    (lI : K.lookup fI = some ⟨oc, od, .func (PySem.W.fnOf "__init__" "InvalidMarks.__init__" (defArgs i_InvalidMarks) (defBody i_InvalidMarks) (defScope i_InvalidMarks) .none kV doc pm an cdv ct), osl⟩) (cI : PySem.W.codeIn K cdv "InvalidMarks.__init__" = true) (kI : PySem.W.keepIn K (.ref fI) = true) :
    ∀ base, ExOk P w K mg base "InvalidMarks" "position" := by
  have F := fun_mk (st := i_InvalidMarks) lI cI kI
  have T : OexC K C := ⟨⟨_, _, _, _, _, _, _, _, _, _, _, _, _, _, _, l, r⟩, sa, ex, ty, kc⟩
  exact fun base => ⟨⟨C, fI, _, _, PySem.W.mg_of X G a, T, i, ti, F.binds (ps := ["self", "position"]) fun _ _ _ _ _ _ us hl => match us, hl with | [_, _], _ => rfl, init_InvalidMarks F T no (PySem.W.mg_of X G b) ga rd vB⟩⟩
section
variable {P : Program} {w : World} {K : PySem.W.Frag} {mg : Str → Option Value} {base : Heap}
theorem ok_is_whole {f : Addr} {fd : FuncData} (T : Top mg) (Fu : Fun K "is_whole" "is_whole" s_is_whole f fd) (g : mg "is_whole" = some (.ref f)) (b : Binds K fd ["value"] [])  : DefOk P w K mg base 1 "is_whole" 1 f_is_whole := by
  refine def_ok (k := 0) Fu g b sc_is_whole (by decide) rfl fun cdv A outer s H E hr => ?_
  exact (sds_one (sd_ret (pd_and (pd_isi (fun _ => by rfl) (fun _ => T.isinstance) (fun _ => by rfl) (fun _ => T.b_int) (by decide +kernel) (PD.settle (pd_var (fun _ => pv 0)))) (pd_one (pd_not (pd_isi (fun _ => by rfl) (fun _ => T.isinstance) (fun _ => by rfl) (fun _ => T.b_bool) (by decide +kernel) (PD.settle (pd_var (fun _ => pv 0)))))))))
theorem ok_is_seat {f : Addr} {fd : FuncData} (T : Top mg) (Fu : Fun K "is_seat" "is_seat" s_is_seat f fd) (g : mg "is_seat" = some (.ref f)) (b : Binds K fd ["value", "length"] []) (D_is_whole : DefOk P w K mg base 1 "is_whole" 1 f_is_whole) : DefOk P w K mg base 2 "is_seat" 2 f_is_seat := by
  refine def_ok (k := 1) Fu g b sc_is_seat (by decide) rfl fun cdv A outer s H E hr => ?_
  exact (sds_one (sd_ret (pd_and (pd_callD D_is_whole (ofOne rfl rfl rfl rfl rfl) rfl (fun i => hr.mono (j := 1) (by decide)) (fun _ => by rfl) (fun _ => takes_of rfl rfl rfl rfl) (pad_cons (PD.settle (pd_var (fun _ => pv 0))) pad_nil)) (pd_one (pd_chain (fun _ => op_le) og_le (fun _ => op_lt) og_lt (PD.settle pd_int) (PD.settle (pd_var (fun _ => pv 0))) (PD.settle (pd_var (fun _ => pv 1))))))))
theorem ok_first_invalid {f : Addr} {fd : FuncData} (T : Top mg) (Fu : Fun K "first_invalid" "first_invalid" s_first_invalid f fd) (g : mg "first_invalid" = some (.ref f)) (b : Binds K fd ["values", "largest"] []) (D_is_whole : DefOk P w K mg base 1 "is_whole" 1 f_is_whole) : DefOk P w K mg base 2 "first_invalid" 2 f_first_invalid := by
  obtain ⟨t_MOST_SEATS, h_MOST_SEATS⟩ := T.MOST_SEATS
  refine def_ok (k := 1) Fu g b sc_first_invalid (by decide) rfl fun cdv A outer s H E hr => ?_
  exact (sds_cons (sd_for (fun _ => passes_of rfl) (fun _ => rfl) (pid_enum (fun _ => by rfl) (fun _ => T.b_enumerate) (pad_cons (PD.settle (pd_var (fun _ => pv 0))) pad_nil)) (pgd_tup (fun _ => rfl) (pgsd_cons (pgd_name (fun _ => sc_first_invalid.nd) (fun _ => rfl) (fun _ => .inl rfl)) (pgsd_cons (pgd_name (fun _ => sc_first_invalid.nd) (fun _ => rfl) (fun _ => .inl rfl)) pgsd_nil))) (sds_cons (sd_if (td_eq (fun _ => hr.units) (PD.settle (pd_var (fun _ => pv 2))) (PD.settle (pd_glob (fun _ => by rfl) (fun _ => h_MOST_SEATS)))) (sds_one (sd_ret (pd_var (fun _ => pv 2)))) sds_nil)
    (sds_one (sd_if (TWD.td (twd_or (td_not (td_val (pd_callD D_is_whole (ofOne rfl rfl rfl rfl rfl) rfl (fun i => hr.mono (j := 1) (by decide)) (fun _ => by rfl) (fun _ => takes_of rfl rfl rfl rfl) (pad_cons (PD.settle (pd_var (fun _ => pv 3))) pad_nil)))) (twd_or1 (td_not (td_chain (fun _ => op_le) og_le (fun _ => op_le) og_le (PD.settle (pd_neg (PD.settle (pd_var (fun _ => pv 1))))) (PD.settle (pd_var (fun _ => pv 3))) (PD.settle (pd_var (fun _ => pv 1)))))))) (sds_one (sd_ret (pd_var (fun _ => pv 2)))) sds_nil))))
    (sds_one (sd_ret pd_non)))
theorem ok_check_ring {f : Addr} {fd : FuncData} (T : Top mg) (Fu : Fun K "check_ring" "check_ring" s_check_ring f fd) (g : mg "check_ring" = some (.ref f)) (b : Binds K fd ["marks"] []) (X_InvalidMarks : ExOk P w K mg base "InvalidMarks" "position") (D_first_invalid : DefOk P w K mg base 2 "first_invalid" 2 f_first_invalid) : DefOk P w K mg base 3 "check_ring" 1 f_check_ring := by
  obtain ⟨t_FEWEST_SEATS, h_FEWEST_SEATS⟩ := T.FEWEST_SEATS
  obtain ⟨t_LARGEST_MARK, h_LARGEST_MARK⟩ := T.LARGEST_MARK
  refine def_ok (k := 2) Fu g b sc_check_ring (by decide) rfl fun cdv A outer s H E hr => ?_
  exact (sds_cons (sd_if (td_not (td_val (pd_isi (fun _ => by rfl) (fun _ => T.isinstance) (fun _ => by rfl) (fun _ => T.b_tuple) (by decide +kernel) (PD.settle (pd_var (fun _ => pv 0)))))) (sds_one (sd_raise1 X_InvalidMarks (ofOne rfl rfl rfl rfl rfl) (fun _ => rfl) (fun _ => hr.mono (j := 2) (by decide)) (fun _ => by rfl) (fun _ => takes_of rfl rfl rfl rfl) (pad_cons (PD.settle pd_int) pad_nil))) sds_nil)
    (sds_cons (sd_set (fun _ => sc_check_ring.nd) (fun _ => rfl) (fun _ => .inl rfl) (pd_callD D_first_invalid (ofOne rfl rfl rfl rfl rfl) rfl (fun i => hr.mono (j := 2) (by decide)) (fun _ => by rfl) (fun _ => takes_of rfl rfl rfl rfl) (pad_cons (PD.settle (pd_var (fun _ => pv 0))) (pad_cons (PD.settle (pd_glob (fun _ => by rfl) (fun _ => h_LARGEST_MARK))) pad_nil))))
    (sds_cons (sd_if (td_isnot (PD.settle (pd_var (fun _ => pv 1))) (PD.settle pd_non)) (sds_one (sd_raise1 X_InvalidMarks (ofOne rfl rfl rfl rfl rfl) (fun _ => rfl) (fun _ => hr.mono (j := 2) (by decide)) (fun _ => by rfl) (fun _ => takes_of rfl rfl rfl rfl) (pad_cons (PD.settle (pd_var (fun _ => pv 1))) pad_nil))) sds_nil)
    (sds_one (sd_if (td_lt (PD.settle (pd_len (fun _ => by rfl) (fun _ => T.b_len) (pad_cons (PD.settle (pd_var (fun _ => pv 0))) pad_nil))) (PD.settle (pd_glob (fun _ => by rfl) (fun _ => h_FEWEST_SEATS)))) (sds_one (sd_raise1 X_InvalidMarks (ofOne rfl rfl rfl rfl rfl) (fun _ => rfl) (fun _ => hr.mono (j := 2) (by decide)) (fun _ => by rfl) (fun _ => takes_of rfl rfl rfl rfl) (pad_cons (PD.settle (pd_len (fun _ => by rfl) (fun _ => T.b_len) (pad_cons (PD.settle (pd_var (fun _ => pv 0))) pad_nil))) pad_nil))) sds_nil)))))
theorem ok_check_pins {f : Addr} {fd : FuncData} (T : Top mg) (Fu : Fun K "check_pins" "check_pins" s_check_pins f fd) (g : mg "check_pins" = some (.ref f)) (b : Binds K fd ["pins", "length"] []) (D_is_seat : DefOk P w K mg base 2 "is_seat" 2 f_is_seat) : DefOk P w K mg base 3 "check_pins" 2 f_check_pins := by
  refine def_ok (k := 2) Fu g b sc_check_pins (by decide) rfl fun cdv A outer s H E hr => ?_
  exact (sds_cons (sd_if (td_not (td_val (pd_isi (fun _ => by rfl) (fun _ => T.isinstance) (fun _ => by rfl) (fun _ => T.b_tuple) (by decide +kernel) (PD.settle (pd_var (fun _ => pv 0)))))) (sds_one sd_never) sds_nil)
    (sds_cons (sd_set (fun _ => sc_check_pins.nd) (fun _ => rfl) (fun _ => .inl rfl) pd_int)
    (sds_one (sd_for (fun _ => passes_of rfl) (fun _ => rfl) (pid_seq (pd_var (fun _ => pv 0))) (pgd_name (fun _ => sc_check_pins.nd) (fun _ => rfl) (fun _ => .inl rfl)) (sds_cons (sd_if (TWD.td (twd_or (td_not (td_val (pd_callD D_is_seat (ofOne rfl rfl rfl rfl rfl) rfl (fun i => hr.mono (j := 2) (by decide)) (fun _ => by rfl) (fun _ => takes_of rfl rfl rfl rfl) (pad_cons (PD.settle (pd_var (fun _ => pv 3))) (pad_cons (PD.settle (pd_var (fun _ => pv 1))) pad_nil))))) (twd_or1 (td_lt (PD.settle (pd_var (fun _ => pv 3))) (PD.settle (pd_var (fun _ => pv 2))))))) (sds_one sd_never) sds_nil)
    (sds_one (sd_set (fun _ => sc_check_pins.nd) (fun _ => rfl) (fun _ => .inl rfl) (pd_add (PD.settle (pd_var (fun _ => pv 3))) (PD.settle pd_int)))))))))
theorem ok_check_some_pins {f : Addr} {fd : FuncData} (T : Top mg) (Fu : Fun K "check_some_pins" "check_some_pins" s_check_some_pins f fd) (g : mg "check_some_pins" = some (.ref f)) (b : Binds K fd ["pins", "length"] []) (D_check_pins : DefOk P w K mg base 3 "check_pins" 2 f_check_pins) : DefOk P w K mg base 4 "check_some_pins" 2 f_check_some_pins := by
  refine def_ok (k := 3) Fu g b sc_check_some_pins (by decide) rfl fun cdv A outer s H E hr => ?_
  exact (sds_cons (sd_expr (pd_callD D_check_pins (ofOne rfl rfl rfl rfl rfl) rfl (fun i => hr.mono (j := 3) (by decide)) (fun _ => by rfl) (fun _ => takes_of rfl rfl rfl rfl) (pad_cons (PD.settle (pd_var (fun _ => pv 0))) (pad_cons (PD.settle (pd_var (fun _ => pv 1))) pad_nil))))
    (sds_one (sd_if (td_eq (fun _ => hr.units) (PD.settle (pd_var (fun _ => pv 0))) (PD.settle (pd_tup (q := tC .non) ptd_nil (Nat.le_of_ble_eq_true rfl)))) (sds_one sd_never) sds_nil)))
theorem ok_check_moves {f : Addr} {fd : FuncData} (T : Top mg) (Fu : Fun K "check_moves" "check_moves" s_check_moves f fd) (g : mg "check_moves" = some (.ref f)) (b : Binds K fd ["seats", "length", "pins"] []) (D_is_seat : DefOk P w K mg base 2 "is_seat" 2 f_is_seat) : DefOk P w K mg base 3 "check_moves" 3 f_check_moves := by
  refine def_ok (k := 2) Fu g b sc_check_moves (by decide) rfl fun cdv A outer s H E hr => ?_
  exact (sds_cons (sd_if (td_not (td_val (pd_isi (fun _ => by rfl) (fun _ => T.isinstance) (fun _ => by rfl) (fun _ => T.b_list) (by decide +kernel) (PD.settle (pd_var (fun _ => pv 0)))))) (sds_one sd_never) sds_nil)
    (sds_one (sd_for (fun _ => passes_of rfl) (fun _ => rfl) (pid_enum (fun _ => by rfl) (fun _ => T.b_enumerate) (pad_cons (PD.settle (pd_var (fun _ => pv 0))) pad_nil)) (pgd_tup (fun _ => rfl) (pgsd_cons (pgd_name (fun _ => sc_check_moves.nd) (fun _ => rfl) (fun _ => .inl rfl)) (pgsd_cons (pgd_name (fun _ => sc_check_moves.nd) (fun _ => rfl) (fun _ => .inl rfl)) pgsd_nil))) (sds_cons (sd_if (td_not (td_val (pd_callD D_is_seat (ofOne rfl rfl rfl rfl rfl) rfl (fun i => hr.mono (j := 2) (by decide)) (fun _ => by rfl) (fun _ => takes_of rfl rfl rfl rfl) (pad_cons (PD.settle (pd_var (fun _ => pv 4))) (pad_cons (PD.settle (pd_var (fun _ => pv 1))) pad_nil))))) (sds_one sd_never) sds_nil)
    (sds_one (sd_if (td_in (PD.settle (pd_var (fun _ => pv 4))) (PD.settle (pd_var (fun _ => pv 2)))) (sds_one sd_never) sds_nil))))))
theorem ok_check_times {f : Addr} {fd : FuncData} (T : Top mg) (Fu : Fun K "check_times" "check_times" s_check_times f fd) (g : mg "check_times" = some (.ref f)) (b : Binds K fd ["times"] []) (Z_InvalidTimes : ExOk0 K mg "InvalidTimes") (D_is_whole : DefOk P w K mg base 1 "is_whole" 1 f_is_whole) : DefOk P w K mg base 2 "check_times" 1 f_check_times := by
  obtain ⟨t_MOST_TIMES, h_MOST_TIMES⟩ := T.MOST_TIMES
  refine def_ok (k := 1) Fu g b sc_check_times (by decide) rfl fun cdv A outer s H E hr => ?_
  exact (sds_one (sd_if (TWD.td (twd_or (td_not (td_val (pd_callD D_is_whole (ofOne rfl rfl rfl rfl rfl) rfl (fun i => hr.mono (j := 1) (by decide)) (fun _ => by rfl) (fun _ => takes_of rfl rfl rfl rfl) (pad_cons (PD.settle (pd_var (fun _ => pv 0))) pad_nil)))) (twd_or1 (td_not (td_chain (fun _ => op_le) og_le (fun _ => op_le) og_le (PD.settle pd_int) (PD.settle (pd_var (fun _ => pv 0))) (PD.settle (pd_glob (fun _ => by rfl) (fun _ => h_MOST_TIMES)))))))) (sds_one (sd_raise0 Z_InvalidTimes (ofOne rfl rfl rfl rfl rfl) (fun _ => rfl) (fun _ => by rfl) (fun _ => takes_of rfl rfl rfl rfl))) sds_nil))
theorem ok_count_orders {f : Addr} {fd : FuncData} (T : Top mg) (Fu : Fun K "count_orders" "count_orders" s_count_orders f fd) (g : mg "count_orders" = some (.ref f)) (b : Binds K fd ["steps"] [])  : DefOk P w K mg base 1 "count_orders" 1 f_count_orders := by
  refine def_ok (k := 0) Fu g b sc_count_orders (by decide) rfl fun cdv A outer s H E hr => ?_
  exact (sds_cons (sd_set (fun _ => sc_count_orders.nd) (fun _ => rfl) (fun _ => .inl rfl) (pd_fact (fun _ => by rfl) (fun _ => T.b_factorial) (pad_cons (PD.settle (pd_len (fun _ => by rfl) (fun _ => T.b_len) (pad_cons (PD.settle (pd_var (fun _ => pv 0))) pad_nil))) pad_nil)))
    (sds_cons (sd_for (fun _ => passes_of rfl) (fun _ => rfl) (pid_seq (pd_sortSet (ofOne rfl rfl rfl rfl rfl).w (fun _ => rfl) (fun _ => by rfl) (fun _ => T.b_sorted) (fun _ => by rfl) (fun _ => T.b_set) (pad_cons (PD.settle (pd_var (fun _ => pv 0))) pad_nil))) (pgd_name (fun _ => sc_count_orders.nd) (fun _ => rfl) (fun _ => .inl rfl)) (sds_one (sd_aug (fun _ => sc_count_orders.nd) (fun _ => rfl) (fun _ => .inl rfl) (PD.settle (pd_fact (fun _ => by rfl) (fun _ => T.b_factorial) (pad_cons (PD.settle (pd_count (PD.settle (pd_var (fun _ => pv 0))) (PD.settle (pd_var (fun _ => pv 2))))) pad_nil))) (fun _ => iop_fdivW) og_div)))
    (sds_one (sd_ret (pd_var (fun _ => pv 1))))))
theorem ok_step_modulus {f : Addr} {fd : FuncData} (T : Top mg) (Fu : Fun K "step_modulus" "step_modulus" s_step_modulus f fd) (g : mg "step_modulus" = some (.ref f)) (b : Binds K fd ["steps"] [])  : DefOk P w K mg base 1 "step_modulus" 1 f_step_modulus := by
  refine def_ok (k := 0) Fu g b sc_step_modulus (by decide) rfl fun cdv A outer s H E hr => ?_
  exact (sds_cons (sd_set (fun _ => sc_step_modulus.nd) (fun _ => rfl) (fun _ => .inl rfl) pd_int)
    (sds_cons (sd_for (fun _ => passes_of rfl) (fun _ => rfl) (pid_seq (pd_var (fun _ => pv 0))) (pgd_name (fun _ => sc_step_modulus.nd) (fun _ => rfl) (fun _ => .inl rfl)) (sds_one (sd_set (fun _ => sc_step_modulus.nd) (fun _ => rfl) (fun _ => .inl rfl) (pd_gcd (fun _ => by rfl) (fun _ => T.b_gcd) (pad_cons (PD.settle (pd_var (fun _ => pv 1))) (pad_cons (PD.settle (pd_sub (PD.settle (pd_var (fun _ => pv 2))) (PD.settle (pd_ix (PD.settle (pd_var (fun _ => pv 0))) (PD.settle pd_int))))) pad_nil))))))
    (sds_one (sd_ret (pd_var (fun _ => pv 1))))))
theorem ok_steps_between {f : Addr} {fd : FuncData} (T : Top mg) (Fu : Fun K "steps_between" "steps_between" s_steps_between f fd) (g : mg "steps_between" = some (.ref f)) (b : Binds K fd ["marks"] [])  : DefOk P w K mg base 1 "steps_between" 1 f_steps_between := by
  refine def_ok (k := 0) Fu g b sc_steps_between (by decide) rfl fun cdv A outer s H E hr => ?_
  exact (sds_cons (sd_set (fun _ => sc_steps_between.nd) (fun _ => rfl) (fun _ => .inr rfl) (pd_len (fun _ => by rfl) (fun _ => T.b_len) (pad_cons (PD.settle (pd_var (fun _ => pv 0))) pad_nil)))
    (sds_one (sd_ret (pd_tupleOf (fun _ => by rfl) (fun _ => T.b_tuple) (pad_cons (PD.settle (pd_lc (own := [("seat", 2)]) (fun _ => rfl) (fun _ => sc_steps_between.nd) (pid_rg1 (fun _ => by rfl) (fun _ => T.b_range) (pad_cons (PD.settle (pd_var (fun _ => pv 1))) pad_nil)) (fun _ => blkOk_by (N := N_steps_between) (sc := defScope s_steps_between) (by decide +kernel)) rfl (pgd_name (fun _ => sc_steps_between.nd) (fun _ => rfl) (fun _ => .inl rfl)) (by decide) tsd_nil (pd_sub (PD.settle (pd_ix (PD.settle (pd_var (fun _ => pv 0))) (PD.settle (pd_mod (PD.settle (pd_add (PD.settle (pd_var (fun _ => pv 2))) (PD.settle pd_int))) (PD.settle (pd_var (fun _ => pv 1))))))) (PD.settle (pd_ix (PD.settle (pd_var (fun _ => pv 0))) (PD.settle (pd_var (fun _ => pv 2)))))))) pad_nil)))))
theorem ok_find_modulus {f : Addr} {fd : FuncData} (T : Top mg) (Fu : Fun K "find_modulus" "find_modulus" s_find_modulus f fd) (g : mg "find_modulus" = some (.ref f)) (b : Binds K fd ["marks"] []) (D_check_ring : DefOk P w K mg base 3 "check_ring" 1 f_check_ring) (D_step_modulus : DefOk P w K mg base 1 "step_modulus" 1 f_step_modulus) (D_steps_between : DefOk P w K mg base 1 "steps_between" 1 f_steps_between) : DefOk P w K mg base 4 "find_modulus" 1 f_find_modulus := by
  refine def_ok (k := 3) Fu g b sc_find_modulus (by decide) rfl fun cdv A outer s H E hr => ?_
  exact (sds_cons (sd_expr (pd_callD D_check_ring (ofOne rfl rfl rfl rfl rfl) rfl (fun i => hr.mono (j := 3) (by decide)) (fun _ => by rfl) (fun _ => takes_of rfl rfl rfl rfl) (pad_cons (PD.settle (pd_var (fun _ => pv 0))) pad_nil)))
    (sds_one (sd_ret (pd_callD D_step_modulus (ofOne rfl rfl rfl rfl rfl) rfl (fun i => hr.mono (j := 1) (by decide)) (fun _ => by rfl) (fun _ => takes_of rfl rfl rfl rfl) (pad_cons (PD.settle (pd_callD D_steps_between (ofOne rfl rfl rfl rfl rfl) rfl (fun i => hr.mono (j := 1) (by decide)) (fun _ => by rfl) (fun _ => takes_of rfl rfl rfl rfl) (pad_cons (PD.settle (pd_var (fun _ => pv 0))) pad_nil))) pad_nil)))))
theorem ok_find_step_difference {f : Addr} {fd : FuncData} (T : Top mg) (Fu : Fun K "find_step_difference" "find_step_difference" s_find_step_difference f fd) (g : mg "find_step_difference" = some (.ref f)) (b : Binds K fd ["first", "second"] [])  : DefOk P w K mg base 1 "find_step_difference" 2 f_find_step_difference := by
  refine def_ok (k := 0) Fu g b sc_find_step_difference (by decide) rfl fun cdv A outer s H E hr => ?_
  exact (sds_cons (sd_for (fun _ => passes_of rfl) (fun _ => rfl) (pid_seq (pd_sortSet (ofOne rfl rfl rfl rfl rfl).w (fun _ => rfl) (fun _ => by rfl) (fun _ => T.b_sorted) (fun _ => by rfl) (fun _ => T.b_set) (pad_cons (PD.settle (pd_add (PD.settle (pd_var (fun _ => pv 0))) (PD.settle (pd_var (fun _ => pv 1))))) pad_nil))) (pgd_name (fun _ => sc_find_step_difference.nd) (fun _ => rfl) (fun _ => .inl rfl)) (sds_one (sd_if (td_ne (fun _ => hr.units) (PD.settle (pd_count (PD.settle (pd_var (fun _ => pv 0))) (PD.settle (pd_var (fun _ => pv 2))))) (PD.settle (pd_count (PD.settle (pd_var (fun _ => pv 1))) (PD.settle (pd_var (fun _ => pv 2)))))) (sds_one (sd_ret (pd_tup (q := tC .non) (ptd_cons pd_str (ptd_cons (pd_var (fun _ => pv 2)) (ptd_cons (pd_count (PD.settle (pd_var (fun _ => pv 0))) (PD.settle (pd_var (fun _ => pv 2)))) (ptd_cons (pd_count (PD.settle (pd_var (fun _ => pv 1))) (PD.settle (pd_var (fun _ => pv 2)))) ptd_nil)))) (Nat.le_of_ble_eq_true rfl)))) sds_nil)))
    (sds_one (sd_ret pd_non)))
theorem ok_find_mark_difference {f : Addr} {fd : FuncData} (T : Top mg) (Fu : Fun K "find_mark_difference" "find_mark_difference" s_find_mark_difference f fd) (g : mg "find_mark_difference" = some (.ref f)) (b : Binds K fd ["first", "second"] []) (D_step_modulus : DefOk P w K mg base 1 "step_modulus" 1 f_step_modulus) (D_steps_between : DefOk P w K mg base 1 "steps_between" 1 f_steps_between) : DefOk P w K mg base 2 "find_mark_difference" 2 f_find_mark_difference := by
  refine def_ok (k := 1) Fu g b sc_find_mark_difference (by decide) rfl fun cdv A outer s H E hr => ?_
  exact (sds_cons (sd_par (fun _ => rfl) (fun _ => sc_find_mark_difference.nd) (fun _ => rfl) (fun _ => rfl) (by decide) (fun _ => rfl) (fun _ => rfl) (ptd_cons (pd_ix (PD.settle (pd_var (fun _ => pv 0))) (PD.settle pd_int)) (ptd_cons (pd_ix (PD.settle (pd_var (fun _ => pv 1))) (PD.settle pd_int)) ptd_nil)) (fun _ => by rfl))
    (sds_cons (sd_set (fun _ => sc_find_mark_difference.nd) (fun _ => rfl) (fun _ => .inl rfl) (pd_callD D_step_modulus (ofOne rfl rfl rfl rfl rfl) rfl (fun i => hr.mono (j := 1) (by decide)) (fun _ => by rfl) (fun _ => takes_of rfl rfl rfl rfl) (pad_cons (PD.settle (pd_callD D_steps_between (ofOne rfl rfl rfl rfl rfl) rfl (fun i => hr.mono (j := 1) (by decide)) (fun _ => by rfl) (fun _ => takes_of rfl rfl rfl rfl) (pad_cons (PD.settle (pd_var (fun _ => pv 0))) pad_nil))) pad_nil)))
    (sds_cons (sd_if (td_ne (fun _ => hr.units) (PD.settle (pd_var (fun _ => pv 4))) (PD.settle pd_int)) (sds_one (sd_par (fun _ => rfl) (fun _ => sc_find_mark_difference.nd) (fun _ => rfl) (fun _ => rfl) (by decide) (fun _ => rfl) (fun _ => rfl) (ptd_cons (pd_mod (PD.settle (pd_var (fun _ => pv 2))) (PD.settle (pd_var (fun _ => pv 4)))) (ptd_cons (pd_mod (PD.settle (pd_var (fun _ => pv 3))) (PD.settle (pd_var (fun _ => pv 4)))) ptd_nil)) (fun _ => by rfl))) sds_nil)
    (sds_cons (sd_if (td_ne (fun _ => hr.units) (PD.settle (pd_var (fun _ => pv 2))) (PD.settle (pd_var (fun _ => pv 3)))) (sds_one (sd_ret (pd_tup (q := tC .non) (ptd_cons pd_str (ptd_cons (pd_var (fun _ => pv 2)) (ptd_cons (pd_var (fun _ => pv 3)) ptd_nil))) (Nat.le_of_ble_eq_true rfl)))) sds_nil)
    (sds_one (sd_ret pd_non))))))
theorem ok_difference_between {f : Addr} {fd : FuncData} (T : Top mg) (Fu : Fun K "difference_between" "difference_between" s_difference_between f fd) (g : mg "difference_between" = some (.ref f)) (b : Binds K fd ["first", "second"] []) (D_find_step_difference : DefOk P w K mg base 1 "find_step_difference" 2 f_find_step_difference) (D_find_mark_difference : DefOk P w K mg base 2 "find_mark_difference" 2 f_find_mark_difference) (D_steps_between : DefOk P w K mg base 1 "steps_between" 1 f_steps_between) : DefOk P w K mg base 3 "difference_between" 2 f_difference_between := by
  refine def_ok (k := 2) Fu g b sc_difference_between (by decide) rfl fun cdv A outer s H E hr => ?_
  exact (sds_cons (sd_if (td_ne (fun _ => hr.units) (PD.settle (pd_len (fun _ => by rfl) (fun _ => T.b_len) (pad_cons (PD.settle (pd_var (fun _ => pv 0))) pad_nil))) (PD.settle (pd_len (fun _ => by rfl) (fun _ => T.b_len) (pad_cons (PD.settle (pd_var (fun _ => pv 1))) pad_nil)))) (sds_one (sd_ret (pd_tup (q := tC .non) (ptd_cons pd_str (ptd_cons (pd_len (fun _ => by rfl) (fun _ => T.b_len) (pad_cons (PD.settle (pd_var (fun _ => pv 0))) pad_nil)) (ptd_cons (pd_len (fun _ => by rfl) (fun _ => T.b_len) (pad_cons (PD.settle (pd_var (fun _ => pv 1))) pad_nil)) ptd_nil))) (Nat.le_of_ble_eq_true rfl)))) sds_nil)
    (sds_cons (sd_set (fun _ => sc_difference_between.nd) (fun _ => rfl) (fun _ => .inl rfl) (pd_callD D_find_step_difference (ofOne rfl rfl rfl rfl rfl) rfl (fun i => hr.mono (j := 1) (by decide)) (fun _ => by rfl) (fun _ => takes_of rfl rfl rfl rfl) (pad_cons (PD.settle (pd_callD D_steps_between (ofOne rfl rfl rfl rfl rfl) rfl (fun i => hr.mono (j := 1) (by decide)) (fun _ => by rfl) (fun _ => takes_of rfl rfl rfl rfl) (pad_cons (PD.settle (pd_var (fun _ => pv 0))) pad_nil))) (pad_cons (PD.settle (pd_callD D_steps_between (ofOne rfl rfl rfl rfl rfl) rfl (fun i => hr.mono (j := 1) (by decide)) (fun _ => by rfl) (fun _ => takes_of rfl rfl rfl rfl) (pad_cons (PD.settle (pd_var (fun _ => pv 1))) pad_nil))) pad_nil))))
    (sds_cons (sd_if (td_isnot (PD.settle (pd_var (fun _ => pv 2))) (PD.settle pd_non)) (sds_one (sd_ret (pd_var (fun _ => pv 2)))) sds_nil)
    (sds_one (sd_ret (pd_callD D_find_mark_difference (ofOne rfl rfl rfl rfl rfl) rfl (fun i => hr.mono (j := 2) (by decide)) (fun _ => by rfl) (fun _ => takes_of rfl rfl rfl rfl) (pad_cons (PD.settle (pd_var (fun _ => pv 0))) (pad_cons (PD.settle (pd_var (fun _ => pv 1))) pad_nil))))))))
theorem ok_find_difference {f : Addr} {fd : FuncData} (T : Top mg) (Fu : Fun K "find_difference" "find_difference" s_find_difference f fd) (g : mg "find_difference" = some (.ref f)) (b : Binds K fd ["first", "second"] []) (D_check_ring : DefOk P w K mg base 3 "check_ring" 1 f_check_ring) (D_difference_between : DefOk P w K mg base 3 "difference_between" 2 f_difference_between) : DefOk P w K mg base 4 "find_difference" 2 f_find_difference := by
  refine def_ok (k := 3) Fu g b sc_find_difference (by decide) rfl fun cdv A outer s H E hr => ?_
  exact (sds_cons (sd_expr (pd_callD D_check_ring (ofOne rfl rfl rfl rfl rfl) rfl (fun i => hr.mono (j := 3) (by decide)) (fun _ => by rfl) (fun _ => takes_of rfl rfl rfl rfl) (pad_cons (PD.settle (pd_var (fun _ => pv 0))) pad_nil)))
    (sds_cons (sd_expr (pd_callD D_check_ring (ofOne rfl rfl rfl rfl rfl) rfl (fun i => hr.mono (j := 3) (by decide)) (fun _ => by rfl) (fun _ => takes_of rfl rfl rfl rfl) (pad_cons (PD.settle (pd_var (fun _ => pv 1))) pad_nil)))
    (sds_one (sd_ret (pd_callD D_difference_between (ofOne rfl rfl rfl rfl rfl) rfl (fun i => hr.mono (j := 3) (by decide)) (fun _ => by rfl) (fun _ => takes_of rfl rfl rfl rfl) (pad_cons (PD.settle (pd_var (fun _ => pv 0))) (pad_cons (PD.settle (pd_var (fun _ => pv 1))) pad_nil)))))))
theorem ok_reflected_mark {f : Addr} {fd : FuncData} (T : Top mg) (Fu : Fun K "reflected_mark" "reflected_mark" s_reflected_mark f fd) (g : mg "reflected_mark" = some (.ref f)) (b : Binds K fd ["marks", "seat"] [])  : DefOk P w K mg base 1 "reflected_mark" 2 f_reflected_mark := by
  refine def_ok (k := 0) Fu g b sc_reflected_mark (by decide) rfl fun cdv A outer s H E hr => ?_
  exact (sds_cons (sd_set (fun _ => sc_reflected_mark.nd) (fun _ => rfl) (fun _ => .inl rfl) (pd_mod (PD.settle (pd_add (PD.settle (pd_var (fun _ => pv 1))) (PD.settle pd_int))) (PD.settle (pd_len (fun _ => by rfl) (fun _ => T.b_len) (pad_cons (PD.settle (pd_var (fun _ => pv 0))) pad_nil)))))
    (sds_one (sd_ret (pd_sub (PD.settle (pd_add (PD.settle (pd_ix (PD.settle (pd_var (fun _ => pv 0))) (PD.settle (pd_sub (PD.settle (pd_var (fun _ => pv 1))) (PD.settle pd_int))))) (PD.settle (pd_ix (PD.settle (pd_var (fun _ => pv 0))) (PD.settle (pd_var (fun _ => pv 2))))))) (PD.settle (pd_ix (PD.settle (pd_var (fun _ => pv 0))) (PD.settle (pd_var (fun _ => pv 1)))))))))
theorem ok_reflect_seats {f : Addr} {fd : FuncData} (T : Top mg) (Fu : Fun K "reflect_seats" "reflect_seats" s_reflect_seats f fd) (g : mg "reflect_seats" = some (.ref f)) (b : Binds K fd ["marks", "seats"] []) (D_reflected_mark : DefOk P w K mg base 1 "reflected_mark" 2 f_reflected_mark) : DefOk P w K mg base 2 "reflect_seats" 2 f_reflect_seats := by
  refine def_ok (k := 1) Fu g b sc_reflect_seats (by decide) rfl fun cdv A outer s H E hr => ?_
  exact (sds_cons (sd_set (fun _ => sc_reflect_seats.nd) (fun _ => rfl) (fun _ => .inl rfl) (pd_listOf (fun _ => by rfl) (fun _ => T.b_list) (pad_cons (PD.settle (pd_var (fun _ => pv 0))) pad_nil)))
    (sds_cons (sd_for (fun _ => passes_of rfl) (fun _ => rfl) (pid_seq (pd_var (fun _ => pv 1))) (pgd_name (fun _ => sc_reflect_seats.nd) (fun _ => rfl) (fun _ => .inl rfl)) (sds_one (sd_setIx (fun _ => pv 2) (pd_var (fun _ => pv 3)) (pd_callD D_reflected_mark (ofOne rfl rfl rfl rfl rfl) rfl (fun i => hr.mono (j := 1) (by decide)) (fun _ => by rfl) (fun _ => takes_of rfl rfl rfl rfl) (pad_cons (PD.settle (pd_var (fun _ => pv 2))) (pad_cons (PD.settle (pd_var (fun _ => pv 3))) pad_nil))))))
    (sds_one (sd_ret (pd_tupleOf (fun _ => by rfl) (fun _ => T.b_tuple) (pad_cons (PD.settle (pd_var (fun _ => pv 2))) pad_nil))))))
theorem ok_apply_moves {f DK TK : Addr} {an fod : Option Addr} {tn : Nat} {sl fsl : Array (Option Value)} {oc doc pm cdv0 ct : Value} (T : Top mg) (lk : K.lookup f = some ⟨oc, fod, .func (PySem.W.fnOf "apply_moves" "apply_moves" (defArgs s_apply_moves) (defBody s_apply_moves) (defScope s_apply_moves) .none (.ref DK) doc pm an cdv0 ct), fsl⟩) (hcd : PySem.W.codeIn K cdv0 "apply_moves" = true) (hkp : PySem.W.keepIn K (.ref f) = true)
    (hd : PySem.W.nsIn K DK "pins" = some (some (.ref TK))) (hT : K.lookup TK = some ⟨.type "tuple", none, .seq #[] tn, sl⟩) (g : mg "apply_moves" = some (.ref f)) (D_check_ring : DefOk P w K mg base 3 "check_ring" 1 f_check_ring) (D_check_pins : DefOk P w K mg base 3 "check_pins" 2 f_check_pins) (D_check_moves : DefOk P w K mg base 3 "check_moves" 3 f_check_moves) (D_reflect_seats : DefOk P w K mg base 2 "reflect_seats" 2 f_reflect_seats) : DefOkK P w K mg base 4 "apply_moves" 2 ["pins"] [PyData.tuple []] f_apply_moves := by
  refine def_okK (k := 3) lk hcd hkp hd hT g sc_apply_moves (by decide) rfl (fun _ _ _ _ _ _ us ks hl hk => match us, hl, ks, hk with | [_, _], _, [_], _ => ⟨_, _, _, _, _, _, rfl, rfl, rfl⟩) (fun us ws hl hw => match us, hl, ws, hw with | [_, _], _, [_], _ => rfl) fun cdv A outer s H E hr => ?_
  exact (sds_cons (sd_expr (pd_callD D_check_ring (ofOne rfl rfl rfl rfl rfl) rfl (fun i => hr.mono (j := 3) (by decide)) (fun _ => by rfl) (fun _ => takes_of rfl rfl rfl rfl) (pad_cons (PD.settle (pd_var (fun _ => pv 0))) pad_nil)))
    (sds_cons (sd_expr (pd_callD D_check_pins (ofOne rfl rfl rfl rfl rfl) rfl (fun i => hr.mono (j := 3) (by decide)) (fun _ => by rfl) (fun _ => takes_of rfl rfl rfl rfl) (pad_cons (PD.settle (pd_var (fun _ => pv 2))) (pad_cons (PD.settle (pd_len (fun _ => by rfl) (fun _ => T.b_len) (pad_cons (PD.settle (pd_var (fun _ => pv 0))) pad_nil))) pad_nil))))
    (sds_cons (sd_expr (pd_callD D_check_moves (ofOne rfl rfl rfl rfl rfl) rfl (fun i => hr.mono (j := 3) (by decide)) (fun _ => by rfl) (fun _ => takes_of rfl rfl rfl rfl) (pad_cons (PD.settle (pd_var (fun _ => pv 1))) (pad_cons (PD.settle (pd_len (fun _ => by rfl) (fun _ => T.b_len) (pad_cons (PD.settle (pd_var (fun _ => pv 0))) pad_nil))) (pad_cons (PD.settle (pd_var (fun _ => pv 2))) pad_nil)))))
    (sds_one (sd_ret (pd_callD D_reflect_seats (ofOne rfl rfl rfl rfl rfl) rfl (fun i => hr.mono (j := 2) (by decide)) (fun _ => by rfl) (fun _ => takes_of rfl rfl rfl rfl) (pad_cons (PD.settle (pd_var (fun _ => pv 0))) (pad_cons (PD.settle (pd_var (fun _ => pv 1))) pad_nil))))))))
theorem ok_check_block {f : Addr} {fd : FuncData} (T : Top mg) (Fu : Fun K "check_block" "check_block" s_check_block f fd) (g : mg "check_block" = some (.ref f)) (b : Binds K fd ["marks", "block"] []) (D_check_ring : DefOk P w K mg base 3 "check_ring" 1 f_check_ring) (D_check_moves : DefOk P w K mg base 3 "check_moves" 3 f_check_moves) : DefOk P w K mg base 4 "check_block" 2 f_check_block := by
  refine def_ok (k := 3) Fu g b sc_check_block (by decide) rfl fun cdv A outer s H E hr => ?_
  exact (sds_cons (sd_expr (pd_callD D_check_ring (ofOne rfl rfl rfl rfl rfl) rfl (fun i => hr.mono (j := 3) (by decide)) (fun _ => by rfl) (fun _ => takes_of rfl rfl rfl rfl) (pad_cons (PD.settle (pd_var (fun _ => pv 0))) pad_nil)))
    (sds_one (sd_expr (pd_callD D_check_moves (ofOne rfl rfl rfl rfl rfl) rfl (fun i => hr.mono (j := 3) (by decide)) (fun _ => by rfl) (fun _ => takes_of rfl rfl rfl rfl) (pad_cons (PD.settle (pd_var (fun _ => pv 1))) (pad_cons (PD.settle (pd_len (fun _ => by rfl) (fun _ => T.b_len) (pad_cons (PD.settle (pd_var (fun _ => pv 0))) pad_nil))) (pad_cons (PD.settle (pd_tup (q := tC .non) ptd_nil (Nat.le_of_ble_eq_true rfl))) pad_nil)))))))
theorem ok_rings_of_round {f : Addr} {fd : FuncData} (T : Top mg) (Fu : Fun K "rings_of_round" "rings_of_round" s_rings_of_round f fd) (g : mg "rings_of_round" = some (.ref f)) (b : Binds K fd ["marks", "block"] []) (D_steps_between : DefOk P w K mg base 1 "steps_between" 1 f_steps_between) (D_reflect_seats : DefOk P w K mg base 2 "reflect_seats" 2 f_reflect_seats) : DefOk P w K mg base 3 "rings_of_round" 2 f_rings_of_round := by
  refine def_ok (k := 2) Fu g b sc_rings_of_round (by decide) rfl fun cdv A outer s H E hr => ?_
  exact (sds_cons (sd_set (fun _ => sc_rings_of_round.nd) (fun _ => rfl) (fun _ => .inl rfl) (pd_callD D_steps_between (ofOne rfl rfl rfl rfl rfl) rfl (fun i => hr.mono (j := 1) (by decide)) (fun _ => by rfl) (fun _ => takes_of rfl rfl rfl rfl) (pad_cons (PD.settle (pd_var (fun _ => pv 0))) pad_nil)))
    (sds_cons (sd_set (fun _ => sc_rings_of_round.nd) (fun _ => rfl) (fun _ => .inl rfl) (pd_lst (ptd_cons (pd_var (fun _ => pv 0)) (ptd_cons (pd_callD D_reflect_seats (ofOne rfl rfl rfl rfl rfl) rfl (fun i => hr.mono (j := 2) (by decide)) (fun _ => by rfl) (fun _ => takes_of rfl rfl rfl rfl) (pad_cons (PD.settle (pd_var (fun _ => pv 0))) (pad_cons (PD.settle (pd_var (fun _ => pv 1))) pad_nil))) ptd_nil)) (Nat.le_of_ble_eq_true rfl)))
    (sds_cons (sd_while (fun _ => passes_of rfl) (td_ne (fun _ => hr.units) (PD.settle (pd_callD D_steps_between (ofOne rfl rfl rfl rfl rfl) rfl (fun i => hr.mono (j := 1) (by decide)) (fun _ => by rfl) (fun _ => takes_of rfl rfl rfl rfl) (pad_cons (PD.settle (pd_ix (PD.settle (pd_var (fun _ => pv 3))) (PD.settle (pd_neg (PD.settle pd_int))))) pad_nil))) (PD.settle (pd_var (fun _ => pv 2)))) (sds_one (sd_expr (pd_mut PySem.F.slot_list_append PySem.F.type_list_append (fun _ => mt_append) mg_app (fun _ => pv 3) (ptd_cons (pd_callD D_reflect_seats (ofOne rfl rfl rfl rfl rfl) rfl (fun i => hr.mono (j := 2) (by decide)) (fun _ => by rfl) (fun _ => takes_of rfl rfl rfl rfl) (pad_cons (PD.settle (pd_ix (PD.settle (pd_var (fun _ => pv 3))) (PD.settle (pd_neg (PD.settle pd_int))))) (pad_cons (PD.settle (pd_var (fun _ => pv 1))) pad_nil))) ptd_nil)))))
    (sds_one (sd_ret (pd_var (fun _ => pv 3)))))))
theorem ok_repeat_seats {f : Addr} {fd : FuncData} (T : Top mg) (Fu : Fun K "repeat_seats" "repeat_seats" s_repeat_seats f fd) (g : mg "repeat_seats" = some (.ref f)) (b : Binds K fd ["marks", "block", "times"] []) (D_rings_of_round : DefOk P w K mg base 3 "rings_of_round" 2 f_rings_of_round) : DefOk P w K mg base 4 "repeat_seats" 3 f_repeat_seats := by
  refine def_ok (k := 3) Fu g b sc_repeat_seats (by decide) rfl fun cdv A outer s H E hr => ?_
  exact (sds_cons (sd_set (fun _ => sc_repeat_seats.nd) (fun _ => rfl) (fun _ => .inl rfl) (pd_callD D_rings_of_round (ofOne rfl rfl rfl rfl rfl) rfl (fun i => hr.mono (j := 3) (by decide)) (fun _ => by rfl) (fun _ => takes_of rfl rfl rfl rfl) (pad_cons (PD.settle (pd_var (fun _ => pv 0))) (pad_cons (PD.settle (pd_var (fun _ => pv 1))) pad_nil))))
    (sds_cons (sd_asg (pgd_tup (fun _ => rfl) (pgsd_cons (pgd_name (fun _ => sc_repeat_seats.nd) (fun _ => rfl) (fun _ => .inl rfl)) (pgsd_cons (pgd_name (fun _ => sc_repeat_seats.nd) (fun _ => rfl) (fun _ => .inl rfl)) pgsd_nil))) (pd_divmod (fun _ => by rfl) (fun _ => T.b_divmod) (pad_cons (PD.settle (pd_var (fun _ => pv 2))) (pad_cons (PD.settle (pd_sub (PD.settle (pd_len (fun _ => by rfl) (fun _ => T.b_len) (pad_cons (PD.settle (pd_var (fun _ => pv 3))) pad_nil))) (PD.settle pd_int))) pad_nil))))
    (sds_cons (sd_set (fun _ => sc_repeat_seats.nd) (fun _ => rfl) (fun _ => .inr rfl) (pd_mul (PD.settle (pd_var (fun _ => pv 4))) (PD.settle (pd_sub (PD.settle (pd_ix (PD.settle (pd_ix (PD.settle (pd_var (fun _ => pv 3))) (PD.settle (pd_neg (PD.settle pd_int))))) (PD.settle pd_int))) (PD.settle (pd_ix (PD.settle (pd_var (fun _ => pv 0))) (PD.settle pd_int)))))))
    (sds_one (sd_ret (pd_tupleOf (fun _ => by rfl) (fun _ => T.b_tuple) (pad_cons (PD.settle (pd_lc (own := [("mark", 7)]) (fun _ => rfl) (fun _ => sc_repeat_seats.nd) (pid_seq (pd_ix (PD.settle (pd_var (fun _ => pv 3))) (PD.settle (pd_var (fun _ => pv 5))))) (fun _ => blkOk_by (N := N_repeat_seats) (sc := defScope s_repeat_seats) (by decide +kernel)) rfl (pgd_name (fun _ => sc_repeat_seats.nd) (fun _ => rfl) (fun _ => .inl rfl)) (by decide) tsd_nil (pd_add (PD.settle (pd_var (fun _ => pv 7))) (PD.settle (pd_var (fun _ => pv 6)))))) pad_nil)))))))
theorem ok_repeat_block {f : Addr} {fd : FuncData} (T : Top mg) (Fu : Fun K "repeat_block" "repeat_block" s_repeat_block f fd) (g : mg "repeat_block" = some (.ref f)) (b : Binds K fd ["marks", "block", "times"] []) (D_check_block : DefOk P w K mg base 4 "check_block" 2 f_check_block) (D_check_times : DefOk P w K mg base 2 "check_times" 1 f_check_times) (D_repeat_seats : DefOk P w K mg base 4 "repeat_seats" 3 f_repeat_seats) : DefOk P w K mg base 5 "repeat_block" 3 f_repeat_block := by
  refine def_ok (k := 4) Fu g b sc_repeat_block (by decide) rfl fun cdv A outer s H E hr => ?_
  exact (sds_cons (sd_expr (pd_callD D_check_block (ofOne rfl rfl rfl rfl rfl) rfl (fun i => hr.mono (j := 4) (by decide)) (fun _ => by rfl) (fun _ => takes_of rfl rfl rfl rfl) (pad_cons (PD.settle (pd_var (fun _ => pv 0))) (pad_cons (PD.settle (pd_var (fun _ => pv 1))) pad_nil))))
    (sds_cons (sd_expr (pd_callD D_check_times (ofOne rfl rfl rfl rfl rfl) rfl (fun i => hr.mono (j := 2) (by decide)) (fun _ => by rfl) (fun _ => takes_of rfl rfl rfl rfl) (pad_cons (PD.settle (pd_var (fun _ => pv 2))) pad_nil)))
    (sds_one (sd_ret (pd_callD D_repeat_seats (ofOne rfl rfl rfl rfl rfl) rfl (fun i => hr.mono (j := 4) (by decide)) (fun _ => by rfl) (fun _ => takes_of rfl rfl rfl rfl) (pad_cons (PD.settle (pd_var (fun _ => pv 0))) (pad_cons (PD.settle (pd_var (fun _ => pv 1))) (pad_cons (PD.settle (pd_var (fun _ => pv 2))) pad_nil))))))))
theorem ok_block_drift {f : Addr} {fd : FuncData} (T : Top mg) (Fu : Fun K "block_drift" "block_drift" s_block_drift f fd) (g : mg "block_drift" = some (.ref f)) (b : Binds K fd ["marks", "block"] []) (D_check_block : DefOk P w K mg base 4 "check_block" 2 f_check_block) (D_rings_of_round : DefOk P w K mg base 3 "rings_of_round" 2 f_rings_of_round) : DefOk P w K mg base 5 "block_drift" 2 f_block_drift := by
  refine def_ok (k := 4) Fu g b sc_block_drift (by decide) rfl fun cdv A outer s H E hr => ?_
  exact (sds_cons (sd_expr (pd_callD D_check_block (ofOne rfl rfl rfl rfl rfl) rfl (fun i => hr.mono (j := 4) (by decide)) (fun _ => by rfl) (fun _ => takes_of rfl rfl rfl rfl) (pad_cons (PD.settle (pd_var (fun _ => pv 0))) (pad_cons (PD.settle (pd_var (fun _ => pv 1))) pad_nil))))
    (sds_cons (sd_set (fun _ => sc_block_drift.nd) (fun _ => rfl) (fun _ => .inl rfl) (pd_callD D_rings_of_round (ofOne rfl rfl rfl rfl rfl) rfl (fun i => hr.mono (j := 3) (by decide)) (fun _ => by rfl) (fun _ => takes_of rfl rfl rfl rfl) (pad_cons (PD.settle (pd_var (fun _ => pv 0))) (pad_cons (PD.settle (pd_var (fun _ => pv 1))) pad_nil))))
    (sds_one (sd_ret (pd_tup (q := tC .non) (ptd_cons (pd_sub (PD.settle (pd_len (fun _ => by rfl) (fun _ => T.b_len) (pad_cons (PD.settle (pd_var (fun _ => pv 2))) pad_nil))) (PD.settle pd_int)) (ptd_cons (pd_sub (PD.settle (pd_ix (PD.settle (pd_ix (PD.settle (pd_var (fun _ => pv 2))) (PD.settle (pd_neg (PD.settle pd_int))))) (PD.settle pd_int))) (PD.settle (pd_ix (PD.settle (pd_var (fun _ => pv 0))) (PD.settle pd_int)))) ptd_nil)) (Nat.le_of_ble_eq_true rfl))))))
theorem ok_check_pinned_ring {f : Addr} {fd : FuncData} (T : Top mg) (Fu : Fun K "check_pinned_ring" "check_pinned_ring" s_check_pinned_ring f fd) (g : mg "check_pinned_ring" = some (.ref f)) (b : Binds K fd ["marks", "pins"] []) (D_check_ring : DefOk P w K mg base 3 "check_ring" 1 f_check_ring) (D_check_some_pins : DefOk P w K mg base 4 "check_some_pins" 2 f_check_some_pins) : DefOk P w K mg base 5 "check_pinned_ring" 2 f_check_pinned_ring := by
  refine def_ok (k := 4) Fu g b sc_check_pinned_ring (by decide) rfl fun cdv A outer s H E hr => ?_
  exact (sds_cons (sd_expr (pd_callD D_check_ring (ofOne rfl rfl rfl rfl rfl) rfl (fun i => hr.mono (j := 3) (by decide)) (fun _ => by rfl) (fun _ => takes_of rfl rfl rfl rfl) (pad_cons (PD.settle (pd_var (fun _ => pv 0))) pad_nil)))
    (sds_one (sd_expr (pd_callD D_check_some_pins (ofOne rfl rfl rfl rfl rfl) rfl (fun i => hr.mono (j := 4) (by decide)) (fun _ => by rfl) (fun _ => takes_of rfl rfl rfl rfl) (pad_cons (PD.settle (pd_var (fun _ => pv 1))) (pad_cons (PD.settle (pd_len (fun _ => by rfl) (fun _ => T.b_len) (pad_cons (PD.settle (pd_var (fun _ => pv 0))) pad_nil))) pad_nil))))))
theorem ok_arcs_between {f : Addr} {fd : FuncData} (T : Top mg) (Fu : Fun K "arcs_between" "arcs_between" s_arcs_between f fd) (g : mg "arcs_between" = some (.ref f)) (b : Binds K fd ["marks", "pins"] []) (D_steps_between : DefOk P w K mg base 1 "steps_between" 1 f_steps_between) : DefOk P w K mg base 2 "arcs_between" 2 f_arcs_between := by
  refine def_ok (k := 1) Fu g b sc_arcs_between (by decide) rfl fun cdv A outer s H E hr => ?_
  exact (sds_cons (sd_set (fun _ => sc_arcs_between.nd) (fun _ => rfl) (fun _ => .inr rfl) (pd_repT (PD.settle (pd_callD D_steps_between (ofOne rfl rfl rfl rfl rfl) rfl (fun i => hr.mono (j := 1) (by decide)) (fun _ => by rfl) (fun _ => takes_of rfl rfl rfl rfl) (pad_cons (PD.settle (pd_var (fun _ => pv 0))) pad_nil))) (PD.settle pd_int)))
    (sds_cons (sd_set (fun _ => sc_arcs_between.nd) (fun _ => rfl) (fun _ => .inl rfl) (pd_add (PD.settle (pd_slice (PD.settle (pd_var (fun _ => pv 1))) (pod_some (PD.settle pd_int)) pod_none)) (PD.settle (pd_tup (q := tC .non) (ptd_cons (pd_add (PD.settle (pd_ix (PD.settle (pd_var (fun _ => pv 1))) (PD.settle pd_int))) (PD.settle (pd_len (fun _ => by rfl) (fun _ => T.b_len) (pad_cons (PD.settle (pd_var (fun _ => pv 0))) pad_nil)))) ptd_nil) (Nat.le_of_ble_eq_true rfl)))))
    (sds_one (sd_ret (pd_lc (own := [("pin", 4), ("end", 5)]) (fun _ => rfl) (fun _ => sc_arcs_between.nd) (pid_zip2 (fun _ => by rfl) (fun _ => T.b_zip) (pad_cons (PD.settle (pd_var (fun _ => pv 1))) (pad_cons (PD.settle (pd_var (fun _ => pv 3))) pad_nil))) (fun _ => blkOk_by (N := N_arcs_between) (sc := defScope s_arcs_between) (by decide +kernel)) rfl (pgd_tup (fun _ => rfl) (pgsd_cons (pgd_name (fun _ => sc_arcs_between.nd) (fun _ => rfl) (fun _ => .inl rfl)) (pgsd_cons (pgd_name (fun _ => sc_arcs_between.nd) (fun _ => rfl) (fun _ => .inl rfl)) pgsd_nil))) (by decide) tsd_nil (pd_listOf (fun _ => by rfl) (fun _ => T.b_list) (pad_cons (PD.settle (pd_slice (PD.settle (pd_var (fun _ => pv 2))) (pod_some (PD.settle (pd_var (fun _ => pv 4)))) (pod_some (PD.settle (pd_var (fun _ => pv 5)))))) pad_nil)))))))
theorem ok_count_rings {f : Addr} {fd : FuncData} (T : Top mg) (Fu : Fun K "count_rings" "count_rings" s_count_rings f fd) (g : mg "count_rings" = some (.ref f)) (b : Binds K fd ["marks", "pins"] []) (D_arcs_between : DefOk P w K mg base 2 "arcs_between" 2 f_arcs_between) (D_count_orders : DefOk P w K mg base 1 "count_orders" 1 f_count_orders) : DefOk P w K mg base 3 "count_rings" 2 f_count_rings := by
  refine def_ok (k := 2) Fu g b sc_count_rings (by decide) rfl fun cdv A outer s H E hr => ?_
  exact (sds_cons (sd_set (fun _ => sc_count_rings.nd) (fun _ => rfl) (fun _ => .inl rfl) pd_int)
    (sds_cons (sd_for (fun _ => passes_of rfl) (fun _ => rfl) (pid_seq (pd_callD D_arcs_between (ofOne rfl rfl rfl rfl rfl) rfl (fun i => hr.mono (j := 2) (by decide)) (fun _ => by rfl) (fun _ => takes_of rfl rfl rfl rfl) (pad_cons (PD.settle (pd_var (fun _ => pv 0))) (pad_cons (PD.settle (pd_var (fun _ => pv 1))) pad_nil)))) (pgd_name (fun _ => sc_count_rings.nd) (fun _ => rfl) (fun _ => .inl rfl)) (sds_one (sd_aug (fun _ => sc_count_rings.nd) (fun _ => rfl) (fun _ => .inl rfl) (PD.settle (pd_callD D_count_orders (ofOne rfl rfl rfl rfl rfl) rfl (fun i => hr.mono (j := 1) (by decide)) (fun _ => by rfl) (fun _ => takes_of rfl rfl rfl rfl) (pad_cons (PD.settle (pd_var (fun _ => pv 3))) pad_nil))) (fun _ => iop_mul) og_mul)))
    (sds_one (sd_ret (pd_var (fun _ => pv 2))))))
theorem ok_count_pinned {f : Addr} {fd : FuncData} (T : Top mg) (Fu : Fun K "count_pinned" "count_pinned" s_count_pinned f fd) (g : mg "count_pinned" = some (.ref f)) (b : Binds K fd ["marks", "pins"] []) (D_check_pinned_ring : DefOk P w K mg base 5 "check_pinned_ring" 2 f_check_pinned_ring) (D_count_rings : DefOk P w K mg base 3 "count_rings" 2 f_count_rings) : DefOk P w K mg base 6 "count_pinned" 2 f_count_pinned := by
  refine def_ok (k := 5) Fu g b sc_count_pinned (by decide) rfl fun cdv A outer s H E hr => ?_
  exact (sds_cons (sd_expr (pd_callD D_check_pinned_ring (ofOne rfl rfl rfl rfl rfl) rfl (fun i => hr.mono (j := 5) (by decide)) (fun _ => by rfl) (fun _ => takes_of rfl rfl rfl rfl) (pad_cons (PD.settle (pd_var (fun _ => pv 0))) (pad_cons (PD.settle (pd_var (fun _ => pv 1))) pad_nil))))
    (sds_one (sd_ret (pd_callD D_count_rings (ofOne rfl rfl rfl rfl rfl) rfl (fun i => hr.mono (j := 3) (by decide)) (fun _ => by rfl) (fun _ => takes_of rfl rfl rfl rfl) (pad_cons (PD.settle (pd_var (fun _ => pv 0))) (pad_cons (PD.settle (pd_var (fun _ => pv 1))) pad_nil))))))
theorem ok_l_random {f : Addr} {fd : FuncData} (T : Top mg) (Fu : Fun K "_law_random" "_law_random" s_l_random f fd) (g : mg "_law_random" = some (.ref f)) (b : Binds K fd ["_law_script", "_law_salt"] [])  : DefOk P w K mg base 1 "_law_random" 2 f_l_random := by
  refine def_ok (k := 0) Fu g b sc_l_random (by decide) rfl fun cdv A outer s H E hr => ?_
  exact (sds_cons (sd_set (fun _ => sc_l_random.nd) (fun _ => rfl) (fun _ => .inl rfl) (pd_var (fun _ => pv 1)))
    (sds_cons (sd_for (fun _ => passes_of rfl) (fun _ => rfl) (pid_seq (pd_var (fun _ => pv 0))) (pgd_name (fun _ => sc_l_random.nd) (fun _ => rfl) (fun _ => .inl rfl)) (sds_one (sd_set (fun _ => sc_l_random.nd) (fun _ => rfl) (fun _ => .inl rfl) (pd_mod (PD.settle (pd_add (PD.settle (pd_mul (PD.settle (pd_var (fun _ => pv 2))) (PD.settle pd_int))) (PD.settle (pd_abs (fun _ => by rfl) (fun _ => T.b_abs) (pad_cons (PD.settle (pd_var (fun _ => pv 3))) pad_nil))))) (PD.settle pd_int)))))
    (sds_one (sd_ret (pd_cat (pd_lst (ptd_cons (pd_var (fun _ => pv 2)) (ptd_cons pd_int ptd_nil)) (Nat.le_of_ble_eq_true rfl)) (pd_lc (own := [("_law_cell", 3)]) (fun _ => rfl) (fun _ => sc_l_random.nd) (pid_seq (pd_var (fun _ => pv 0))) (fun _ => blkOk_by (N := N_l_random) (sc := defScope s_l_random) (by decide +kernel)) rfl (pgd_name (fun _ => sc_l_random.nd) (fun _ => rfl) (fun _ => .inl rfl)) (by decide) (tsd_one (td_ge (PD.settle (pd_var (fun _ => pv 3))) (PD.settle (pd_pow (PD.settle pd_int) (PD.settle pd_int))))) (pd_var (fun _ => pv 3))))))))
theorem ok_l_below {f : Addr} {fd : FuncData} (T : Top mg) (Fu : Fun K "_law_below" "_law_below" s_l_below f fd) (g : mg "_law_below" = some (.ref f)) (b : Binds K fd ["_law_d", "_law_limit"] [])  : DefOk P w K mg base 1 "_law_below" 2 f_l_below := by
  refine def_ok (k := 0) Fu g b sc_l_below (by decide) rfl fun cdv A outer s H E hr => ?_
  exact (sds_cons (sd_if (TWD.td (twd_and (td_eq (fun _ => hr.units) (PD.settle (pd_ix (PD.settle (pd_var (fun _ => pv 0))) (PD.settle pd_int))) (PD.settle pd_int)) (twd_and1 (td_gt (PD.settle (pd_len (fun _ => by rfl) (fun _ => T.b_len) (pad_cons (PD.settle (pd_var (fun _ => pv 0))) pad_nil))) (PD.settle pd_int))))) (sds_one (sd_setIx (fun _ => pv 0) pd_int (pd_mut PySem.F.slot_list_pop PySem.F.type_list_pop (fun _ => mt_popAt) mg_popAt (fun _ => pv 0) (ptd_cons pd_int ptd_nil)))) sds_nil)
    (sds_cons (sd_if (td_gt (PD.settle (pd_ix (PD.settle (pd_var (fun _ => pv 0))) (PD.settle pd_int))) (PD.settle pd_int)) (sds_cons (sd_set (fun _ => sc_l_below.nd) (fun _ => rfl) (fun _ => .inl rfl) (pd_mod (PD.settle (pd_ix (PD.settle (pd_var (fun _ => pv 0))) (PD.settle pd_int))) (PD.settle (pd_var (fun _ => pv 1)))))
    (sds_cons (sd_setIx (fun _ => pv 0) pd_int (pd_div (PD.settle (pd_ix (PD.settle (pd_var (fun _ => pv 0))) (PD.settle pd_int))) (PD.settle (pd_var (fun _ => pv 1)))))
    (sds_one (sd_ret (pd_var (fun _ => pv 2)))))) sds_nil)
    (sds_cons (sd_setIx (fun _ => pv 0) pd_int (pd_mod (PD.settle (pd_add (PD.settle (pd_mul (PD.settle (pd_ix (PD.settle (pd_var (fun _ => pv 0))) (PD.settle pd_int))) (PD.settle pd_int))) (PD.settle pd_int))) (PD.settle pd_int)))
    (sds_one (sd_ret (pd_mod (PD.settle (pd_div (PD.settle (pd_ix (PD.settle (pd_var (fun _ => pv 0))) (PD.settle pd_int))) (PD.settle pd_int))) (PD.settle (pd_var (fun _ => pv 1)))))))))
theorem ok_l_little {f : Addr} {fd : FuncData} (T : Top mg) (Fu : Fun K "_law_little" "_law_little" s_l_little f fd) (g : mg "_law_little" = some (.ref f)) (b : Binds K fd ["_law_d", "_law_most"] []) (D_l_below : DefOk P w K mg base 1 "_law_below" 2 f_l_below) : DefOk P w K mg base 2 "_law_little" 2 f_l_little := by
  refine def_ok (k := 1) Fu g b sc_l_little (by decide) rfl fun cdv A outer s H E hr => ?_
  exact (sds_one (sd_ret (pd_tupleOf (fun _ => by rfl) (fun _ => T.b_tuple) (pad_cons (PD.settle (pd_lc (own := [("_law_seat", 2)]) (fun _ => rfl) (fun _ => sc_l_little.nd) (pid_rg1 (fun _ => by rfl) (fun _ => T.b_range) (pad_cons (PD.settle (pd_add (PD.settle pd_int) (PD.settle (pd_callD D_l_below (ofOne rfl rfl rfl rfl rfl) rfl (fun i => hr.mono (j := 1) (by decide)) (fun _ => by rfl) (fun _ => takes_of rfl rfl rfl rfl) (pad_cons (PD.settle (pd_var (fun _ => pv 0))) (pad_cons (PD.settle (pd_sub (PD.settle (pd_var (fun _ => pv 1))) (PD.settle pd_int))) pad_nil)))))) pad_nil)) (fun _ => blkOk_by (N := N_l_little) (sc := defScope s_l_little) (by decide +kernel)) rfl (pgd_name (fun _ => sc_l_little.nd) (fun _ => rfl) (fun _ => .inl rfl)) (by decide) tsd_nil (pd_callD D_l_below (ofOne rfl rfl rfl rfl rfl).blk rfl (fun i => hr.mono (j := 1) (by decide)) (fun _ => by rfl) (fun _ => takes0) (pad_cons (PD.settle (pd_var (fun _ => pv 0))) (pad_cons (PD.settle (pd_ix (PD.settle (pd_lst (ptd_cons pd_int (ptd_cons pd_int (ptd_cons pd_int ptd_nil))) (Nat.le_of_ble_eq_true rfl))) (PD.settle (pd_callD D_l_below (ofOne rfl rfl rfl rfl rfl).blk rfl (fun i => hr.mono (j := 1) (by decide)) (fun _ => by rfl) (fun _ => takes0) (pad_cons (PD.settle (pd_var (fun _ => pv 0))) (pad_cons (PD.settle pd_int) pad_nil)))))) pad_nil))))) pad_nil))))
theorem ok_l_seats {f : Addr} {fd : FuncData} (T : Top mg) (Fu : Fun K "_law_seats" "_law_seats" s_l_seats f fd) (g : mg "_law_seats" = some (.ref f)) (b : Binds K fd ["_law_d", "_law_length", "_law_many"] []) (D_l_below : DefOk P w K mg base 1 "_law_below" 2 f_l_below) : DefOk P w K mg base 2 "_law_seats" 3 f_l_seats := by
  refine def_ok (k := 1) Fu g b sc_l_seats (by decide) rfl fun cdv A outer s H E hr => ?_
  exact (sds_one (sd_ret (pd_lc (own := [("_law_k", 3)]) (fun _ => rfl) (fun _ => sc_l_seats.nd) (pid_rg1 (fun _ => by rfl) (fun _ => T.b_range) (pad_cons (PD.settle (pd_callD D_l_below (ofOne rfl rfl rfl rfl rfl) rfl (fun i => hr.mono (j := 1) (by decide)) (fun _ => by rfl) (fun _ => takes_of rfl rfl rfl rfl) (pad_cons (PD.settle (pd_var (fun _ => pv 0))) (pad_cons (PD.settle (pd_add (PD.settle (pd_var (fun _ => pv 2))) (PD.settle pd_int))) pad_nil)))) pad_nil)) (fun _ => blkOk_by (N := N_l_seats) (sc := defScope s_l_seats) (by decide +kernel)) rfl (pgd_name (fun _ => sc_l_seats.nd) (fun _ => rfl) (fun _ => .inl rfl)) (by decide) tsd_nil (pd_callD D_l_below (ofOne rfl rfl rfl rfl rfl).blk rfl (fun i => hr.mono (j := 1) (by decide)) (fun _ => by rfl) (fun _ => takes0) (pad_cons (PD.settle (pd_var (fun _ => pv 0))) (pad_cons (PD.settle (pd_var (fun _ => pv 1))) pad_nil))))))
theorem ok_l_shuffled {f : Addr} {fd : FuncData} (T : Top mg) (Fu : Fun K "_law_shuffled" "_law_shuffled" s_l_shuffled f fd) (g : mg "_law_shuffled" = some (.ref f)) (b : Binds K fd ["_law_d", "_law_items"] []) (D_l_below : DefOk P w K mg base 1 "_law_below" 2 f_l_below) : DefOk P w K mg base 2 "_law_shuffled" 2 f_l_shuffled := by
  refine def_ok (k := 1) Fu g b sc_l_shuffled (by decide) rfl fun cdv A outer s H E hr => ?_
  exact (sds_cons (sd_set (fun _ => sc_l_shuffled.nd) (fun _ => rfl) (fun _ => .inl rfl) (pd_listOf (fun _ => by rfl) (fun _ => T.b_list) (pad_cons (PD.settle (pd_var (fun _ => pv 1))) pad_nil)))
    (sds_cons (sd_set (fun _ => sc_l_shuffled.nd) (fun _ => rfl) (fun _ => .inl rfl) (pd_lst ptd_nil (Nat.le_of_ble_eq_true rfl)))
    (sds_cons (sd_while (fun _ => passes_of rfl) (td_ne (fun _ => hr.units) (PD.settle (pd_var (fun _ => pv 2))) (PD.settle (pd_lst ptd_nil (Nat.le_of_ble_eq_true rfl)))) (sds_one (sd_expr (pd_mut PySem.F.slot_list_append PySem.F.type_list_append (fun _ => mt_append) mg_app (fun _ => pv 3) (ptd_cons (pd_mut PySem.F.slot_list_pop PySem.F.type_list_pop (fun _ => mt_popAt) mg_popAt (fun _ => pv 2) (ptd_cons (pd_callD D_l_below (ofOne rfl rfl rfl rfl rfl) rfl (fun i => hr.mono (j := 1) (by decide)) (fun _ => by rfl) (fun _ => takes_of rfl rfl rfl rfl) (pad_cons (PD.settle (pd_var (fun _ => pv 0))) (pad_cons (PD.settle (pd_len (fun _ => by rfl) (fun _ => T.b_len) (pad_cons (PD.settle (pd_var (fun _ => pv 2))) pad_nil))) pad_nil))) ptd_nil)) ptd_nil)))))
    (sds_one (sd_ret (pd_var (fun _ => pv 3)))))))
theorem ok_l_pins {f : Addr} {fd : FuncData} (T : Top mg) (Fu : Fun K "_law_pins" "_law_pins" s_l_pins f fd) (g : mg "_law_pins" = some (.ref f)) (b : Binds K fd ["_law_d", "_law_length"] []) (D_l_shuffled : DefOk P w K mg base 2 "_law_shuffled" 2 f_l_shuffled) (D_l_below : DefOk P w K mg base 1 "_law_below" 2 f_l_below) : DefOk P w K mg base 3 "_law_pins" 2 f_l_pins := by
  refine def_ok (k := 2) Fu g b sc_l_pins (by decide) rfl fun cdv A outer s H E hr => ?_
  exact (sds_cons (sd_set (fun _ => sc_l_pins.nd) (fun _ => rfl) (fun _ => .inl rfl) (pd_slice (PD.settle (pd_callD D_l_shuffled (ofOne rfl rfl rfl rfl rfl) rfl (fun i => hr.mono (j := 2) (by decide)) (fun _ => by rfl) (fun _ => takes_of rfl rfl rfl rfl) (pad_cons (PD.settle (pd_var (fun _ => pv 0))) (pad_cons (PD.settle (pd_listRg (fun _ => rfl) (fun _ => by rfl) (fun _ => T.b_list) (fun _ => by rfl) (fun _ => T.b_range) (pd_var (fun _ => pv 1)))) pad_nil)))) pod_none (pod_some (PD.settle (pd_add (PD.settle pd_int) (PD.settle (pd_callD D_l_below (ofOne rfl rfl rfl rfl rfl) rfl (fun i => hr.mono (j := 1) (by decide)) (fun _ => by rfl) (fun _ => takes_of rfl rfl rfl rfl) (pad_cons (PD.settle (pd_var (fun _ => pv 0))) (pad_cons (PD.settle (pd_ix (PD.settle (pd_lst (ptd_cons pd_int (ptd_cons pd_int ptd_nil)) (Nat.le_of_ble_eq_true rfl))) (PD.settle (pd_callD D_l_below (ofOne rfl rfl rfl rfl rfl) rfl (fun i => hr.mono (j := 1) (by decide)) (fun _ => by rfl) (fun _ => takes_of rfl rfl rfl rfl) (pad_cons (PD.settle (pd_var (fun _ => pv 0))) (pad_cons (PD.settle pd_int) pad_nil)))))) pad_nil)))))))))
    (sds_one (sd_ret (pd_tupleOf (fun _ => by rfl) (fun _ => T.b_tuple) (pad_cons (PD.settle (pd_sorted (fun _ => by rfl) (fun _ => T.b_sorted) (pad_cons (PD.settle (pd_var (fun _ => pv 2))) pad_nil))) pad_nil)))))
theorem ok_law_k42 {f : Addr} {fd : FuncData} (T : Top mg) (Fu : Fun K "law" "law" s_law_k42 f fd) (D_l_random : DefOk P w K mg base 1 "_law_random" 2 f_l_random) (D_l_little : DefOk P w K mg base 2 "_law_little" 2 f_l_little) (D_apply_moves : DefOkK P w K mg base 4 "apply_moves" 2 ["pins"] [PyData.tuple []] f_apply_moves) (D_l_below : DefOk P w K mg base 1 "_law_below" 2 f_l_below) (D_repeat_block : DefOk P w K mg base 5 "repeat_block" 3 f_repeat_block) (D_block_drift : DefOk P w K mg base 5 "block_drift" 2 f_block_drift) (D_l_pins : DefOk P w K mg base 3 "_law_pins" 2 f_l_pins) (D_l_seats : DefOk P w K mg base 2 "_law_seats" 3 f_l_seats) (D_count_pinned : DefOk P w K mg base 6 "count_pinned" 2 f_count_pinned) (D_find_difference : DefOk P w K mg base 4 "find_difference" 2 f_find_difference) (D_find_modulus : DefOk P w K mg base 4 "find_modulus" 1 f_find_modulus) : FnOk P w K mg base (L2.CX P w) 7 f fd ["_law_script"] (spOf K mg 1 f_law_k42) := by
  refine fn_ok (k := 6) Fu sc_law_k42 (by decide) fun cdv A outer s H E hr => ?_
  exact (sds_cons (sd_set (fun _ => sc_law_k42.nd) (fun _ => rfl) (fun _ => .inl rfl) (pd_callD D_l_random (ofOne rfl rfl rfl rfl rfl) rfl (fun i => hr.mono (j := 1) (by decide)) (fun _ => by rfl) (fun _ => takes_of rfl rfl rfl rfl) (pad_cons (PD.settle (pd_var (fun _ => pv 0))) (pad_cons (PD.settle pd_int) pad_nil))))
    (sds_cons (sd_set (fun _ => sc_law_k42.nd) (fun _ => rfl) (fun _ => .inl rfl) (pd_callD D_l_little (ofOne rfl rfl rfl rfl rfl) rfl (fun i => hr.mono (j := 2) (by decide)) (fun _ => by rfl) (fun _ => takes_of rfl rfl rfl rfl) (pad_cons (PD.settle (pd_var (fun _ => pv 1))) (pad_cons (PD.settle pd_int) pad_nil))))
    (sds_cons (sd_asg (pgd_tup (fun _ => rfl) (pgsd_cons (pgd_name (fun _ => sc_law_k42.nd) (fun _ => rfl) (fun _ => .inr rfl)) (pgsd_cons (pgd_name (fun _ => sc_law_k42.nd) (fun _ => rfl) (fun _ => .inl rfl)) pgsd_nil))) (pd_tup (q := tC .non) (ptd_cons (pd_len (fun _ => by rfl) (fun _ => T.b_len) (pad_cons (PD.settle (pd_var (fun _ => pv 2))) pad_nil)) (ptd_cons (pd_callD D_l_seats (ofOne rfl rfl rfl rfl rfl) rfl (fun i => hr.mono (j := 2) (by decide)) (fun _ => by rfl) (fun _ => takes_of rfl rfl rfl rfl) (pad_cons (PD.settle (pd_var (fun _ => pv 1))) (pad_cons (PD.settle (pd_len (fun _ => by rfl) (fun _ => T.b_len) (pad_cons (PD.settle (pd_var (fun _ => pv 2))) pad_nil))) (pad_cons (PD.settle pd_int) pad_nil)))) ptd_nil)) (Nat.le_of_ble_eq_true rfl)))
    (sds_cons (sd_asg (pgd_tup (fun _ => rfl) (pgsd_cons (pgd_name (fun _ => sc_law_k42.nd) (fun _ => rfl) (fun _ => .inr rfl)) (pgsd_cons (pgd_name (fun _ => sc_law_k42.nd) (fun _ => rfl) (fun _ => .inr rfl)) pgsd_nil))) (pd_tup (q := tC .non) (ptd_cons (pd_callD D_l_below (ofOne rfl rfl rfl rfl rfl) rfl (fun i => hr.mono (j := 1) (by decide)) (fun _ => by rfl) (fun _ => takes_of rfl rfl rfl rfl) (pad_cons (PD.settle (pd_var (fun _ => pv 1))) (pad_cons (PD.settle (pd_var (fun _ => pv 3))) pad_nil))) (ptd_cons (pd_sub (PD.settle (pd_callD D_l_below (ofOne rfl rfl rfl rfl rfl) rfl (fun i => hr.mono (j := 1) (by decide)) (fun _ => by rfl) (fun _ => takes_of rfl rfl rfl rfl) (pad_cons (PD.settle (pd_var (fun _ => pv 1))) (pad_cons (PD.settle pd_int) pad_nil)))) (PD.settle pd_int)) ptd_nil)) (Nat.le_of_ble_eq_true rfl)))
    (sds_cons (sd_set (fun _ => sc_law_k42.nd) (fun _ => rfl) (fun _ => .inl rfl) (pd_callF D_apply_moves (ofOne rfl rfl rfl rfl rfl) rfl (fun i => hr.mono (j := 4) (by decide)) (fun _ => by rfl) (fun _ => takes_of rfl rfl rfl rfl) (pad_cons (PD.settle (pd_var (fun _ => pv 2))) (pad_cons (PD.settle (pd_var (fun _ => pv 4))) pad_nil))))
    (sds_cons (sd_setLcF (own := [("_law_ring", 18)]) (fun _ => rfl) (fun _ => sc_law_k42.nd) (fun _ => rfl) (fun _ => rfl) (fun _ => sw_true rfl rfl rfl (by decide +kernel)) (pid_seq (pd_tup (q := tC .non) (ptd_cons (pd_var (fun _ => pv 2)) (ptd_cons (pd_var (fun _ => pv 7)) ptd_nil)) (Nat.le_of_ble_eq_true rfl))) (fun _ => blkOk_by (N := N_law_k42) (sc := defScope s_law_k42) (by decide +kernel)) rfl (pgd_name (fun _ => sc_law_k42.nd) (fun _ => rfl) (fun _ => .inl rfl)) (by decide) tsd_nil (pd_add (PD.settle (pd_slice (PD.settle (pd_var (fun _ => pv 18))) (pod_some (PD.settle (pd_var (fun _ => pv 5)))) pod_none)) (PD.settle (pd_slice (PD.settle (pd_var (fun _ => pv 18))) pod_none (pod_some (PD.settle (pd_var (fun _ => pv 5))))))))
    (sds_cons (sd_setLcF (own := [("_law_ring", 18)]) (fun _ => rfl) (fun _ => sc_law_k42.nd) (fun _ => rfl) (fun _ => rfl) (fun _ => sw_true rfl rfl rfl (by decide +kernel)) (pid_seq (pd_tup (q := tC .non) (ptd_cons (pd_var (fun _ => pv 2)) (ptd_cons (pd_var (fun _ => pv 7)) ptd_nil)) (Nat.le_of_ble_eq_true rfl))) (fun _ => blkOk_by (N := N_law_k42) (sc := defScope s_law_k42) (by decide +kernel)) rfl (pgd_name (fun _ => sc_law_k42.nd) (fun _ => rfl) (fun _ => .inl rfl)) (by decide) tsd_nil (pd_tupleOf (fun _ => by rfl) (fun _ => T.b_tuple) (pad_cons (PD.settle (pd_lc2C (t := defScope s_law_k42) (own := [("_law_mark", 19)]) (fun _ => rfl) (fun _ => rfl) (fun _ => rfl) sc_law_k42.nd (pid_seq (pd_var (fun _ => pv 18))) (blkOk_by (N := N_law_k42) (by decide +kernel)) rfl (pgd_name (fun _ => sc_law_k42.nd) (fun _ => rfl) (fun _ => .inl rfl)) (by decide) tsd_nil (pd_add (PD.settle (pd_var (fun _ => pv 19))) (PD.settle (pd_var (fun _ => pv 6)))))) pad_nil)))
    (sds_cons (sd_setLcF (own := [("_law_ring", 18)]) (fun _ => rfl) (fun _ => sc_law_k42.nd) (fun _ => rfl) (fun _ => rfl) (fun _ => sw_true rfl rfl rfl (by decide +kernel)) (pid_seq (pd_tup (q := tC .non) (ptd_cons (pd_var (fun _ => pv 2)) (ptd_cons (pd_var (fun _ => pv 7)) ptd_nil)) (Nat.le_of_ble_eq_true rfl))) (fun _ => blkOk_by (N := N_law_k42) (sc := defScope s_law_k42) (by decide +kernel)) rfl (pgd_name (fun _ => sc_law_k42.nd) (fun _ => rfl) (fun _ => .inl rfl)) (by decide) tsd_nil (pd_tupleOf (fun _ => by rfl) (fun _ => T.b_tuple) (pad_cons (PD.settle (pd_lc2C (t := defScope s_law_k42) (own := [("_law_mark", 19)]) (fun _ => rfl) (fun _ => rfl) (fun _ => rfl) sc_law_k42.nd (pid_seq (pd_var (fun _ => pv 18))) (blkOk_by (N := N_law_k42) (by decide +kernel)) rfl (pgd_name (fun _ => sc_law_k42.nd) (fun _ => rfl) (fun _ => .inl rfl)) (by decide) tsd_nil (pd_sub (PD.settle pd_int) (PD.settle (pd_var (fun _ => pv 19)))))) pad_nil)))
    (sds_cons (sd_setLcF (own := [("_law_ring", 18)]) (fun _ => rfl) (fun _ => sc_law_k42.nd) (fun _ => rfl) (fun _ => rfl) (fun _ => sw_true rfl rfl rfl (by decide +kernel)) (pid_seq (pd_tup (q := tC .non) (ptd_cons (pd_var (fun _ => pv 2)) (ptd_cons (pd_var (fun _ => pv 7)) ptd_nil)) (Nat.le_of_ble_eq_true rfl))) (fun _ => blkOk_by (N := N_law_k42) (sc := defScope s_law_k42) (by decide +kernel)) rfl (pgd_name (fun _ => sc_law_k42.nd) (fun _ => rfl) (fun _ => .inl rfl)) (by decide) tsd_nil (pd_back (PD.settle (pd_var (fun _ => pv 18)))))
    (sds_cons (sd_if (td_ne (fun _ => hr.units) (PD.settle (pd_callF D_apply_moves (ofOne rfl rfl rfl rfl rfl) rfl (fun i => hr.mono (j := 4) (by decide)) (fun _ => by rfl) (fun _ => takes_of rfl rfl rfl rfl) (pad_cons (PD.settle (pd_ix (PD.settle (pd_var (fun _ => pv 8))) (PD.settle pd_int))) (pad_cons (PD.settle (pd_lc (own := [("_law_seat", 20)]) (fun _ => rfl) (fun _ => sc_law_k42.nd) (pid_seq (pd_var (fun _ => pv 4))) (fun _ => blkOk_by (N := N_law_k42) (sc := defScope s_law_k42) (by decide +kernel)) rfl (pgd_name (fun _ => sc_law_k42.nd) (fun _ => rfl) (fun _ => .inl rfl)) (by decide) tsd_nil (pd_mod (PD.settle (pd_sub (PD.settle (pd_var (fun _ => pv 20))) (PD.settle (pd_var (fun _ => pv 5))))) (PD.settle (pd_var (fun _ => pv 3)))))) pad_nil)))) (PD.settle (pd_ix (PD.settle (pd_var (fun _ => pv 8))) (PD.settle pd_int)))) (sds_one (sd_ret pd_bl)) sds_nil)
    (sds_cons (sd_if (TWD.td (twd_or (td_ne (fun _ => hr.units) (PD.settle (pd_callF D_apply_moves (ofOne rfl rfl rfl rfl rfl) rfl (fun i => hr.mono (j := 4) (by decide)) (fun _ => by rfl) (fun _ => takes_of rfl rfl rfl rfl) (pad_cons (PD.settle (pd_ix (PD.settle (pd_var (fun _ => pv 9))) (PD.settle pd_int))) (pad_cons (PD.settle (pd_var (fun _ => pv 4))) pad_nil)))) (PD.settle (pd_ix (PD.settle (pd_var (fun _ => pv 9))) (PD.settle pd_int)))) (twd_or1 (td_ne (fun _ => hr.units) (PD.settle (pd_callF D_apply_moves (ofOne rfl rfl rfl rfl rfl) rfl (fun i => hr.mono (j := 4) (by decide)) (fun _ => by rfl) (fun _ => takes_of rfl rfl rfl rfl) (pad_cons (PD.settle (pd_ix (PD.settle (pd_var (fun _ => pv 10))) (PD.settle pd_int))) (pad_cons (PD.settle (pd_var (fun _ => pv 4))) pad_nil)))) (PD.settle (pd_ix (PD.settle (pd_var (fun _ => pv 10))) (PD.settle pd_int))))))) (sds_one (sd_ret pd_bl)) sds_nil)
    (sds_cons (sd_if (td_ne (fun _ => hr.units) (PD.settle (pd_callF D_apply_moves (ofOne rfl rfl rfl rfl rfl) rfl (fun i => hr.mono (j := 4) (by decide)) (fun _ => by rfl) (fun _ => takes_of rfl rfl rfl rfl) (pad_cons (PD.settle (pd_ix (PD.settle (pd_var (fun _ => pv 11))) (PD.settle pd_int))) (pad_cons (PD.settle (pd_lc (own := [("_law_seat", 20)]) (fun _ => rfl) (fun _ => sc_law_k42.nd) (pid_seq (pd_var (fun _ => pv 4))) (fun _ => blkOk_by (N := N_law_k42) (sc := defScope s_law_k42) (by decide +kernel)) rfl (pgd_name (fun _ => sc_law_k42.nd) (fun _ => rfl) (fun _ => .inl rfl)) (by decide) tsd_nil (pd_sub (PD.settle (pd_sub (PD.settle (pd_var (fun _ => pv 3))) (PD.settle pd_int))) (PD.settle (pd_var (fun _ => pv 20)))))) pad_nil)))) (PD.settle (pd_ix (PD.settle (pd_var (fun _ => pv 11))) (PD.settle pd_int)))) (sds_one (sd_ret pd_bl)) sds_nil)
    (sds_cons (sd_for (fun _ => passes_of rfl) (fun _ => rfl) (pid_seq (pd_tup (q := tC .non) (ptd_cons (pd_var (fun _ => pv 8)) (ptd_cons (pd_var (fun _ => pv 9)) (ptd_cons (pd_var (fun _ => pv 10)) (ptd_cons (pd_var (fun _ => pv 11)) ptd_nil)))) (Nat.le_of_ble_eq_true rfl))) (pgd_name (fun _ => sc_law_k42.nd) (fun _ => rfl) (fun _ => .inl rfl)) (sds_one (sd_if (TWD.td (twd_or (td_isnot (PD.settle (pd_callD D_find_difference (ofOne rfl rfl rfl rfl rfl) rfl (fun i => hr.mono (j := 4) (by decide)) (fun _ => by rfl) (fun _ => takes_of rfl rfl rfl rfl) (pad_cons (PD.settle (pd_ix (PD.settle (pd_var (fun _ => pv 12))) (PD.settle pd_int))) (pad_cons (PD.settle (pd_ix (PD.settle (pd_var (fun _ => pv 12))) (PD.settle pd_int))) pad_nil)))) (PD.settle pd_non)) (twd_or1 (td_ne (fun _ => hr.units) (PD.settle (pd_callD D_find_modulus (ofOne rfl rfl rfl rfl rfl) rfl (fun i => hr.mono (j := 4) (by decide)) (fun _ => by rfl) (fun _ => takes_of rfl rfl rfl rfl) (pad_cons (PD.settle (pd_ix (PD.settle (pd_var (fun _ => pv 12))) (PD.settle pd_int))) pad_nil))) (PD.settle (pd_callD D_find_modulus (ofOne rfl rfl rfl rfl rfl) rfl (fun i => hr.mono (j := 4) (by decide)) (fun _ => by rfl) (fun _ => takes_of rfl rfl rfl rfl) (pad_cons (PD.settle (pd_var (fun _ => pv 2))) pad_nil))))))) (sds_one (sd_ret pd_bl)) sds_nil)))
    (sds_cons (sd_set (fun _ => sc_law_k42.nd) (fun _ => rfl) (fun _ => .inl rfl) (pd_callD D_l_below (ofOne rfl rfl rfl rfl rfl) rfl (fun i => hr.mono (j := 1) (by decide)) (fun _ => by rfl) (fun _ => takes_of rfl rfl rfl rfl) (pad_cons (PD.settle (pd_var (fun _ => pv 1))) (pad_cons (PD.settle (pd_pow (PD.settle pd_int) (PD.settle pd_int))) pad_nil))))
    (sds_cons (sd_set (fun _ => sc_law_k42.nd) (fun _ => rfl) (fun _ => .inl rfl) (pd_callD D_repeat_block (ofOne rfl rfl rfl rfl rfl) rfl (fun i => hr.mono (j := 5) (by decide)) (fun _ => by rfl) (fun _ => takes_of rfl rfl rfl rfl) (pad_cons (PD.settle (pd_var (fun _ => pv 2))) (pad_cons (PD.settle (pd_var (fun _ => pv 4))) (pad_cons (PD.settle (pd_var (fun _ => pv 13))) pad_nil)))))
    (sds_cons (sd_if (td_ne (fun _ => hr.units) (PD.settle (pd_callD D_repeat_block (ofOne rfl rfl rfl rfl rfl) rfl (fun i => hr.mono (j := 5) (by decide)) (fun _ => by rfl) (fun _ => takes_of rfl rfl rfl rfl) (pad_cons (PD.settle (pd_ix (PD.settle (pd_var (fun _ => pv 9))) (PD.settle pd_int))) (pad_cons (PD.settle (pd_var (fun _ => pv 4))) (pad_cons (PD.settle (pd_var (fun _ => pv 13))) pad_nil))))) (PD.settle (pd_tupleOf (fun _ => by rfl) (fun _ => T.b_tuple) (pad_cons (PD.settle (pd_lc (own := [("_law_mark", 19)]) (fun _ => rfl) (fun _ => sc_law_k42.nd) (pid_seq (pd_var (fun _ => pv 14))) (fun _ => blkOk_by (N := N_law_k42) (sc := defScope s_law_k42) (by decide +kernel)) rfl (pgd_name (fun _ => sc_law_k42.nd) (fun _ => rfl) (fun _ => .inl rfl)) (by decide) tsd_nil (pd_add (PD.settle (pd_var (fun _ => pv 19))) (PD.settle (pd_var (fun _ => pv 6)))))) pad_nil)))) (sds_one (sd_ret pd_bl)) sds_nil)
    (sds_cons (sd_if (td_ne (fun _ => hr.units) (PD.settle (pd_callD D_repeat_block (ofOne rfl rfl rfl rfl rfl) rfl (fun i => hr.mono (j := 5) (by decide)) (fun _ => by rfl) (fun _ => takes_of rfl rfl rfl rfl) (pad_cons (PD.settle (pd_ix (PD.settle (pd_var (fun _ => pv 10))) (PD.settle pd_int))) (pad_cons (PD.settle (pd_var (fun _ => pv 4))) (pad_cons (PD.settle (pd_var (fun _ => pv 13))) pad_nil))))) (PD.settle (pd_tupleOf (fun _ => by rfl) (fun _ => T.b_tuple) (pad_cons (PD.settle (pd_lc (own := [("_law_mark", 19)]) (fun _ => rfl) (fun _ => sc_law_k42.nd) (pid_seq (pd_var (fun _ => pv 14))) (fun _ => blkOk_by (N := N_law_k42) (sc := defScope s_law_k42) (by decide +kernel)) rfl (pgd_name (fun _ => sc_law_k42.nd) (fun _ => rfl) (fun _ => .inl rfl)) (by decide) tsd_nil (pd_sub (PD.settle pd_int) (PD.settle (pd_var (fun _ => pv 19)))))) pad_nil)))) (sds_one (sd_ret pd_bl)) sds_nil)
    (sds_cons (sd_set (fun _ => sc_law_k42.nd) (fun _ => rfl) (fun _ => .inl rfl) (pd_callD D_block_drift (ofOne rfl rfl rfl rfl rfl) rfl (fun i => hr.mono (j := 5) (by decide)) (fun _ => by rfl) (fun _ => takes_of rfl rfl rfl rfl) (pad_cons (PD.settle (pd_var (fun _ => pv 2))) (pad_cons (PD.settle (pd_var (fun _ => pv 4))) pad_nil))))
    (sds_cons (sd_if (TWD.td (twd_or (td_ne (fun _ => hr.units) (PD.settle (pd_callD D_block_drift (ofOne rfl rfl rfl rfl rfl) rfl (fun i => hr.mono (j := 5) (by decide)) (fun _ => by rfl) (fun _ => takes_of rfl rfl rfl rfl) (pad_cons (PD.settle (pd_ix (PD.settle (pd_var (fun _ => pv 9))) (PD.settle pd_int))) (pad_cons (PD.settle (pd_var (fun _ => pv 4))) pad_nil)))) (PD.settle (pd_var (fun _ => pv 15)))) (twd_or1 (td_ne (fun _ => hr.units) (PD.settle (pd_callD D_block_drift (ofOne rfl rfl rfl rfl rfl) rfl (fun i => hr.mono (j := 5) (by decide)) (fun _ => by rfl) (fun _ => takes_of rfl rfl rfl rfl) (pad_cons (PD.settle (pd_ix (PD.settle (pd_var (fun _ => pv 10))) (PD.settle pd_int))) (pad_cons (PD.settle (pd_var (fun _ => pv 4))) pad_nil)))) (PD.settle (pd_tup (q := tC .non) (ptd_cons (pd_ix (PD.settle (pd_var (fun _ => pv 15))) (PD.settle pd_int)) (ptd_cons (pd_sub (PD.settle pd_int) (PD.settle (pd_ix (PD.settle (pd_var (fun _ => pv 15))) (PD.settle pd_int)))) ptd_nil)) (Nat.le_of_ble_eq_true rfl))))))) (sds_one (sd_ret pd_bl)) sds_nil)
    (sds_cons (sd_set (fun _ => sc_law_k42.nd) (fun _ => rfl) (fun _ => .inl rfl) (pd_callD D_l_pins (ofOne rfl rfl rfl rfl rfl) rfl (fun i => hr.mono (j := 3) (by decide)) (fun _ => by rfl) (fun _ => takes_of rfl rfl rfl rfl) (pad_cons (PD.settle (pd_var (fun _ => pv 1))) (pad_cons (PD.settle (pd_var (fun _ => pv 3))) pad_nil))))
    (sds_cons (sd_set (fun _ => sc_law_k42.nd) (fun _ => rfl) (fun _ => .inl rfl) (pd_tupleOf (fun _ => by rfl) (fun _ => T.b_tuple) (pad_cons (PD.settle (pd_sorted (fun _ => by rfl) (fun _ => T.b_sorted) (pad_cons (PD.settle (pd_lc (own := [("_law_seat", 20)]) (fun _ => rfl) (fun _ => sc_law_k42.nd) (pid_seq (pd_var (fun _ => pv 16))) (fun _ => blkOk_by (N := N_law_k42) (sc := defScope s_law_k42) (by decide +kernel)) rfl (pgd_name (fun _ => sc_law_k42.nd) (fun _ => rfl) (fun _ => .inl rfl)) (by decide) tsd_nil (pd_mod (PD.settle (pd_sub (PD.settle (pd_var (fun _ => pv 20))) (PD.settle (pd_var (fun _ => pv 5))))) (PD.settle (pd_var (fun _ => pv 3)))))) pad_nil))) pad_nil)))
    (sds_one (sd_ret (pd_chainEq (fun _ => hr.units) (PD.settle (pd_callD D_count_pinned (ofOne rfl rfl rfl rfl rfl) rfl (fun i => hr.mono (j := 6) (by decide)) (fun _ => by rfl) (fun _ => takes_of rfl rfl rfl rfl) (pad_cons (PD.settle (pd_ix (PD.settle (pd_var (fun _ => pv 8))) (PD.settle pd_int))) (pad_cons (PD.settle (pd_var (fun _ => pv 17))) pad_nil)))) (PD.settle (pd_callD D_count_pinned (ofOne rfl rfl rfl rfl rfl) rfl (fun i => hr.mono (j := 6) (by decide)) (fun _ => by rfl) (fun _ => takes_of rfl rfl rfl rfl) (pad_cons (PD.settle (pd_var (fun _ => pv 2))) (pad_cons (PD.settle (pd_var (fun _ => pv 16))) pad_nil)))) (PD.settle (pd_callD D_count_pinned (ofOne rfl rfl rfl rfl rfl) rfl (fun i => hr.mono (j := 6) (by decide)) (fun _ => by rfl) (fun _ => takes_of rfl rfl rfl rfl) (pad_cons (PD.settle (pd_ix (PD.settle (pd_var (fun _ => pv 10))) (PD.settle pd_int))) (pad_cons (PD.settle (pd_var (fun _ => pv 16))) pad_nil))))))))))))))))))))))))))))
end
theorem all_mk {l : PySem.W.OpenLaw} {w : World} {K : PySem.W.Frag} {h : Heap} {mg : Str → Option Value} {fa : Addr} (X : K.In h) (G : h.Ns mainGlobals mg) (hfa : mg "law" = some (.ref fa))
    {f0 f1 f2 f3 f4 f5 f6 f7 f8 f9 f10 f11 f12 f13 f14 f15 f16 f17 f18 f19 f20 f21 f22 f23 f24 f25 f26 f27 f28 f29 f30 f31 f32 f33 f34 : Addr} {od0 an0 od1 an1 od2 an2 od3 an3 od4 an4 od5 an5 od6 an6 od7 an7 od8 an8 od9 an9 od10 an10 od11 an11 od12 an12 od13 an13 od14 an14 od15 an15 od16 an16 od17 an17 od18 an18 od19 an19 od20 an20 od21 an21 od22 an22 od23 an23 od24 an24 od25 an25 od26 an26 od27 an27 od28 an28 od29 an29 od30 an30 od31 an31 od32 an32 od33 an33 od34 an34 : Option Addr} {sl0 sl1 sl2 sl3 sl4 sl5 sl6 sl7 sl8 sl9 sl10 sl11 sl12 sl13 sl14 sl15 sl16 sl17 sl18 sl19 sl20 sl21 sl22 sl23 sl24 sl25 sl26 sl27 sl28 sl29 sl30 sl31 sl32 sl33 sl34 : Array (Option Value)} {oc0 kV0 dc0 pm0 cd0 ct0 oc1 kV1 dc1 pm1 cd1 ct1 oc2 kV2 dc2 pm2 cd2 ct2 oc3 kV3 dc3 pm3 cd3 ct3 oc4 kV4 dc4 pm4 cd4 ct4 oc5 kV5 dc5 pm5 cd5 ct5 oc6 kV6 dc6 pm6 cd6 ct6 oc7 kV7 dc7 pm7 cd7 ct7 oc8 kV8 dc8 pm8 cd8 ct8 oc9 kV9 dc9 pm9 cd9 ct9 oc10 kV10 dc10 pm10 cd10 ct10 oc11 kV11 dc11 pm11 cd11 ct11 oc12 kV12 dc12 pm12 cd12 ct12 oc13 kV13 dc13 pm13 cd13 ct13 oc14 kV14 dc14 pm14 cd14 ct14 oc15 kV15 dc15 pm15 cd15 ct15 oc16 kV16 dc16 pm16 cd16 ct16 oc17 kV17 dc17 pm17 cd17 ct17 oc18 dc18 pm18 cd18 ct18 oc19 kV19 dc19 pm19 cd19 ct19 oc20 kV20 dc20 pm20 cd20 ct20 oc21 kV21 dc21 pm21 cd21 ct21 oc22 kV22 dc22 pm22 cd22 ct22 oc23 kV23 dc23 pm23 cd23 ct23 oc24 kV24 dc24 pm24 cd24 ct24 oc25 kV25 dc25 pm25 cd25 ct25 oc26 kV26 dc26 pm26 cd26 ct26 oc27 kV27 dc27 pm27 cd27 ct27 oc28 kV28 dc28 pm28 cd28 ct28 oc29 kV29 dc29 pm29 cd29 ct29 oc30 kV30 dc30 pm30 cd30 ct30 oc31 kV31 dc31 pm31 cd31 ct31 oc32 kV32 dc32 pm32 cd32 ct32 oc33 kV33 dc33 pm33 cd33 ct33 oc34 kV34 dc34 pm34 cd34 ct34 : Value}
    {DK18 TK18 : Addr} {tn18 : Nat} {tsl18 : Array (Option Value)}
    {tk0 tk1 tk2 tk3 : Tok}
    (a0 : PySem.W.nsIn K mainGlobals "is_whole" = some (some (.ref f0))) (l0 : K.lookup f0 = some ⟨oc0, od0, .func (PySem.W.fnOf "is_whole" "is_whole" (defArgs s_is_whole) (defBody s_is_whole) (defScope s_is_whole) .none kV0 dc0 pm0 an0 cd0 ct0), sl0⟩) (c0 : PySem.W.codeIn K cd0 "is_whole" = true) (k0 : PySem.W.keepIn K (.ref f0) = true)
    (a1 : PySem.W.nsIn K mainGlobals "is_seat" = some (some (.ref f1))) (l1 : K.lookup f1 = some ⟨oc1, od1, .func (PySem.W.fnOf "is_seat" "is_seat" (defArgs s_is_seat) (defBody s_is_seat) (defScope s_is_seat) .none kV1 dc1 pm1 an1 cd1 ct1), sl1⟩) (c1 : PySem.W.codeIn K cd1 "is_seat" = true) (k1 : PySem.W.keepIn K (.ref f1) = true)
    (a2 : PySem.W.nsIn K mainGlobals "first_invalid" = some (some (.ref f2))) (l2 : K.lookup f2 = some ⟨oc2, od2, .func (PySem.W.fnOf "first_invalid" "first_invalid" (defArgs s_first_invalid) (defBody s_first_invalid) (defScope s_first_invalid) .none kV2 dc2 pm2 an2 cd2 ct2), sl2⟩) (c2 : PySem.W.codeIn K cd2 "first_invalid" = true) (k2 : PySem.W.keepIn K (.ref f2) = true)
    (a3 : PySem.W.nsIn K mainGlobals "check_ring" = some (some (.ref f3))) (l3 : K.lookup f3 = some ⟨oc3, od3, .func (PySem.W.fnOf "check_ring" "check_ring" (defArgs s_check_ring) (defBody s_check_ring) (defScope s_check_ring) .none kV3 dc3 pm3 an3 cd3 ct3), sl3⟩) (c3 : PySem.W.codeIn K cd3 "check_ring" = true) (k3 : PySem.W.keepIn K (.ref f3) = true)
    (a4 : PySem.W.nsIn K mainGlobals "check_pins" = some (some (.ref f4))) (l4 : K.lookup f4 = some ⟨oc4, od4, .func (PySem.W.fnOf "check_pins" "check_pins" (defArgs s_check_pins) (defBody s_check_pins) (defScope s_check_pins) .none kV4 dc4 pm4 an4 cd4 ct4), sl4⟩) (c4 : PySem.W.codeIn K cd4 "check_pins" = true) (k4 : PySem.W.keepIn K (.ref f4) = true)
    (a5 : PySem.W.nsIn K mainGlobals "check_some_pins" = some (some (.ref f5))) (l5 : K.lookup f5 = some ⟨oc5, od5, .func (PySem.W.fnOf "check_some_pins" "check_some_pins" (defArgs s_check_some_pins) (defBody s_check_some_pins) (defScope s_check_some_pins) .none kV5 dc5 pm5 an5 cd5 ct5), sl5⟩) (c5 : PySem.W.codeIn K cd5 "check_some_pins" = true) (k5 : PySem.W.keepIn K (.ref f5) = true)
    (a6 : PySem.W.nsIn K mainGlobals "check_moves" = some (some (.ref f6))) (l6 : K.lookup f6 = some ⟨oc6, od6, .func (PySem.W.fnOf "check_moves" "check_moves" (defArgs s_check_moves) (defBody s_check_moves) (defScope s_check_moves) .none kV6 dc6 pm6 an6 cd6 ct6), sl6⟩) (c6 : PySem.W.codeIn K cd6 "check_moves" = true) (k6 : PySem.W.keepIn K (.ref f6) = true)
    (a7 : PySem.W.nsIn K mainGlobals "check_times" = some (some (.ref f7))) (l7 : K.lookup f7 = some ⟨oc7, od7, .func (PySem.W.fnOf "check_times" "check_times" (defArgs s_check_times) (defBody s_check_times) (defScope s_check_times) .none kV7 dc7 pm7 an7 cd7 ct7), sl7⟩) (c7 : PySem.W.codeIn K cd7 "check_times" = true) (k7 : PySem.W.keepIn K (.ref f7) = true)
    (a8 : PySem.W.nsIn K mainGlobals "count_orders" = some (some (.ref f8))) (l8 : K.lookup f8 = some ⟨oc8, od8, .func (PySem.W.fnOf "count_orders" "count_orders" (defArgs s_count_orders) (defBody s_count_orders) (defScope s_count_orders) .none kV8 dc8 pm8 an8 cd8 ct8), sl8⟩) (c8 : PySem.W.codeIn K cd8 "count_orders" = true) (k8 : PySem.W.keepIn K (.ref f8) = true)
    (a9 : PySem.W.nsIn K mainGlobals "step_modulus" = some (some (.ref f9))) (l9 : K.lookup f9 = some ⟨oc9, od9, .func (PySem.W.fnOf "step_modulus" "step_modulus" (defArgs s_step_modulus) (defBody s_step_modulus) (defScope s_step_modulus) .none kV9 dc9 pm9 an9 cd9 ct9), sl9⟩) (c9 : PySem.W.codeIn K cd9 "step_modulus" = true) (k9 : PySem.W.keepIn K (.ref f9) = true)
    (a10 : PySem.W.nsIn K mainGlobals "steps_between" = some (some (.ref f10))) (l10 : K.lookup f10 = some ⟨oc10, od10, .func (PySem.W.fnOf "steps_between" "steps_between" (defArgs s_steps_between) (defBody s_steps_between) (defScope s_steps_between) .none kV10 dc10 pm10 an10 cd10 ct10), sl10⟩) (c10 : PySem.W.codeIn K cd10 "steps_between" = true) (k10 : PySem.W.keepIn K (.ref f10) = true)
    (a11 : PySem.W.nsIn K mainGlobals "find_modulus" = some (some (.ref f11))) (l11 : K.lookup f11 = some ⟨oc11, od11, .func (PySem.W.fnOf "find_modulus" "find_modulus" (defArgs s_find_modulus) (defBody s_find_modulus) (defScope s_find_modulus) .none kV11 dc11 pm11 an11 cd11 ct11), sl11⟩) (c11 : PySem.W.codeIn K cd11 "find_modulus" = true) (k11 : PySem.W.keepIn K (.ref f11) = true)
    (a12 : PySem.W.nsIn K mainGlobals "find_step_difference" = some (some (.ref f12))) (l12 : K.lookup f12 = some ⟨oc12, od12, .func (PySem.W.fnOf "find_step_difference" "find_step_difference" (defArgs s_find_step_difference) (defBody s_find_step_difference) (defScope s_find_step_difference) .none kV12 dc12 pm12 an12 cd12 ct12), sl12⟩) (c12 : PySem.W.codeIn K cd12 "find_step_difference" = true) (k12 : PySem.W.keepIn K (.ref f12) = true)
    (a13 : PySem.W.nsIn K mainGlobals "find_mark_difference" = some (some (.ref f13))) (l13 : K.lookup f13 = some ⟨oc13, od13, .func (PySem.W.fnOf "find_mark_difference" "find_mark_difference" (defArgs s_find_mark_difference) (defBody s_find_mark_difference) (defScope s_find_mark_difference) .none kV13 dc13 pm13 an13 cd13 ct13), sl13⟩) (c13 : PySem.W.codeIn K cd13 "find_mark_difference" = true) (k13 : PySem.W.keepIn K (.ref f13) = true)
    (a14 : PySem.W.nsIn K mainGlobals "difference_between" = some (some (.ref f14))) (l14 : K.lookup f14 = some ⟨oc14, od14, .func (PySem.W.fnOf "difference_between" "difference_between" (defArgs s_difference_between) (defBody s_difference_between) (defScope s_difference_between) .none kV14 dc14 pm14 an14 cd14 ct14), sl14⟩) (c14 : PySem.W.codeIn K cd14 "difference_between" = true) (k14 : PySem.W.keepIn K (.ref f14) = true)
    (a15 : PySem.W.nsIn K mainGlobals "find_difference" = some (some (.ref f15))) (l15 : K.lookup f15 = some ⟨oc15, od15, .func (PySem.W.fnOf "find_difference" "find_difference" (defArgs s_find_difference) (defBody s_find_difference) (defScope s_find_difference) .none kV15 dc15 pm15 an15 cd15 ct15), sl15⟩) (c15 : PySem.W.codeIn K cd15 "find_difference" = true) (k15 : PySem.W.keepIn K (.ref f15) = true)
    (a16 : PySem.W.nsIn K mainGlobals "reflected_mark" = some (some (.ref f16))) (l16 : K.lookup f16 = some ⟨oc16, od16, .func (PySem.W.fnOf "reflected_mark" "reflected_mark" (defArgs s_reflected_mark) (defBody s_reflected_mark) (defScope s_reflected_mark) .none kV16 dc16 pm16 an16 cd16 ct16), sl16⟩) (c16 : PySem.W.codeIn K cd16 "reflected_mark" = true) (k16 : PySem.W.keepIn K (.ref f16) = true)
    (a17 : PySem.W.nsIn K mainGlobals "reflect_seats" = some (some (.ref f17))) (l17 : K.lookup f17 = some ⟨oc17, od17, .func (PySem.W.fnOf "reflect_seats" "reflect_seats" (defArgs s_reflect_seats) (defBody s_reflect_seats) (defScope s_reflect_seats) .none kV17 dc17 pm17 an17 cd17 ct17), sl17⟩) (c17 : PySem.W.codeIn K cd17 "reflect_seats" = true) (k17 : PySem.W.keepIn K (.ref f17) = true)
    (a18 : PySem.W.nsIn K mainGlobals "apply_moves" = some (some (.ref f18))) (l18 : K.lookup f18 = some ⟨oc18, od18, .func (PySem.W.fnOf "apply_moves" "apply_moves" (defArgs s_apply_moves) (defBody s_apply_moves) (defScope s_apply_moves) .none (.ref DK18) dc18 pm18 an18 cd18 ct18), sl18⟩) (c18 : PySem.W.codeIn K cd18 "apply_moves" = true) (k18 : PySem.W.keepIn K (.ref f18) = true)
    (d18 : PySem.W.nsIn K DK18 "pins" = some (some (.ref TK18))) (t18 : K.lookup TK18 = some ⟨.type "tuple", none, .seq #[] tn18, tsl18⟩)
    (a19 : PySem.W.nsIn K mainGlobals "check_block" = some (some (.ref f19))) (l19 : K.lookup f19 = some ⟨oc19, od19, .func (PySem.W.fnOf "check_block" "check_block" (defArgs s_check_block) (defBody s_check_block) (defScope s_check_block) .none kV19 dc19 pm19 an19 cd19 ct19), sl19⟩) (c19 : PySem.W.codeIn K cd19 "check_block" = true) (k19 : PySem.W.keepIn K (.ref f19) = true)
    (a20 : PySem.W.nsIn K mainGlobals "rings_of_round" = some (some (.ref f20))) (l20 : K.lookup f20 = some ⟨oc20, od20, .func (PySem.W.fnOf "rings_of_round" "rings_of_round" (defArgs s_rings_of_round) (defBody s_rings_of_round) (defScope s_rings_of_round) .none kV20 dc20 pm20 an20 cd20 ct20), sl20⟩) (c20 : PySem.W.codeIn K cd20 "rings_of_round" = true) (k20 : PySem.W.keepIn K (.ref f20) = true)
    (a21 : PySem.W.nsIn K mainGlobals "repeat_seats" = some (some (.ref f21))) (l21 : K.lookup f21 = some ⟨oc21, od21, .func (PySem.W.fnOf "repeat_seats" "repeat_seats" (defArgs s_repeat_seats) (defBody s_repeat_seats) (defScope s_repeat_seats) .none kV21 dc21 pm21 an21 cd21 ct21), sl21⟩) (c21 : PySem.W.codeIn K cd21 "repeat_seats" = true) (k21 : PySem.W.keepIn K (.ref f21) = true)
    (a22 : PySem.W.nsIn K mainGlobals "repeat_block" = some (some (.ref f22))) (l22 : K.lookup f22 = some ⟨oc22, od22, .func (PySem.W.fnOf "repeat_block" "repeat_block" (defArgs s_repeat_block) (defBody s_repeat_block) (defScope s_repeat_block) .none kV22 dc22 pm22 an22 cd22 ct22), sl22⟩) (c22 : PySem.W.codeIn K cd22 "repeat_block" = true) (k22 : PySem.W.keepIn K (.ref f22) = true)
    (a23 : PySem.W.nsIn K mainGlobals "block_drift" = some (some (.ref f23))) (l23 : K.lookup f23 = some ⟨oc23, od23, .func (PySem.W.fnOf "block_drift" "block_drift" (defArgs s_block_drift) (defBody s_block_drift) (defScope s_block_drift) .none kV23 dc23 pm23 an23 cd23 ct23), sl23⟩) (c23 : PySem.W.codeIn K cd23 "block_drift" = true) (k23 : PySem.W.keepIn K (.ref f23) = true)
    (a24 : PySem.W.nsIn K mainGlobals "check_pinned_ring" = some (some (.ref f24))) (l24 : K.lookup f24 = some ⟨oc24, od24, .func (PySem.W.fnOf "check_pinned_ring" "check_pinned_ring" (defArgs s_check_pinned_ring) (defBody s_check_pinned_ring) (defScope s_check_pinned_ring) .none kV24 dc24 pm24 an24 cd24 ct24), sl24⟩) (c24 : PySem.W.codeIn K cd24 "check_pinned_ring" = true) (k24 : PySem.W.keepIn K (.ref f24) = true)
    (a25 : PySem.W.nsIn K mainGlobals "arcs_between" = some (some (.ref f25))) (l25 : K.lookup f25 = some ⟨oc25, od25, .func (PySem.W.fnOf "arcs_between" "arcs_between" (defArgs s_arcs_between) (defBody s_arcs_between) (defScope s_arcs_between) .none kV25 dc25 pm25 an25 cd25 ct25), sl25⟩) (c25 : PySem.W.codeIn K cd25 "arcs_between" = true) (k25 : PySem.W.keepIn K (.ref f25) = true)
    (a26 : PySem.W.nsIn K mainGlobals "count_rings" = some (some (.ref f26))) (l26 : K.lookup f26 = some ⟨oc26, od26, .func (PySem.W.fnOf "count_rings" "count_rings" (defArgs s_count_rings) (defBody s_count_rings) (defScope s_count_rings) .none kV26 dc26 pm26 an26 cd26 ct26), sl26⟩) (c26 : PySem.W.codeIn K cd26 "count_rings" = true) (k26 : PySem.W.keepIn K (.ref f26) = true)
    (a27 : PySem.W.nsIn K mainGlobals "count_pinned" = some (some (.ref f27))) (l27 : K.lookup f27 = some ⟨oc27, od27, .func (PySem.W.fnOf "count_pinned" "count_pinned" (defArgs s_count_pinned) (defBody s_count_pinned) (defScope s_count_pinned) .none kV27 dc27 pm27 an27 cd27 ct27), sl27⟩) (c27 : PySem.W.codeIn K cd27 "count_pinned" = true) (k27 : PySem.W.keepIn K (.ref f27) = true)
    (a28 : PySem.W.nsIn K mainGlobals "_law_random" = some (some (.ref f28))) (l28 : K.lookup f28 = some ⟨oc28, od28, .func (PySem.W.fnOf "_law_random" "_law_random" (defArgs s_l_random) (defBody s_l_random) (defScope s_l_random) .none kV28 dc28 pm28 an28 cd28 ct28), sl28⟩) (c28 : PySem.W.codeIn K cd28 "_law_random" = true) (k28 : PySem.W.keepIn K (.ref f28) = true)
    (a29 : PySem.W.nsIn K mainGlobals "_law_below" = some (some (.ref f29))) (l29 : K.lookup f29 = some ⟨oc29, od29, .func (PySem.W.fnOf "_law_below" "_law_below" (defArgs s_l_below) (defBody s_l_below) (defScope s_l_below) .none kV29 dc29 pm29 an29 cd29 ct29), sl29⟩) (c29 : PySem.W.codeIn K cd29 "_law_below" = true) (k29 : PySem.W.keepIn K (.ref f29) = true)
    (a30 : PySem.W.nsIn K mainGlobals "_law_little" = some (some (.ref f30))) (l30 : K.lookup f30 = some ⟨oc30, od30, .func (PySem.W.fnOf "_law_little" "_law_little" (defArgs s_l_little) (defBody s_l_little) (defScope s_l_little) .none kV30 dc30 pm30 an30 cd30 ct30), sl30⟩) (c30 : PySem.W.codeIn K cd30 "_law_little" = true) (k30 : PySem.W.keepIn K (.ref f30) = true)
    (a31 : PySem.W.nsIn K mainGlobals "_law_seats" = some (some (.ref f31))) (l31 : K.lookup f31 = some ⟨oc31, od31, .func (PySem.W.fnOf "_law_seats" "_law_seats" (defArgs s_l_seats) (defBody s_l_seats) (defScope s_l_seats) .none kV31 dc31 pm31 an31 cd31 ct31), sl31⟩) (c31 : PySem.W.codeIn K cd31 "_law_seats" = true) (k31 : PySem.W.keepIn K (.ref f31) = true)
    (a32 : PySem.W.nsIn K mainGlobals "_law_shuffled" = some (some (.ref f32))) (l32 : K.lookup f32 = some ⟨oc32, od32, .func (PySem.W.fnOf "_law_shuffled" "_law_shuffled" (defArgs s_l_shuffled) (defBody s_l_shuffled) (defScope s_l_shuffled) .none kV32 dc32 pm32 an32 cd32 ct32), sl32⟩) (c32 : PySem.W.codeIn K cd32 "_law_shuffled" = true) (k32 : PySem.W.keepIn K (.ref f32) = true)
    (a33 : PySem.W.nsIn K mainGlobals "_law_pins" = some (some (.ref f33))) (l33 : K.lookup f33 = some ⟨oc33, od33, .func (PySem.W.fnOf "_law_pins" "_law_pins" (defArgs s_l_pins) (defBody s_l_pins) (defScope s_l_pins) .none kV33 dc33 pm33 an33 cd33 ct33), sl33⟩) (c33 : PySem.W.codeIn K cd33 "_law_pins" = true) (k33 : PySem.W.keepIn K (.ref f33) = true)
    (a34 : PySem.W.nsIn K mainGlobals "law" = some (some (.ref f34))) (l34 : K.lookup f34 = some ⟨oc34, od34, .func (PySem.W.fnOf "law" "law" (defArgs s_law_k42) (defBody s_law_k42) (defScope s_law_k42) .none kV34 dc34 pm34 an34 cd34 ct34), sl34⟩) (c34 : PySem.W.codeIn K cd34 "law" = true) (k34 : PySem.W.keepIn K (.ref f34) = true)
    (z0 : PySem.W.nsIn K mainGlobals "abs" = some none)
    (z1 : PySem.W.nsIn K mainGlobals "bool" = some none)
    (z2 : PySem.W.nsIn K mainGlobals "divmod" = some none)
    (z3 : PySem.W.nsIn K mainGlobals "enumerate" = some none)
    (z4 : PySem.W.nsIn K mainGlobals "factorial" = some (some (.builtin "math.factorial")))
    (z5 : PySem.W.nsIn K mainGlobals "gcd" = some (some (.builtin "math.gcd")))
    (z6 : PySem.W.nsIn K mainGlobals "int" = some none)
    (z7 : PySem.W.nsIn K mainGlobals "isinstance" = some none)
    (z8 : PySem.W.nsIn K mainGlobals "len" = some none)
    (z9 : PySem.W.nsIn K mainGlobals "list" = some none)
    (z10 : PySem.W.nsIn K mainGlobals "range" = some none)
    (z11 : PySem.W.nsIn K mainGlobals "set" = some none)
    (z12 : PySem.W.nsIn K mainGlobals "sorted" = some none)
    (z13 : PySem.W.nsIn K mainGlobals "tuple" = some none)
    (z14 : PySem.W.nsIn K mainGlobals "zip" = some none)
    (i0 : PySem.W.nsIn K mainGlobals "FEWEST_SEATS" = some (some (.int 3 tk0)))
    (i1 : PySem.W.nsIn K mainGlobals "MOST_SEATS" = some (some (.int 8 tk1)))
    (i2 : PySem.W.nsIn K mainGlobals "LARGEST_MARK" = some (some (.int 1000000 tk2)))
    (i3 : PySem.W.nsIn K mainGlobals "MOST_TIMES" = some (some (.int 1000000000000000000 tk3)))
    {C0_InvalidTimes : Addr}
    (y0_InvalidTimes : PySem.W.nsIn K mainGlobals "InvalidTimes" = some (some (.ref C0_InvalidTimes))) (q0_InvalidTimes : PySem.W.excIn K C0_InvalidTimes [.type "ValueError", .type "Exception", .type "BaseException", .type "object"] "ValueError.__new__" = true) (k0_InvalidTimes : PySem.W.keepIn K (.ref C0_InvalidTimes) = true) (b0_InvalidTimes : PySem.W.subIn K (.ref C0_InvalidTimes) (.type "BaseException") = some true) (t0_InvalidTimes : PySem.W.typeIn K (.ref C0_InvalidTimes) = some (.type "type"))
    (X_InvalidMarks : ∀ base, ExOk l.prog w K mg base "InvalidMarks" "position")
    : ∃ fd : FuncData, (∀ (s : Shared) (v : Value), BindsTo s fd ⟨[v], []⟩ [("_law_script", v)]) ∧ ∀ base : Heap, K.In base → base.Ns mainGlobals mg → FnOk l.prog w K mg base (L2.CX l.prog w) 7 fa fd ["_law_script"] (spOf K mg 1 f_law_k42) := by
  have e := hfa.symm.trans (PySem.W.mg_of X G a34)
  cases e
  have T : Top mg := ⟨PySem.W.mg_none_of X G z0, PySem.W.mg_none_of X G z1, PySem.W.mg_none_of X G z2, PySem.W.mg_none_of X G z3, PySem.W.mg_of X G z4, PySem.W.mg_of X G z5, PySem.W.mg_none_of X G z6, PySem.W.mg_none_of X G z7, PySem.W.mg_none_of X G z8, PySem.W.mg_none_of X G z9, PySem.W.mg_none_of X G z10, PySem.W.mg_none_of X G z11, PySem.W.mg_none_of X G z12, PySem.W.mg_none_of X G z13, PySem.W.mg_none_of X G z14, ⟨_, PySem.W.mg_of X G i0⟩, ⟨_, PySem.W.mg_of X G i1⟩, ⟨_, PySem.W.mg_of X G i2⟩, ⟨_, PySem.W.mg_of X G i3⟩⟩
  have Z_InvalidTimes : ExOk0 K mg "InvalidTimes" := ⟨⟨C0_InvalidTimes, PySem.W.mg_of X G y0_InvalidTimes, q0_InvalidTimes, k0_InvalidTimes, b0_InvalidTimes, t0_InvalidTimes⟩⟩
  have F0 := fun_mk (st := s_is_whole) l0 c0 k0
  have F1 := fun_mk (st := s_is_seat) l1 c1 k1
  have F2 := fun_mk (st := s_first_invalid) l2 c2 k2
  have F3 := fun_mk (st := s_check_ring) l3 c3 k3
  have F4 := fun_mk (st := s_check_pins) l4 c4 k4
  have F5 := fun_mk (st := s_check_some_pins) l5 c5 k5
  have F6 := fun_mk (st := s_check_moves) l6 c6 k6
  have F7 := fun_mk (st := s_check_times) l7 c7 k7
  have F8 := fun_mk (st := s_count_orders) l8 c8 k8
  have F9 := fun_mk (st := s_step_modulus) l9 c9 k9
  have F10 := fun_mk (st := s_steps_between) l10 c10 k10
  have F11 := fun_mk (st := s_find_modulus) l11 c11 k11
  have F12 := fun_mk (st := s_find_step_difference) l12 c12 k12
  have F13 := fun_mk (st := s_find_mark_difference) l13 c13 k13
  have F14 := fun_mk (st := s_difference_between) l14 c14 k14
  have F15 := fun_mk (st := s_find_difference) l15 c15 k15
  have F16 := fun_mk (st := s_reflected_mark) l16 c16 k16
  have F17 := fun_mk (st := s_reflect_seats) l17 c17 k17
  have F19 := fun_mk (st := s_check_block) l19 c19 k19
  have F20 := fun_mk (st := s_rings_of_round) l20 c20 k20
  have F21 := fun_mk (st := s_repeat_seats) l21 c21 k21
  have F22 := fun_mk (st := s_repeat_block) l22 c22 k22
  have F23 := fun_mk (st := s_block_drift) l23 c23 k23
  have F24 := fun_mk (st := s_check_pinned_ring) l24 c24 k24
  have F25 := fun_mk (st := s_arcs_between) l25 c25 k25
  have F26 := fun_mk (st := s_count_rings) l26 c26 k26
  have F27 := fun_mk (st := s_count_pinned) l27 c27 k27
  have F28 := fun_mk (st := s_l_random) l28 c28 k28
  have F29 := fun_mk (st := s_l_below) l29 c29 k29
  have F30 := fun_mk (st := s_l_little) l30 c30 k30
  have F31 := fun_mk (st := s_l_seats) l31 c31 k31
  have F32 := fun_mk (st := s_l_shuffled) l32 c32 k32
  have F33 := fun_mk (st := s_l_pins) l33 c33 k33
  have F34 := fun_mk (st := s_law_k42) l34 c34 k34
  have b0 := F0.binds (ps := ["value"]) fun _ _ _ _ _ _ us hl => match us, hl with | [_], _ => rfl
  have b1 := F1.binds (ps := ["value", "length"]) fun _ _ _ _ _ _ us hl => match us, hl with | [_, _], _ => rfl
  have b2 := F2.binds (ps := ["values", "largest"]) fun _ _ _ _ _ _ us hl => match us, hl with | [_, _], _ => rfl
  have b3 := F3.binds (ps := ["marks"]) fun _ _ _ _ _ _ us hl => match us, hl with | [_], _ => rfl
  have b4 := F4.binds (ps := ["pins", "length"]) fun _ _ _ _ _ _ us hl => match us, hl with | [_, _], _ => rfl
  have b5 := F5.binds (ps := ["pins", "length"]) fun _ _ _ _ _ _ us hl => match us, hl with | [_, _], _ => rfl
  have b6 := F6.binds (ps := ["seats", "length", "pins"]) fun _ _ _ _ _ _ us hl => match us, hl with | [_, _, _], _ => rfl
  have b7 := F7.binds (ps := ["times"]) fun _ _ _ _ _ _ us hl => match us, hl with | [_], _ => rfl
  have b8 := F8.binds (ps := ["steps"]) fun _ _ _ _ _ _ us hl => match us, hl with | [_], _ => rfl
  have b9 := F9.binds (ps := ["steps"]) fun _ _ _ _ _ _ us hl => match us, hl with | [_], _ => rfl
  have b10 := F10.binds (ps := ["marks"]) fun _ _ _ _ _ _ us hl => match us, hl with | [_], _ => rfl
  have b11 := F11.binds (ps := ["marks"]) fun _ _ _ _ _ _ us hl => match us, hl with | [_], _ => rfl
  have b12 := F12.binds (ps := ["first", "second"]) fun _ _ _ _ _ _ us hl => match us, hl with | [_, _], _ => rfl
  have b13 := F13.binds (ps := ["first", "second"]) fun _ _ _ _ _ _ us hl => match us, hl with | [_, _], _ => rfl
  have b14 := F14.binds (ps := ["first", "second"]) fun _ _ _ _ _ _ us hl => match us, hl with | [_, _], _ => rfl
  have b15 := F15.binds (ps := ["first", "second"]) fun _ _ _ _ _ _ us hl => match us, hl with | [_, _], _ => rfl
  have b16 := F16.binds (ps := ["marks", "seat"]) fun _ _ _ _ _ _ us hl => match us, hl with | [_, _], _ => rfl
  have b17 := F17.binds (ps := ["marks", "seats"]) fun _ _ _ _ _ _ us hl => match us, hl with | [_, _], _ => rfl
  have b19 := F19.binds (ps := ["marks", "block"]) fun _ _ _ _ _ _ us hl => match us, hl with | [_, _], _ => rfl
  have b20 := F20.binds (ps := ["marks", "block"]) fun _ _ _ _ _ _ us hl => match us, hl with | [_, _], _ => rfl
  have b21 := F21.binds (ps := ["marks", "block", "times"]) fun _ _ _ _ _ _ us hl => match us, hl with | [_, _, _], _ => rfl
  have b22 := F22.binds (ps := ["marks", "block", "times"]) fun _ _ _ _ _ _ us hl => match us, hl with | [_, _, _], _ => rfl
  have b23 := F23.binds (ps := ["marks", "block"]) fun _ _ _ _ _ _ us hl => match us, hl with | [_, _], _ => rfl
  have b24 := F24.binds (ps := ["marks", "pins"]) fun _ _ _ _ _ _ us hl => match us, hl with | [_, _], _ => rfl
  have b25 := F25.binds (ps := ["marks", "pins"]) fun _ _ _ _ _ _ us hl => match us, hl with | [_, _], _ => rfl
  have b26 := F26.binds (ps := ["marks", "pins"]) fun _ _ _ _ _ _ us hl => match us, hl with | [_, _], _ => rfl
  have b27 := F27.binds (ps := ["marks", "pins"]) fun _ _ _ _ _ _ us hl => match us, hl with | [_, _], _ => rfl
  have b28 := F28.binds (ps := ["_law_script", "_law_salt"]) fun _ _ _ _ _ _ us hl => match us, hl with | [_, _], _ => rfl
  have b29 := F29.binds (ps := ["_law_d", "_law_limit"]) fun _ _ _ _ _ _ us hl => match us, hl with | [_, _], _ => rfl
  have b30 := F30.binds (ps := ["_law_d", "_law_most"]) fun _ _ _ _ _ _ us hl => match us, hl with | [_, _], _ => rfl
  have b31 := F31.binds (ps := ["_law_d", "_law_length", "_law_many"]) fun _ _ _ _ _ _ us hl => match us, hl with | [_, _, _], _ => rfl
  have b32 := F32.binds (ps := ["_law_d", "_law_items"]) fun _ _ _ _ _ _ us hl => match us, hl with | [_, _], _ => rfl
  have b33 := F33.binds (ps := ["_law_d", "_law_length"]) fun _ _ _ _ _ _ us hl => match us, hl with | [_, _], _ => rfl
  refine ⟨PySem.W.fnOf "law" "law" (defArgs s_law_k42) (defBody s_law_k42) (defScope s_law_k42) .none kV34 dc34 pm34 an34 cd34 ct34, fun s v => .of_eq rfl, fun base _ _ => ?_⟩
  have X_InvalidMarks := X_InvalidMarks base
  have D_is_whole : DefOk l.prog w K mg base 1 "is_whole" 1 f_is_whole := ok_is_whole T F0 (PySem.W.mg_of X G a0) b0 
  have D_is_seat : DefOk l.prog w K mg base 2 "is_seat" 2 f_is_seat := ok_is_seat T F1 (PySem.W.mg_of X G a1) b1 D_is_whole
  have D_first_invalid : DefOk l.prog w K mg base 2 "first_invalid" 2 f_first_invalid := ok_first_invalid T F2 (PySem.W.mg_of X G a2) b2 D_is_whole
  have D_check_ring : DefOk l.prog w K mg base 3 "check_ring" 1 f_check_ring := ok_check_ring T F3 (PySem.W.mg_of X G a3) b3 X_InvalidMarks D_first_invalid
  have D_check_pins : DefOk l.prog w K mg base 3 "check_pins" 2 f_check_pins := ok_check_pins T F4 (PySem.W.mg_of X G a4) b4 D_is_seat
  have D_check_some_pins : DefOk l.prog w K mg base 4 "check_some_pins" 2 f_check_some_pins := ok_check_some_pins T F5 (PySem.W.mg_of X G a5) b5 D_check_pins
  have D_check_moves : DefOk l.prog w K mg base 3 "check_moves" 3 f_check_moves := ok_check_moves T F6 (PySem.W.mg_of X G a6) b6 D_is_seat
  have D_check_times : DefOk l.prog w K mg base 2 "check_times" 1 f_check_times := ok_check_times T F7 (PySem.W.mg_of X G a7) b7 Z_InvalidTimes D_is_whole
  have D_count_orders : DefOk l.prog w K mg base 1 "count_orders" 1 f_count_orders := ok_count_orders T F8 (PySem.W.mg_of X G a8) b8 
  have D_step_modulus : DefOk l.prog w K mg base 1 "step_modulus" 1 f_step_modulus := ok_step_modulus T F9 (PySem.W.mg_of X G a9) b9 
  have D_steps_between : DefOk l.prog w K mg base 1 "steps_between" 1 f_steps_between := ok_steps_between T F10 (PySem.W.mg_of X G a10) b10 
  have D_find_modulus : DefOk l.prog w K mg base 4 "find_modulus" 1 f_find_modulus := ok_find_modulus T F11 (PySem.W.mg_of X G a11) b11 D_check_ring D_step_modulus D_steps_between
  have D_find_step_difference : DefOk l.prog w K mg base 1 "find_step_difference" 2 f_find_step_difference := ok_find_step_difference T F12 (PySem.W.mg_of X G a12) b12 
  have D_find_mark_difference : DefOk l.prog w K mg base 2 "find_mark_difference" 2 f_find_mark_difference := ok_find_mark_difference T F13 (PySem.W.mg_of X G a13) b13 D_step_modulus D_steps_between
  have D_difference_between : DefOk l.prog w K mg base 3 "difference_between" 2 f_difference_between := ok_difference_between T F14 (PySem.W.mg_of X G a14) b14 D_find_step_difference D_find_mark_difference D_steps_between
  have D_find_difference : DefOk l.prog w K mg base 4 "find_difference" 2 f_find_difference := ok_find_difference T F15 (PySem.W.mg_of X G a15) b15 D_check_ring D_difference_between
  have D_reflected_mark : DefOk l.prog w K mg base 1 "reflected_mark" 2 f_reflected_mark := ok_reflected_mark T F16 (PySem.W.mg_of X G a16) b16 
  have D_reflect_seats : DefOk l.prog w K mg base 2 "reflect_seats" 2 f_reflect_seats := ok_reflect_seats T F17 (PySem.W.mg_of X G a17) b17 D_reflected_mark
  have D_apply_moves : DefOkK l.prog w K mg base 4 "apply_moves" 2 ["pins"] [PyData.tuple []] f_apply_moves := ok_apply_moves T l18 c18 k18 d18 t18 (PySem.W.mg_of X G a18) D_check_ring D_check_pins D_check_moves D_reflect_seats
  have D_check_block : DefOk l.prog w K mg base 4 "check_block" 2 f_check_block := ok_check_block T F19 (PySem.W.mg_of X G a19) b19 D_check_ring D_check_moves
  have D_rings_of_round : DefOk l.prog w K mg base 3 "rings_of_round" 2 f_rings_of_round := ok_rings_of_round T F20 (PySem.W.mg_of X G a20) b20 D_steps_between D_reflect_seats
  have D_repeat_seats : DefOk l.prog w K mg base 4 "repeat_seats" 3 f_repeat_seats := ok_repeat_seats T F21 (PySem.W.mg_of X G a21) b21 D_rings_of_round
  have D_repeat_block : DefOk l.prog w K mg base 5 "repeat_block" 3 f_repeat_block := ok_repeat_block T F22 (PySem.W.mg_of X G a22) b22 D_check_block D_check_times D_repeat_seats
  have D_block_drift : DefOk l.prog w K mg base 5 "block_drift" 2 f_block_drift := ok_block_drift T F23 (PySem.W.mg_of X G a23) b23 D_check_block D_rings_of_round
  have D_check_pinned_ring : DefOk l.prog w K mg base 5 "check_pinned_ring" 2 f_check_pinned_ring := ok_check_pinned_ring T F24 (PySem.W.mg_of X G a24) b24 D_check_ring D_check_some_pins
  have D_arcs_between : DefOk l.prog w K mg base 2 "arcs_between" 2 f_arcs_between := ok_arcs_between T F25 (PySem.W.mg_of X G a25) b25 D_steps_between
  have D_count_rings : DefOk l.prog w K mg base 3 "count_rings" 2 f_count_rings := ok_count_rings T F26 (PySem.W.mg_of X G a26) b26 D_arcs_between D_count_orders
  have D_count_pinned : DefOk l.prog w K mg base 6 "count_pinned" 2 f_count_pinned := ok_count_pinned T F27 (PySem.W.mg_of X G a27) b27 D_check_pinned_ring D_count_rings
  have D_l_random : DefOk l.prog w K mg base 1 "_law_random" 2 f_l_random := ok_l_random T F28 (PySem.W.mg_of X G a28) b28 
  have D_l_below : DefOk l.prog w K mg base 1 "_law_below" 2 f_l_below := ok_l_below T F29 (PySem.W.mg_of X G a29) b29 
  have D_l_little : DefOk l.prog w K mg base 2 "_law_little" 2 f_l_little := ok_l_little T F30 (PySem.W.mg_of X G a30) b30 D_l_below
  have D_l_seats : DefOk l.prog w K mg base 2 "_law_seats" 3 f_l_seats := ok_l_seats T F31 (PySem.W.mg_of X G a31) b31 D_l_below
  have D_l_shuffled : DefOk l.prog w K mg base 2 "_law_shuffled" 2 f_l_shuffled := ok_l_shuffled T F32 (PySem.W.mg_of X G a32) b32 D_l_below
  have D_l_pins : DefOk l.prog w K mg base 3 "_law_pins" 2 f_l_pins := ok_l_pins T F33 (PySem.W.mg_of X G a33) b33 D_l_shuffled D_l_below
  exact ok_law_k42 T F34 D_l_random D_l_little D_apply_moves D_l_below D_repeat_block D_block_drift D_l_pins D_l_seats D_count_pinned D_find_difference D_find_modulus
end MR
open PySem PySem.W PyProof.Rows
set_option maxHeartbeats 0 in
theorem PySem.Challenge.cw_markring_k42_whole_turned_and_changed_ri_holds : PySem.Challenge.rw_markring_k42_whole_turned_and_changed_ri.Holds := by
  w_on; o_law; k_head; (case hw => w_witness2)
  k_fill
  letI : MR.Tq := MR.tq0
  refine L2.walk_of (l := PySem.Challenge.rw_markring_k42_whole_turned_and_changed_ri) (n := 63) (k := 7) (x := "_law_script") (CX := fun w => L2.CX PySem.Challenge.pw_markring_k42_whole_turned_and_changed_ri w) (sp := fun w => MR.spLaw _) rfl (by decide) rfl ⟨rfl, by decide, by decide⟩ (fun w h Y => by first | exact PySem.W.kIn_of Y | exact PySem.W.km_in_of Y) ?F (fun _ _ a ns hl _ hS => ⟨a, ns, rfl, hS, hl, fun _ h => h.elim, trivial, fun _ => rfl⟩) (fun _ _ _ _ _ h => MR.noCX h)
  case F =>
    intro w mg fa h KX G hmg
    refine' MR.law_fn MR.law_true (MR.all_mk (l := PySem.Challenge.rw_markring_k42_whole_turned_and_changed_ri) KX G hmg ?a0 ?l0 ?c0 ?k0 ?a1 ?l1 ?c1 ?k1 ?a2 ?l2 ?c2 ?k2 ?a3 ?l3 ?c3 ?k3 ?a4 ?l4 ?c4 ?k4 ?a5 ?l5 ?c5 ?k5 ?a6 ?l6 ?c6 ?k6 ?a7 ?l7 ?c7 ?k7 ?a8 ?l8 ?c8 ?k8 ?a9 ?l9 ?c9 ?k9 ?a10 ?l10 ?c10 ?k10 ?a11 ?l11 ?c11 ?k11 ?a12 ?l12 ?c12 ?k12 ?a13 ?l13 ?c13 ?k13 ?a14 ?l14 ?c14 ?k14 ?a15 ?l15 ?c15 ?k15 ?a16 ?l16 ?c16 ?k16 ?a17 ?l17 ?c17 ?k17 ?a18 ?l18 ?c18 ?k18 ?d18 ?t18 ?a19 ?l19 ?c19 ?k19 ?a20 ?l20 ?c20 ?k20 ?a21 ?l21 ?c21 ?k21 ?a22 ?l22 ?c22 ?k22 ?a23 ?l23 ?c23 ?k23 ?a24 ?l24 ?c24 ?k24 ?a25 ?l25 ?c25 ?k25 ?a26 ?l26 ?c26 ?k26 ?a27 ?l27 ?c27 ?k27 ?a28 ?l28 ?c28 ?k28 ?a29 ?l29 ?c29 ?k29 ?a30 ?l30 ?c30 ?k30 ?a31 ?l31 ?c31 ?k31 ?a32 ?l32 ?c32 ?k32 ?a33 ?l33 ?c33 ?k33 ?a34 ?l34 ?c34 ?k34 ?z0 ?z1 ?z2 ?z3 ?z4 ?z5 ?z6 ?z7 ?z8 ?z9 ?z10 ?z11 ?z12 ?z13 ?z14 ?i0 ?i1 ?i2 ?i3 ?y0_InvalidTimes ?q0_InvalidTimes ?k0_InvalidTimes ?b0_InvalidTimes ?t0_InvalidTimes (MR.mk_InvalidMarks (mc := .type "type") KX G ?InvalidMarks_a ?InvalidMarks_l ?InvalidMarks_r ?InvalidMarks_sa ?InvalidMarks_ex ?InvalidMarks_ty ?InvalidMarks_kc ?InvalidMarks_i ?InvalidMarks_ti ?InvalidMarks_no ?InvalidMarks_b ?InvalidMarks_ga ?InvalidMarks_rd ?InvalidMarks_vB ?InvalidMarks_lI ?InvalidMarks_cI ?InvalidMarks_kI))
    (case a0 => k_is); (case l0 => k_is); (case c0 => k_is); (case k0 => k_is); (case a1 => k_is); (case l1 => k_is); (case c1 => k_is); (case k1 => k_is); (case a2 => k_is); (case l2 => k_is); (case c2 => k_is); (case k2 => k_is); (case a3 => k_is); (case l3 => k_is); (case c3 => k_is); (case k3 => k_is); (case a4 => k_is); (case l4 => k_is); (case c4 => k_is); (case k4 => k_is); (case a5 => k_is); (case l5 => k_is); (case c5 => k_is); (case k5 => k_is); (case a6 => k_is); (case l6 => k_is); (case c6 => k_is); (case k6 => k_is); (case a7 => k_is); (case l7 => k_is); (case c7 => k_is); (case k7 => k_is); (case a8 => k_is); (case l8 => k_is); (case c8 => k_is); (case k8 => k_is); (case a9 => k_is); (case l9 => k_is); (case c9 => k_is); (case k9 => k_is); (case a10 => k_is); (case l10 => k_is); (case c10 => k_is); (case k10 => k_is); (case a11 => k_is); (case l11 => k_is); (case c11 => k_is); (case k11 => k_is); (case a12 => k_is); (case l12 => k_is); (case c12 => k_is); (case k12 => k_is); (case a13 => k_is); (case l13 => k_is); (case c13 => k_is); (case k13 => k_is); (case a14 => k_is); (case l14 => k_is); (case c14 => k_is); (case k14 => k_is); (case a15 => k_is); (case l15 => k_is); (case c15 => k_is); (case k15 => k_is); (case a16 => k_is); (case l16 => k_is); (case c16 => k_is); (case k16 => k_is); (case a17 => k_is); (case l17 => k_is); (case c17 => k_is); (case k17 => k_is); (case a18 => k_is); (case l18 => k_is); (case c18 => k_is); (case k18 => k_is); (case d18 => k_is); (case t18 => k_is); (case a19 => k_is); (case l19 => k_is); (case c19 => k_is); (case k19 => k_is); (case a20 => k_is); (case l20 => k_is); (case c20 => k_is); (case k20 => k_is); (case a21 => k_is); (case l21 => k_is); (case c21 => k_is); (case k21 => k_is); (case a22 => k_is); (case l22 => k_is); (case c22 => k_is); (case k22 => k_is); (case a23 => k_is); (case l23 => k_is); (case c23 => k_is); (case k23 => k_is); (case a24 => k_is); (case l24 => k_is); (case c24 => k_is); (case k24 => k_is); (case a25 => k_is); (case l25 => k_is); (case c25 => k_is); (case k25 => k_is); (case a26 => k_is); (case l26 => k_is); (case c26 => k_is); (case k26 => k_is); (case a27 => k_is); (case l27 => k_is); (case c27 => k_is); (case k27 => k_is); (case a28 => k_is); (case l28 => k_is); (case c28 => k_is); (case k28 => k_is); (case a29 => k_is); (case l29 => k_is); (case c29 => k_is); (case k29 => k_is); (case a30 => k_is); (case l30 => k_is); (case c30 => k_is); (case k30 => k_is); (case a31 => k_is); (case l31 => k_is); (case c31 => k_is); (case k31 => k_is); (case a32 => k_is); (case l32 => k_is); (case c32 => k_is); (case k32 => k_is); (case a33 => k_is); (case l33 => k_is); (case c33 => k_is); (case k33 => k_is); (case a34 => k_is); (case l34 => k_is); (case c34 => k_is); (case k34 => k_is); (case z0 => k_is); (case z1 => k_is); (case z2 => k_is); (case z3 => k_is); (case z4 => k_is); (case z5 => k_is); (case z6 => k_is); (case z7 => k_is); (case z8 => k_is); (case z9 => k_is); (case z10 => k_is); (case z11 => k_is); (case z12 => k_is); (case z13 => k_is); (case z14 => k_is); (case i0 => k_is); (case i1 => k_is); (case i2 => k_is); (case i3 => k_is); (case y0_InvalidTimes => k_is); (case q0_InvalidTimes => k_exc); (case k0_InvalidTimes => k_is); (case b0_InvalidTimes => k_is); (case t0_InvalidTimes => k_is); (case InvalidMarks_a => k_is); (case InvalidMarks_l => k_is); (case InvalidMarks_r => first | rfl | decide +kernel); (case InvalidMarks_sa => k_is); (case InvalidMarks_ex => k_is); (case InvalidMarks_ty => k_is); (case InvalidMarks_kc => k_is); (case InvalidMarks_i => k_is); (case InvalidMarks_ti => k_is); (case InvalidMarks_no => k_is); (case InvalidMarks_b => k_is); (case InvalidMarks_ga => k_is); (case InvalidMarks_rd => k_is); (case InvalidMarks_vB => k_is); (case InvalidMarks_lI => k_is); (case InvalidMarks_cI => k_is); (case InvalidMarks_kI => k_is)
namespace MR
end MR

