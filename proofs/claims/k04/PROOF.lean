import PyProof.Rows.All
import Wide.All
import OpenK.AllK
import Wide.FinOn
import KE.KStateDown
import HandS.ForMost
import HandS.Defaults
import HandS.Head0
import HandS.Head1
import HandS.Head2
import HandS.HeadEnd
import HandS.HeadHook1
import HandS.HeadHook2
import HandS.HeadHook3
import HandS.HeadHook4
import HandS.HeadWalk
import HandS.EndTab
import HandS.AnyAll
import HandS.Deep
import HandS.FStr
import HandS.StrMore
import HandS.IsInst
import HandS.Replace
import HandS.Text
import HandS.ForExc
import HandS.RaiseMore
import HandS.More
import KE.KxText
import HandS.ExcIs
import Lean
import PySem.Challenge.RW_showtree_k04_texts_refused
set_option Elab.async false
set_option linter.all false
set_option maxRecDepth 100000
set_option maxHeartbeats 0
/-! DL: data over the hand layer: what an expression, a statement, a def is worth over plain data. -/
namespace DL
open PySem PySem.Spec PyProof.Rows L2

/-! ### heaps -/
def Sub (A B : Hp) : Prop := ∀ a o, A a = some o → B a = some o
theorem Sub.refl (A : Hp) : Sub A A := fun _ _ h => h
theorem Sub.trans {A B C : Hp} (h : Sub A B) (k : Sub B C) : Sub A C := fun a o e => k a o (h a o e)
/-- all but tables is kept; tables stay good; nothing goes away -/
structure Ext (H H' : Hp) : Prop where
  k : ∀ a o, H a = some o → (∀ ps, o ≠ .tbl ps) → H' a = some o
  t : ∀ a, GxR.TabG H a → GxR.TabG H' a
  n : ∀ a, H' a = none → H a = none
theorem Ext.refl (H : Hp) : Ext H H := ⟨fun _ _ e _ => e, fun _ e => e, fun _ e => e⟩
theorem Ext.trans {A B C : Hp} (h : Ext A B) (k : Ext B C) : Ext A C :=
  ⟨fun a o e n => k.k a o (h.k a o e n) n, fun a e => k.t a (h.t a e), fun a e => h.n a (k.n a e)⟩
theorem Ext.of_new {H : Hp} {p : Addr} {o : HO} (h : H p = none) : Ext H (upd H p o) :=
  ⟨fun a u e _ => by rw [upd_ne (ne_of_none e h)]; exact e,
   fun a ⟨ps, e, t⟩ => ⟨ps, by rw [upd_ne (ne_of_none e h)]; exact e, t⟩,
   fun a e => by
    by_cases q : a = p
    · rw [q]; exact h
    · rw [upd_ne q] at e; exact e⟩
theorem Ext.of_tab {P : Addr} {H H' : Hp} (h : GxR.Tabbed P H H') (g : GxR.TabG H P) : Ext H H' where
  k := fun a o e n => by
    have ne : a ≠ P := fun q => by
      obtain ⟨ps, e2, _⟩ := g
      rw [q, e2] at e
      exact n ps (Option.some.inj e).symm
    rw [h.2 a ne]; exact e
  t := fun a e => by
    by_cases q : a = P
    · rw [q]; exact h.1
    · obtain ⟨ps, e1, e2⟩ := e
      exact ⟨ps, by rw [h.2 a q]; exact e1, e2⟩
  n := fun a e => by
    by_cases q : a = P
    · obtain ⟨ps, e1, _⟩ := h.1
      rw [q, e1] at e
      cases e
    · rw [h.2 a q] at e; exact e
/-- the heap of what stands as data -/
structure DH (Hd H : Hp) : Prop where
  s : Sub Hd H
  nt : ∀ a ps, Hd a ≠ some (.tbl ps)
theorem DH.ext {Hd H H' : Hp} (h : DH Hd H) (e : Ext H H') : DH Hd H' :=
  ⟨fun a o q => e.k a o (h.s a o q) fun ps z => h.nt a ps (by rw [q, z]), h.nt⟩
structure Gr (Hd H Hd' H' : Hp) : Prop where
  d : Sub Hd Hd'
  h : DH Hd' H'
  e : Ext H H'
  f : ∀ a, Hd a = none → H a ≠ none → Hd' a = none
theorem Gr.refl {Hd H : Hp} (h : DH Hd H) : Gr Hd H Hd H := ⟨Sub.refl _, h, Ext.refl _, fun _ e _ => e⟩
theorem Gr.trans {A a B b C c : Hp} (h : Gr A a B b) (k : Gr B b C c) : Gr A a C c :=
  ⟨h.d.trans k.d, k.h, h.e.trans k.e, fun x e n => k.f x (h.f x e n) fun z => n (h.e.n x z)⟩
/-- a new object, as data -/
theorem Gr.new {Hd H : Hp} {p : Addr} {o : HO} (h : DH Hd H) (hp : H p = none) (ho : ∀ ps, o ≠ .tbl ps) : Gr Hd H (upd Hd p o) (upd H p o) := by
  have hd0 : Hd p = none := by
    cases q : Hd p with
    | none => rfl
    | some u =>
      have := h.s p u q
      rw [hp] at this
      cases this
  refine ⟨fun a u e => by rw [upd_ne (ne_of_none e hd0)]; exact e, ⟨fun a u e => ?_, fun a ps e => ?_⟩, Ext.of_new hp, fun a e n => ?_⟩
  · by_cases q : a = p
    · rw [q, upd_same] at e
      rw [q, upd_same, e]
    · rw [upd_ne q] at e
      rw [upd_ne q]
      exact h.s a u e
  · by_cases q : a = p
    · rw [q, upd_same] at e
      exact ho ps (Option.some.inj e)
    · rw [upd_ne q] at e
      exact h.nt a ps e
  · by_cases q : a = p
    · rw [q] at n
      exact absurd hp n
    · rw [upd_ne q]; exact e
theorem Gr.newOut {Hd H : Hp} {p : Addr} {o : HO} (h : DH Hd H) (hp : H p = none) : Gr Hd H Hd (upd H p o) :=
  ⟨Sub.refl _, h.ext (Ext.of_new hp), Ext.of_new hp, fun _ e _ => e⟩
theorem Gr.tab {Hd H H' : Hp} {P : Addr} (h : DH Hd H) (t : GxR.Tabbed P H H') (g : GxR.TabG H P) : Gr Hd H Hd H' :=
  ⟨Sub.refl _, h.ext (Ext.of_tab t g), Ext.of_tab t g, fun _ e _ => e⟩

/-! ### data -/
theorem rd_sub {A B : Hp} (s : Sub A B) {a : Addr} {u : HO} (h : Rd A a u) : Rd B a u := h.elim (fun e => .inl (s _ _ e)) fun ⟨o, e⟩ => .inr ⟨o, s _ _ e⟩
theorem sl_sub {K : PySem.W.Frag} {A B : Hp} (s : Sub A B) {a : Addr} {xs : List V} (h : SqL K A a xs) : SqL K B a xs := h.imp (rd_sub s) id
theorem st_sub {K : PySem.W.Frag} {A B : Hp} (s : Sub A B) {a : Addr} {xs : List V} (h : SqT K A a xs) : SqT K B a xs := h.imp (rd_sub s) id
mutual
theorem dp_sub {K : PySem.W.Frag} {A B : Hp} (s : Sub A B) : ∀ (d : PyData) (v : V), Dp K A v d → Dp K B v d
  | .none, _, h => by cases h; exact .non
  | .bool b, _, h => by cases h; exact .bl b
  | .int i, _, h => by cases h; exact .int i
  | .str x, _, h => by cases h; exact .str x
  | .list ds, _, h => by
    cases h with
    | lst h1 h2 => exact .lst (sl_sub s h1) (dpa_sub s ds _ h2)
  | .tuple ds, _, h => by
    cases h with
    | tup h1 h2 => exact .tup (st_sub s h1) (dpa_sub s ds _ h2)
  | .dict _, _, h => by cases h
theorem dpa_sub {K : PySem.W.Frag} {A B : Hp} (s : Sub A B) : ∀ (ds : List PyData) (vs : List V), DpAll K A vs ds → DpAll K B vs ds
  | [], _, h => by cases h; exact .nil
  | d :: ds, _, h => by
    cases h with
    | cons h1 h2 => exact .cons (dp_sub s d _ h1) (dpa_sub s ds _ h2)
end
theorem Dp.up {K : PySem.W.Frag} {A B : Hp} {v : V} {d : PyData} (h : Dp K A v d) (s : Sub A B) : Dp K B v d := dp_sub s d v h
theorem DpAll.up {K : PySem.W.Frag} {A B : Hp} {vs : List V} {ds : List PyData} (h : DpAll K A vs ds) (s : Sub A B) : DpAll K B vs ds := dpa_sub s ds vs h
section
variable {K : PySem.W.Frag} {H : Hp}
theorem dpa_len : ∀ {vs : List V} {ds : List PyData}, DpAll K H vs ds → vs.length = ds.length
  | _, _, .nil => rfl
  | _, _, .cons _ t => congrArg (· + 1) (dpa_len t)
theorem dpa_get : ∀ {vs : List V} {ds : List PyData} {i : Nat} {d : PyData}, DpAll K H vs ds → ds[i]? = some d → ∃ v, vs[i]? = some v ∧ Dp K H v d
  | _, _, _, _, .nil, e => by simp at e
  | _, _, 0, _, .cons h _, e => by
    simp at e
    subst e
    exact ⟨_, rfl, h⟩
  | _, _, i + 1, d, .cons _ t, e => by
    obtain ⟨v, h1, h2⟩ := dpa_get (i := i) (d := d) t (by simpa using e)
    exact ⟨v, by simpa using h1, h2⟩
theorem dpa_get' : ∀ {vs : List V} {ds : List PyData} {i : Nat} {v : V}, DpAll K H vs ds → vs[i]? = some v → ∃ d, ds[i]? = some d ∧ Dp K H v d
  | _, _, _, _, .nil, e => by simp at e
  | _, _, 0, _, .cons h _, e => by
    simp at e
    subst e
    exact ⟨_, rfl, h⟩
  | _, _, i + 1, d, .cons _ t, e => by
    obtain ⟨v, h1, h2⟩ := dpa_get' (i := i) t (by simpa using e)
    exact ⟨v, by simpa using h1, h2⟩
theorem dpa_app : ∀ {vs ws : List V} {ds es : List PyData}, DpAll K H vs ds → DpAll K H ws es → DpAll K H (vs ++ ws) (ds ++ es)
  | _, _, _, _, .nil, k => k
  | _, _, _, _, .cons h t, k => .cons h (dpa_app t k)
theorem dpa_take : ∀ {vs : List V} {ds : List PyData} (n : Nat), DpAll K H vs ds → DpAll K H (vs.take n) (ds.take n)
  | _, _, 0, _ => .nil
  | _, _, _ + 1, .nil => .nil
  | _, _, n + 1, .cons h t => .cons h (dpa_take n t)
theorem dpa_drop : ∀ {vs : List V} {ds : List PyData} (n : Nat), DpAll K H vs ds → DpAll K H (vs.drop n) (ds.drop n)
  | _, _, 0, r => r
  | _, _, _ + 1, .nil => .nil
  | _, _, n + 1, .cons _ t => dpa_drop n t
theorem dpa_rev {vs : List V} {ds : List PyData} (h : DpAll K H vs ds) : DpAll K H vs.reverse ds.reverse := by
  induction ds generalizing vs with
  | nil => cases h; exact .nil
  | cons d ds ih =>
    cases h with
    | cons h1 h2 =>
      rw [List.reverse_cons, List.reverse_cons]
      exact dpa_app (ih h2) (.cons h1 .nil)
theorem dpa_ints : ∀ ns : List Int, DpAll K H (ns.map V.int) (ns.map PyData.int)
  | [] => .nil
  | n :: r => .cons (.int n) (dpa_ints r)
end
/-- the same cut of data -/
def cutD {α : Type} (xs : List α) (lo hi : Option Int) : List α := (xs.drop (HT.sIx xs.length 0 lo)).take (HT.sIx xs.length xs.length hi - HT.sIx xs.length 0 lo)
theorem dpa_cut {K : PySem.W.Frag} {H : Hp} {vs : List V} {ds : List PyData} (lo hi : Option Int) (h : DpAll K H vs ds) : DpAll K H (cutV vs lo hi) (cutD ds lo hi) := by
  unfold cutV cutD
  rw [dpa_len h]
  exact dpa_take _ (dpa_drop _ h)

/-! ### slots -/
inductive Sl where
  | no
  | dat (d : PyData)
  | val (v : V)
  | own (xs : List PyData)
def SlOk (K : PySem.W.Frag) (Hd H : Hp) : Option V → Sl → Prop
  | _, .no => True
  | some v, .dat d => Dp K Hd v d
  | some v, .val w => v = w
  | some v, .own xs => ∃ a vs, v = .ref a ∧ H a = some (.lst vs) ∧ Hd a = none ∧ DpAll K Hd vs xs
  | none, _ => False
structure Env (K : PySem.W.Frag) (tb : List Addr) (Hd H : Hp) (σ : L2.St) (ds : List Sl) : Prop where
  len : σ.length = ds.length
  dh : DH Hd H
  tb : ∀ P ∈ tb, GxR.TabG H P
  sl : ∀ (i : Nat) (s : Sl), ds[i]? = some s → ∃ o, σ[i]? = some o ∧ SlOk K Hd H o s
  ap : ∀ (i j : Nat) (xs ys : List PyData) (a : Addr), i ≠ j → ds[i]? = some (.own xs) → ds[j]? = some (.own ys) → σ[i]? = some (some (.ref a)) → σ[j]? = some (some (.ref a)) → False
section
variable {K : PySem.W.Frag} {tb : List Addr} {Hd H Hd' H' : Hp} {σ : L2.St} {ds : List Sl}
theorem SlOk.up {o : Option V} {s : Sl} (h : SlOk K Hd H o s) (g : Gr Hd H Hd' H') : SlOk K Hd' H' o s := by
  cases s with
  | no => cases o <;> trivial
  | dat d =>
    cases o with
    | none => exact h.elim
    | some v => exact Dp.up h g.d
  | val w =>
    cases o with
    | none => exact h.elim
    | some v => exact h
  | own xs =>
    cases o with
    | none => exact h.elim
    | some v =>
      obtain ⟨a, vs, e1, e2, e3, e4⟩ := h
      exact ⟨a, vs, e1, g.e.k a _ e2 (fun ps z => by cases z), g.f a e3 (by rw [e2]; exact fun z => nomatch z), DpAll.up e4 g.d⟩
theorem Env.up (h : Env K tb Hd H σ ds) (g : Gr Hd H Hd' H') : Env K tb Hd' H' σ ds :=
  ⟨h.len, g.h, fun P hp => g.e.t P (h.tb P hp), fun i s e => let ⟨o, h1, h2⟩ := h.sl i s e; ⟨o, h1, h2.up g⟩, h.ap⟩
theorem Env.dat (h : Env K tb Hd H σ ds) {i : Nat} {d : PyData} (e : ds[i]? = some (.dat d)) : ∃ v, σ[i]? = some (some v) ∧ Dp K Hd v d := by
  obtain ⟨o, h1, h2⟩ := h.sl i _ e
  cases o with
  | none => exact h2.elim
  | some v => exact ⟨v, h1, h2⟩
theorem Env.val (h : Env K tb Hd H σ ds) {i : Nat} {w : V} (e : ds[i]? = some (.val w)) : σ[i]? = some (some w) := by
  obtain ⟨o, h1, h2⟩ := h.sl i _ e
  cases o with
  | none => exact h2.elim
  | some v =>
    have e : v = w := h2
    rw [h1, e]
theorem Env.own (h : Env K tb Hd H σ ds) {i : Nat} {xs : List PyData} (e : ds[i]? = some (.own xs)) : ∃ a vs, σ[i]? = some (some (.ref a)) ∧ H a = some (.lst vs) ∧ Hd a = none ∧ DpAll K Hd vs xs := by
  obtain ⟨o, h1, h2⟩ := h.sl i _ e
  cases o with
  | none => exact h2.elim
  | some v =>
    obtain ⟨a, vs, e1, e2, e3, e4⟩ := h2
    exact ⟨a, vs, by rw [h1, e1], e2, e3, e4⟩
/-- a slot is stored: what is no own list -/
theorem Env.set (h : Env K tb Hd H σ ds) {i : Nat} {v : V} {s : Sl} (hs : SlOk K Hd H (some v) s) (no : ∀ xs, s ≠ .own xs) : Env K tb Hd H (σ.set i (some v)) (ds.set i s) := by
  refine ⟨by rw [List.length_set, List.length_set]; exact h.len, h.dh, h.tb, fun j t e => ?_, fun j k xs ys a n e1 e2 e3 e4 => ?_⟩
  · by_cases q : i = j
    · subst q
      have hi : i < ds.length := by
        have := (List.getElem?_eq_some_iff.mp e).1
        rw [List.length_set] at this
        exact this
      rw [List.getElem?_set_self hi] at e
      cases e
      exact ⟨some v, List.getElem?_set_self (by rw [h.len]; exact hi), hs⟩
    · rw [List.getElem?_set_ne q] at e
      obtain ⟨o, h1, h2⟩ := h.sl j t e
      exact ⟨o, by rw [List.getElem?_set_ne q]; exact h1, h2⟩
  · have nj : ∀ (m : Nat) (zs : List PyData), (ds.set i s)[m]? = some (.own zs) → i ≠ m := fun m zs e q => by
      subst q
      have hi : i < ds.length := by
        have := (List.getElem?_eq_some_iff.mp e).1
        rw [List.length_set] at this
        exact this
      rw [List.getElem?_set_self hi] at e
      exact no zs (Option.some.inj e)
    have n1 := nj j xs e1
    have n2 := nj k ys e2
    rw [List.getElem?_set_ne n1] at e1 e3
    rw [List.getElem?_set_ne n2] at e2 e4
    exact h.ap j k xs ys a n e1 e2 e3 e4
end
end DL
namespace DL
open PySem PySem.Spec PyProof.Rows L2

/-! ### expressions over data -/
section
variable (K : PySem.W.Frag) (tb : List Addr)
def EvE (te : TE) (ds : List Sl) (d : PyData) : Prop := ∀ (Hd H : Hp) (σ : L2.St), Env K tb Hd H σ ds → ∀ Q : VK, (∀ v Hd' H', Gr Hd H Hd' H' → Dp K Hd' v d → Q v H') → te σ H Q
def EvA (ta : TA) (ds : List Sl) (es : List PyData) : Prop := ∀ (Hd H : Hp) (σ : L2.St), Env K tb Hd H σ ds → ∀ Q : List V → Hp → Prop, (∀ vs Hd' H', Gr Hd H Hd' H' → DpAll K Hd' vs es → Q vs H') → ta σ H Q
def EvT (tt : TT) (ds : List Sl) (b : Bool) : Prop := ∀ (Hd H : Hp) (σ : L2.St), Env K tb Hd H σ ds → ∀ Q : Bool → Hp → Prop, (∀ Hd' H', Gr Hd H Hd' H' → Q b H') → tt σ H Q
def EvO (to : TO) (ds : List Sl) (o : Option Int) : Prop := ∀ (Hd H : Hp) (σ : L2.St), Env K tb Hd H σ ds → ∀ Q : Option Int → Hp → Prop, (∀ Hd' H', Gr Hd H Hd' H' → Q o H') → to σ H Q
/-- an operator, a call, a method, a slice on values -/
def RvD (r : R2) (d e f : PyData) : Prop := ∀ (Hd H : Hp) (x y : V), DH Hd H → (∀ P ∈ tb, GxR.TabG H P) → Dp K Hd x d → Dp K Hd y e → ∀ Q : VK, (∀ v Hd' H', Gr Hd H Hd' H' → Dp K Hd' v f → Q v H') → r x y H Q
def RuD (r : V → Hp → VK → Prop) (d f : PyData) : Prop := ∀ (Hd H : Hp) (x : V), DH Hd H → Dp K Hd x d → ∀ Q : VK, (∀ v Hd' H', Gr Hd H Hd' H' → Dp K Hd' v f → Q v H') → r x H Q
def RcD (r : List V → Hp → VK → Prop) (es : List PyData) (f : PyData) : Prop := ∀ (Hd H : Hp) (xs : List V), DH Hd H → DpAll K Hd xs es → ∀ Q : VK, (∀ v Hd' H', Gr Hd H Hd' H' → Dp K Hd' v f → Q v H') → r xs H Q
def RsD (r : V → Option Int → Option Int → Hp → VK → Prop) (d : PyData) (lo hi : Option Int) (f : PyData) : Prop := ∀ (Hd H : Hp) (x : V), DH Hd H → Dp K Hd x d → ∀ Q : VK, (∀ v Hd' H', Gr Hd H Hd' H' → Dp K Hd' v f → Q v H') → r x lo hi H Q
end
section
variable (X : Cx) (tb : List Addr)
def PEd (e : Expr) (ds : List Sl) (d : PyData) : Prop := ∃ t, PE X e t ∧ EvE X.K tb t ds d
def PAd (es : List Expr) (ds : List Sl) (fs : List PyData) : Prop := ∃ t, PA X es t ∧ EvA X.K tb t ds fs
def PTd (e : Expr) (ds : List Sl) (b : Bool) : Prop := ∃ t, PT X e t ∧ EvT X.K tb t ds b
def PWd (e : Expr) (ds : List Sl) (b : Bool) : Prop := ∃ t, PW X e t ∧ EvT X.K tb t ds b
def POd (e : Option Expr) (ds : List Sl) (o : Option Int) : Prop := ∃ t, PO X e t ∧ EvO X.K tb t ds o
end
section
variable {X : Cx} {tb : List Addr} {ds : List Sl} {d e f : PyData} {a b c : Expr} {pos : Pos}
def visB (sc : Scope) (x : Str) : Bool := match sc.names.lookup x with
  | some .local => true
  | some .cell => true
  | some .free => true
  | _ => false
theorem visB_ok {sc : Scope} {x : Str} (h : visB sc x = true) : L2.Vis sc x := by
  unfold visB at h
  unfold L2.Vis
  split at h
  · exact .inl (by assumption)
  · exact .inr (.inl (by assumption))
  · exact .inr (.inr (by assumption))
  · cases h
def locB (sc : Scope) (x : Str) : Bool := match sc.names.lookup x with
  | some .local => true
  | some .cell => true
  | _ => false
theorem locB_ok {sc : Scope} {x : Str} (h : locB sc x = true) : L2.Loc sc x := by
  unfold locB at h
  unfold L2.Loc
  split at h
  · exact .inl (by assumption)
  · exact .inr (by assumption)
  · cases h
theorem PEd.is {g : PyData} (h : PEd X tb a ds d) (q : d = g) : PEd X tb a ds g := q ▸ h
theorem PTd.is {x y : Bool} (h : PTd X tb a ds x) (q : x = y) : PTd X tb a ds y := q ▸ h
theorem ed_var (i : Nat) {x : Str} {pos : Pos} (hd : ds[i]? = some (.dat d) := by rfl) (hN : X.N[i]? = some x := by rfl) (hv : visB X.env.scope x = true := by rfl) (h1 : (x == ("__debug__" : Str)) = false := by decide)
    (h2 : (x == ("__classdict__" : Str)) = false := by decide) : PEd X tb (.Name x pos) ds d :=
  ⟨_, pe_var hN (visB_ok hv) h1 h2, fun Hd H σ E Q q => let ⟨v, e1, e2⟩ := E.dat hd; ⟨v, e1, q v Hd H (Gr.refl E.dh) e2⟩⟩
theorem ev_c {K : PySem.W.Frag} {v : V} (h : ∀ Hd, Dp K Hd v d) : EvE K tb (tC v) ds d := fun Hd H _ E _ q => q v Hd H (Gr.refl E.dh) (h Hd)
theorem ed_int {i : Int} {j : Nat} : PEd X tb (.Constant (.int i) j pos) ds (.int i) := ⟨_, pe_int, ev_c fun _ => .int i⟩
theorem ed_bl {k : Bool} {j : Nat} : PEd X tb (.Constant (.bool k) j pos) ds (.bool k) := ⟨_, pe_bl, ev_c fun _ => .bl k⟩
theorem ed_non {j : Nat} : PEd X tb (.Constant .none j pos) ds .none := ⟨_, pe_non, ev_c fun _ => .non⟩
theorem ed_str {x : Str} {j : Nat} : PEd X tb (.Constant (.str x) j pos) ds (.str x) := ⟨_, pe_str, ev_c fun _ => .str x⟩
theorem ed_glob {x : Str} {v : V} {u : Value} (hg : Gl X x) (hm : X.mg x = some u) (r : RelV v u) (h : ∀ Hd, Dp X.K Hd v d) (hd : (x == ("__debug__" : Str)) = false := by decide) : PEd X tb (.Name x pos) ds d := ⟨_, pe_glob hg hm r hd, ev_c h⟩

/-! ### operators -/
theorem ev_op {K : PySem.W.Frag} {ta tb' : TE} {r : R2} (ha : EvE K tb ta ds d) (hb : EvE K tb tb' ds e) (hr : RvD K tb r d e f) : EvE K tb (tOp r ta tb') ds f := fun Hd H σ E Q q =>
  ha Hd H σ E _ fun x Hd1 H1 g1 dx => hb Hd1 H1 σ (E.up g1) _ fun y Hd2 H2 g2 dy => hr Hd2 H2 x y g2.h ((E.up g1).up g2).tb (Dp.up dx g2.d) dy Q fun v Hd3 H3 g3 dv => q v Hd3 H3 ((g1.trans g2).trans g3) dv
theorem ed_op {op : Operator} {r : R2} (ho : OpR X (binaryOp op) r) (hr : RvD X.K tb r d e f) (ha : PEd X tb a ds d) (hb : PEd X tb b ds e) : PEd X tb (.BinOp a op b pos) ds f :=
  let ⟨_, p1, q1⟩ := ha; let ⟨_, p2, q2⟩ := hb; ⟨_, pe_op ho p1 p2, ev_op q1 q2 hr⟩
theorem ed_un {op : UnaryOp} {r : V → Hp → VK → Prop} (ho : UnR X (unaryOp op) r) (hr : RuD X.K r d f) (ha : PEd X tb a ds d) : PEd X tb (.UnaryOp op a pos) ds f :=
  let ⟨_, p1, q1⟩ := ha; ⟨_, pe_un ho p1, fun Hd H σ E Q q => q1 Hd H σ E _ fun x Hd1 H1 g1 dx => hr Hd1 H1 x g1.h dx Q fun v Hd2 H2 g2 dv => q v Hd2 H2 (g1.trans g2) dv⟩
theorem ed_cmp {op : CmpOp} {r : R2} (ho : OpR X (compareOp op) r) (hr : RvD X.K tb r d e f) (ha : PEd X tb a ds d) (hb : PEd X tb b ds e) (hm : behindInMarks op b = false := by first | exact nomark _ | rfl) : PEd X tb (.Compare a [op] [b] pos) ds f :=
  let ⟨_, p1, q1⟩ := ha; let ⟨_, p2, q2⟩ := hb; ⟨_, pe_cmpR ho p1 p2 hm, ev_op q1 q2 hr⟩
theorem td_cmp {op : CmpOp} {r : R2} {k : Bool} (ho : OpR X (compareOp op) r) (hr : RvD X.K tb r d e (.bool k)) (ha : PEd X tb a ds d) (hb : PEd X tb b ds e) (hm : behindInMarks op b = false := by first | exact nomark _ | rfl) : PTd X tb (.Compare a [op] [b] pos) ds k :=
  let ⟨_, p1, q1⟩ := ha; let ⟨_, p2, q2⟩ := hb; ⟨_, pt_cmpR ho p1 p2 hm, fun Hd H σ E Q q => ev_op q1 q2 hr Hd H σ E _ fun v Hd1 H1 g dv => by
    cases dv
    exact ⟨k, rfl, q Hd1 H1 g⟩⟩
theorem td_val {k : Bool} (ha : PEd X tb a ds (.bool k)) (he : ∀ whole, isTrue a X.env whole = (do let v ← whole; standAt a.pos; holding [v] (truthy v)) := by intro _; rfl) : PTd X tb a ds k :=
  let ⟨_, p1, q1⟩ := ha; ⟨_, pt_val p1 he, fun Hd H σ E Q q => q1 Hd H σ E _ fun v Hd1 H1 g dv => by
    cases dv
    exact ⟨k, rfl, q Hd1 H1 g⟩⟩
theorem td_not {k : Bool} (h : PTd X tb a ds k) : PTd X tb (.UnaryOp .Not a pos) ds (!k) := let ⟨_, p, q⟩ := h; ⟨_, pt_not p, fun Hd H σ E Q z => q Hd H σ E _ fun Hd1 H1 g => z Hd1 H1 g⟩
theorem PWd.pt {k : Bool} (h : PWd X tb a ds k) : PTd X tb a ds k := let ⟨_, p, q⟩ := h; ⟨_, p.pt, q⟩
variable {rest : List Expr}
theorem wd_and1 {k : Bool} (h : PTd X tb a ds k) : PWd X tb (.BoolOp .And [a] pos) ds k := let ⟨_, p, q⟩ := h; ⟨_, pw_and1 p, q⟩
theorem wd_or1 {k : Bool} (h : PTd X tb a ds k) : PWd X tb (.BoolOp .Or [a] pos) ds k := let ⟨_, p, q⟩ := h; ⟨_, pw_or1 p, q⟩
/-- what is never asked -/
theorem wd_and {k l : Bool} (h : PTd X tb a ds k) {u : TT} (hp : PW X (.BoolOp .And (b :: rest) pos) u) (hq : k = true → EvT X.K tb u ds l) : PWd X tb (.BoolOp .And (a :: b :: rest) pos) ds (k && l) := let ⟨_, p, q⟩ := h; ⟨_, pw_and p hp, fun Hd H σ E Q z => q Hd H σ E _ fun Hd1 H1 g => by
  cases k with
  | true =>
    show u σ H1 Q
    exact hq rfl Hd1 H1 σ (E.up g) Q fun Hd2 H2 g2 => z Hd2 H2 (g.trans g2)
  | false =>
    show Q false H1
    exact z Hd1 H1 g⟩
theorem wd_or {k l : Bool} (h : PTd X tb a ds k) {u : TT} (hp : PW X (.BoolOp .Or (b :: rest) pos) u) (hq : k = false → EvT X.K tb u ds l) : PWd X tb (.BoolOp .Or (a :: b :: rest) pos) ds (k || l) := let ⟨_, p, q⟩ := h; ⟨_, pw_or p hp, fun Hd H σ E Q z => q Hd H σ E _ fun Hd1 H1 g => by
  cases k with
  | true =>
    show Q true H1
    exact z Hd1 H1 g
  | false =>
    show u σ H1 Q
    exact hq rfl Hd1 H1 σ (E.up g) Q fun Hd2 H2 g2 => z Hd2 H2 (g.trans g2)⟩
end
end DL
namespace DL
open PySem PySem.Spec PyProof.Rows L2

/-! ### what is never asked -/
section
variable {X : Cx} {tb : List Addr} {ds : List Sl} {d e f : PyData} {a b c : Expr} {pos : Pos} {rest : List Expr}
theorem pe_nev {e : Expr} : PE X e (fun _ _ _ => False) := ⟨fun _ _ _ _ _ _ h => h.elim⟩
theorem pt_nev {e : Expr} : PT X e (fun _ _ _ => False) := ⟨fun _ _ _ _ _ _ h => h.elim⟩
theorem pw_nev {e : Expr} : PW X e (fun _ _ _ => False) := ⟨fun _ _ _ _ _ _ _ h => h.elim⟩
theorem wd_andt {l : Bool} (h : PTd X tb a ds true) (hb : PWd X tb (.BoolOp .And (b :: rest) pos) ds l) : PWd X tb (.BoolOp .And (a :: b :: rest) pos) ds l := let ⟨_, p, q⟩ := hb; by
  have z := wd_and (l := l) h p fun _ => q
  rwa [Bool.true_and] at z
theorem wd_andf (h : PTd X tb a ds false) : PWd X tb (.BoolOp .And (a :: b :: rest) pos) ds false := wd_and (l := false) h pw_nev fun z => nomatch z
theorem wd_ort (h : PTd X tb a ds true) : PWd X tb (.BoolOp .Or (a :: b :: rest) pos) ds true := wd_or (l := false) h pw_nev fun z => nomatch z
theorem wd_orf {l : Bool} (h : PTd X tb a ds false) (hb : PWd X tb (.BoolOp .Or (b :: rest) pos) ds l) : PWd X tb (.BoolOp .Or (a :: b :: rest) pos) ds l := let ⟨_, p, q⟩ := hb; by
  have z := wd_or (l := l) h p fun _ => q
  rwa [Bool.false_or] at z
theorem wd_and2 {k l : Bool} (h : PTd X tb a ds k) (hb : k = true → PWd X tb (.BoolOp .And (b :: rest) pos) ds l) : PWd X tb (.BoolOp .And (a :: b :: rest) pos) ds (k && l) := by
  cases k with
  | true => exact wd_andt h (hb rfl)
  | false => exact wd_andf h
theorem wd_or2 {k l : Bool} (h : PTd X tb a ds k) (hb : k = false → PWd X tb (.BoolOp .Or (b :: rest) pos) ds l) : PWd X tb (.BoolOp .Or (a :: b :: rest) pos) ds (k || l) := by
  cases k with
  | true => exact wd_ort h
  | false => exact wd_orf h (hb rfl)
/-- as values -/
theorem ed_one {op : PySem.BoolOp} (h : PEd X tb a ds d) : PEd X tb (.BoolOp op [a] pos) ds d := let ⟨_, p, q⟩ := h; ⟨_, pe_one p, q⟩
theorem ed_and {k : Bool} (h : PEd X tb a ds (.bool k)) (hb : k = true → PEd X tb (.BoolOp .And (b :: rest) pos) ds d) (h0 : k = false → d = .bool false) : PEd X tb (.BoolOp .And (a :: b :: rest) pos) ds d := by
  obtain ⟨t, p, q⟩ := h
  cases k with
  | true =>
    obtain ⟨u, p2, q2⟩ := hb rfl
    exact ⟨_, pe_and p p2, fun Hd H σ E Q z => q Hd H σ E _ fun x Hd1 H1 g dx => by
      cases dx
      exact ⟨true, rfl, q2 Hd1 H1 σ (E.up g) Q fun v Hd2 H2 g2 dv => z v Hd2 H2 (g.trans g2) dv⟩⟩
  | false =>
    rw [h0 rfl]
    exact ⟨_, pe_and p pe_nev, fun Hd H σ E Q z => q Hd H σ E _ fun x Hd1 H1 g dx => by
      cases dx
      exact ⟨false, rfl, z _ Hd1 H1 g (.bl false)⟩⟩
theorem ed_or {k : Bool} (h : PEd X tb a ds (.bool k)) (hb : k = false → PEd X tb (.BoolOp .Or (b :: rest) pos) ds d) (h0 : k = true → d = .bool true) : PEd X tb (.BoolOp .Or (a :: b :: rest) pos) ds d := by
  obtain ⟨t, p, q⟩ := h
  cases k with
  | false =>
    obtain ⟨u, p2, q2⟩ := hb rfl
    exact ⟨_, pe_or p p2, fun Hd H σ E Q z => q Hd H σ E _ fun x Hd1 H1 g dx => by
      cases dx
      exact ⟨false, rfl, q2 Hd1 H1 σ (E.up g) Q fun v Hd2 H2 g2 dv => z v Hd2 H2 (g.trans g2) dv⟩⟩
  | true =>
    rw [h0 rfl]
    exact ⟨_, pe_or p pe_nev, fun Hd H σ E Q z => q Hd H σ E _ fun x Hd1 H1 g dx => by
      cases dx
      exact ⟨true, rfl, z _ Hd1 H1 g (.bl true)⟩⟩
theorem ed_not {k : Bool} (h : PEd X tb a ds (.bool k)) : PEd X tb (.UnaryOp .Not a pos) ds (.bool (!k)) := let ⟨_, p, q⟩ := h; ⟨_, pe_not p, fun Hd H σ E Q z => q Hd H σ E _ fun x Hd1 H1 g dx => by
  cases dx
  exact ⟨k, rfl, z _ Hd1 H1 g (.bl _)⟩⟩
theorem ed_if {k : Bool} (hc : PTd X tb c ds k) (ha : k = true → PEd X tb a ds d) (hb : k = false → PEd X tb b ds d) : PEd X tb (.IfExp c a b pos) ds d := by
  obtain ⟨t, p, q⟩ := hc
  cases k with
  | true =>
    obtain ⟨u, p2, q2⟩ := ha rfl
    exact ⟨_, pe_ifExp p p2 pe_nev, fun Hd H σ E Q z => q Hd H σ E _ fun Hd1 H1 g => q2 Hd1 H1 σ (E.up g) Q fun v Hd2 H2 g2 dv => z v Hd2 H2 (g.trans g2) dv⟩
  | false =>
    obtain ⟨u, p2, q2⟩ := hb rfl
    exact ⟨_, pe_ifExp p pe_nev p2, fun Hd H σ E Q z => q Hd H σ E _ fun Hd1 H1 g => q2 Hd1 H1 σ (E.up g) Q fun v Hd2 H2 g2 dv => z v Hd2 H2 (g.trans g2) dv⟩
/-! ### arguments, displays -/
variable {es : List Expr} {fs : List PyData}
theorem ad_nil : PAd X tb [] ds [] := ⟨_, pa_nil, fun Hd H _ E _ q => q [] Hd H (Gr.refl E.dh) .nil⟩
theorem ad_cons (ha : PEd X tb a ds d) (hr : PAd X tb es ds fs) (hs : starEach (a :: es) X.env = (false, eval a X.env) :: starEach es X.env := by rfl) : PAd X tb (a :: es) ds (d :: fs) :=
  let ⟨_, p1, q1⟩ := ha; let ⟨_, p2, q2⟩ := hr; ⟨_, pa_cons p1 p2 hs, fun Hd H σ E Q z => q1 Hd H σ E _ fun x Hd1 H1 g dx => q2 Hd1 H1 σ (E.up g) _ fun xs Hd2 H2 g2 dxs => z (x :: xs) Hd2 H2 (g.trans g2) (.cons (Dp.up dx g2.d) dxs)⟩
theorem ed_tup {k : Nat} (h : PAd X tb es ds fs) (hl : fs.length ≤ 1000000) : PEd X tb (.Tuple es k pos) ds (.tuple fs) :=
  let ⟨_, p, q⟩ := h; ⟨_, pe_tup p, fun Hd H σ E Q z => q Hd H σ E _ fun xs Hd1 H1 g dxs => ⟨by rw [dpa_len dxs]; exact Nat.le_trans hl (by decide), fun p hp => z _ _ _ (g.trans (Gr.new g.h hp fun _ z => HO.noConfusion z)) (.tup (.inl (.inl upd_same)) (DpAll.up dxs (Gr.new g.h hp fun _ z => HO.noConfusion z).d))⟩⟩
theorem ed_lst (h : PAd X tb es ds fs) (hl : fs.length ≤ 1000000) : PEd X tb (.List es pos) ds (.list fs) :=
  let ⟨_, p, q⟩ := h; ⟨_, pe_lst p, fun Hd H σ E Q z => q Hd H σ E _ fun xs Hd1 H1 g dxs => ⟨by rw [dpa_len dxs]; exact Nat.le_trans hl (by decide), fun p hp => z _ _ _ (g.trans (Gr.new g.h hp fun _ z => HO.noConfusion z)) (.lst (.inl (.inl upd_same)) (DpAll.up dxs (Gr.new g.h hp fun _ z => HO.noConfusion z).d))⟩⟩
/-! ### calls of built-ins by values, methods, slices, items -/
variable {x : Str} {p : Pos} {id T name : String} {nm : Str} {r : List V → Hp → VK → Prop}
theorem ed_callB (hc : CallR X (.builtin id) r) (hr : RcD X.K r fs f) (hm : X.mg x = none) (hv : bootBuiltins x = some (.builtin id)) (ha : PAd X tb (a :: es) ds fs) (hg : Gl X x := by rfl) (hn : x ≠ "__name__" := by decide) (hdb : (x == ("__debug__" : Str)) = false := by decide)
    (he : starEach (a :: es) X.env = (false, eval a X.env) :: starEach es X.env := by rfl) (hpl : (backTo pos (starEach es X.env)).any (·.1) = false := by rfl) : PEd X tb (.Call (.Name x p) (a :: es) [] pos) ds f :=
  let ⟨_, p1, q1⟩ := ha; ⟨_, pe_callB hc hg hm hv p1 hn hdb he hpl, fun Hd H σ E Q z => q1 Hd H σ E _ fun xs Hd1 H1 g dxs => hr Hd1 H1 xs g.h dxs Q fun v Hd2 H2 g2 dv => z v Hd2 H2 (g.trans g2) dv⟩
theorem ed_callTy (hc : CallR X (.type T) r) (hr : RcD X.K r fs f) (hm : X.mg x = none) (hv : bootBuiltins x = some (.type T)) (ha : PAd X tb (a :: es) ds fs) (hg : Gl X x := by rfl) (hn : x ≠ "__name__" := by decide) (hdb : (x == ("__debug__" : Str)) = false := by decide)
    (he : starEach (a :: es) X.env = (false, eval a X.env) :: starEach es X.env := by rfl) (hpl : (backTo pos (starEach es X.env)).any (·.1) = false := by rfl) : PEd X tb (.Call (.Name x p) (a :: es) [] pos) ds f :=
  let ⟨_, p1, q1⟩ := ha; ⟨_, pe_callTy hc hg hm hv p1 hn hdb he hpl, fun Hd H σ E Q z => q1 Hd H σ E _ fun xs Hd1 H1 g dxs => hr Hd1 H1 xs g.h dxs Q fun v Hd2 H2 g2 dv => z v Hd2 H2 (g.trans g2) dv⟩
def TyD (T : String) : PyData → Prop
  | .str _ => T = "str"
  | .list _ => T = "list"
  | .int _ => T = "int"
  | _ => False
/-- a method on values -/
def RmD (K : PySem.W.Frag) (r : V → List V → Hp → VK → Prop) (d : PyData) (fs : List PyData) (f : PyData) : Prop := ∀ (Hd H : Hp) (x : V) (xs : List V), DH Hd H → Dp K Hd x d → DpAll K Hd xs fs → ∀ Q : VK, (∀ v Hd' H', Gr Hd H Hd' H' → Dp K Hd' v f → Q v H') → r x xs H Q
theorem ty_of {K : PySem.W.Frag} {Hd H : Hp} {v : V} (h : DH Hd H) (e : Dp K Hd v d) (t : TyD T d) : tyV K T v H := by
  cases d with
  | str x => cases e; exact t
  | list xs => cases e with | lst h1 h2 => exact .inl ⟨t, _, sl_sub h.s h1⟩
  | int x => cases e; exact t
  | _ => exact t.elim
variable {rm : V → List V → Hp → VK → Prop} {apos : Pos}
theorem ed_bm (pa : PlainAttrs T) (slot : Slot T nm id) (hty : typeOf (.builtin id) = pure (.type "method_descriptor")) (hm : MtR X id rm) (hr : RmD X.K rm d fs f) (ht : TyD T d) (ho : PEd X tb b ds d) (ha : PAd X tb (a :: es) ds fs)
    (hbase : attributeBase b nm X.env (eval b X.env) = eval b X.env := by rfl)
    (hfew : ((backTo pos (starEach (a :: es) X.env)).all (fun x => !x.1) && (backToKw pos (keywordEach [] X.env)).all (fun x => x.1.isSome)
      && decide ((a :: es).length + ([] : List Keyword).length + (if ([] : List Keyword).isEmpty then 0 else 1) < 30)) = true := by rfl)
    (hline : (apos.endLine == pos.line) = true := by rfl) (hs : starEach (a :: es) X.env = (false, eval a X.env) :: starEach es X.env := by rfl) (hplain : (backTo pos (starEach es X.env)).any (·.1) = false := by rfl) :
    PEd X tb (.Call (.Attribute b nm apos) (a :: es) [] pos) ds f :=
  let ⟨_, p1, q1⟩ := ho; let ⟨_, p2, q2⟩ := ha; ⟨_, pe_bm pa slot hty hm p1 p2 hbase hfew hline hs hplain, fun Hd H σ E Q z => q1 Hd H σ E _ fun x Hd1 H1 g dx => ⟨ty_of g.h dx ht, q2 Hd1 H1 σ (E.up g) _ fun xs Hd2 H2 g2 dxs => hr Hd2 H2 x xs g2.h (Dp.up dx g2.d) dxs Q fun v Hd3 H3 g3 dv => z v Hd3 H3 ((g.trans g2).trans g3) dv⟩⟩
theorem ed_bm0 (pa : PlainAttrs T) (slot : Slot T nm id) (hty : typeOf (.builtin id) = pure (.type "method_descriptor")) (hm : MtR X id rm) (hr : RmD X.K rm d [] f) (ht : TyD T d) (ho : PEd X tb b ds d)
    (hbase : attributeBase b nm X.env (eval b X.env) = eval b X.env := by rfl) (hline : (apos.endLine == pos.line) = true := by rfl) : PEd X tb (.Call (.Attribute b nm apos) [] [] pos) ds f :=
  let ⟨_, p1, q1⟩ := ho; ⟨_, pe_bm0 pa slot hty hm p1 hbase hline, fun Hd H σ E Q z => q1 Hd H σ E _ fun x Hd1 H1 g dx => ⟨ty_of g.h dx ht, hr Hd1 H1 x [] g.h dx .nil Q fun v Hd3 H3 g3 dv => z v Hd3 H3 (g.trans g3) dv⟩⟩
/-! ### items, slices -/
theorem ed_ix {r : R2} (hr : IxR X r) (hd : RvD X.K tb r d e f) (ha : PEd X tb a ds d) (hb : PEd X tb b ds e) (hs : PlainIx b := by exact fun _ _ => rfl) : PEd X tb (.Subscript a b pos) ds f :=
  let ⟨_, p1, q1⟩ := ha; let ⟨_, p2, q2⟩ := hb; ⟨_, pe_ix hr p1 p2 hs, ev_op q1 q2 hd⟩
theorem od_none : POd X tb none ds none := ⟨_, po_none, fun Hd H _ E _ q => q Hd H (Gr.refl E.dh)⟩
theorem od_some {i : Int} (h : PEd X tb a ds (.int i)) : POd X tb (some a) ds (some i) := let ⟨_, p, q⟩ := h; ⟨_, po_some p, fun Hd H σ E Q z => q Hd H σ E _ fun x Hd1 H1 g dx => by
  cases dx
  exact ⟨i, rfl, z Hd1 H1 g⟩⟩
theorem ed_slice {rs : V → Option Int → Option Int → Hp → VK → Prop} {lo hi : Option Expr} {l u : Option Int} {p2 : Pos} (hr : SlR X rs) (hd : RsD X.K rs d l u f) (ha : PEd X tb a ds d) (hl : POd X tb lo ds l) (hu : POd X tb hi ds u) : PEd X tb (.Subscript a (.Slice lo hi none p2) pos) ds f :=
  let ⟨_, p1, q1⟩ := ha; let ⟨_, p2, q2⟩ := hl; let ⟨_, p3, q3⟩ := hu; ⟨_, pe_slice hr p1 p2 p3, fun Hd H σ E Q z => q1 Hd H σ E _ fun x Hd1 H1 g dx => q2 Hd1 H1 σ (E.up g) _ fun Hd2 H2 g2 => q3 Hd2 H2 σ ((E.up g).up g2) _ fun Hd3 H3 g3 =>
    hd Hd3 H3 x g3.h (Dp.up dx (g2.trans g3).d) Q fun v Hd4 H4 g4 dv => z v Hd4 H4 (((g.trans g2).trans g3).trans g4) dv⟩
end
end DL
namespace DL
open PySem PySem.Spec PyProof.Rows L2

/-! ### the operators on data -/
section
variable {K : PySem.W.Frag} {tb : List Addr}
theorem rv_I0 {g : Int → Int → V} {h : Int → Int → PyData} {i j : Int} (e : ∀ Hd, Dp K Hd (g i j) (h i j)) : RvD K tb (rI0 g) (.int i) (.int j) (h i j) := fun Hd H x y D _ dx dy Q q => by
  cases dx
  cases dy
  exact ⟨i, j, rfl, rfl, q _ Hd H (Gr.refl D) (e Hd)⟩
theorem rv_I {C : Int → Int → Prop} {g : Int → Int → V} {h : Int → Int → PyData} {i j : Int} (c : C i j) (e : ∀ Hd, Dp K Hd (g i j) (h i j)) : RvD K tb (rI C g) (.int i) (.int j) (h i j) := fun Hd H x y D _ dx dy Q q => by
  cases dx
  cases dy
  exact ⟨i, j, rfl, rfl, c, q _ Hd H (Gr.refl D) (e Hd)⟩
theorem ru_I {g : Int → V} {h : Int → PyData} {i : Int} (e : ∀ Hd, Dp K Hd (g i) (h i)) : RuD K (rU g) (.int i) (h i) := fun Hd H x D dx Q q => by
  cases dx
  exact ⟨i, rfl, q _ Hd H (Gr.refl D) (e Hd)⟩
variable {X : Cx} {ds : List Sl} {d e f : PyData} {a b : Expr} {pos : Pos}
theorem ed_add {i j : Int} (ha : PEd X tb a ds (.int i)) (hb : PEd X tb b ds (.int j)) : PEd X tb (.BinOp a .Add b pos) ds (.int (i + j)) := ed_op op_add (rv_I0 (h := fun i j => .int (i + j)) fun _ => .int _) ha hb
theorem ed_sub {i j : Int} (ha : PEd X tb a ds (.int i)) (hb : PEd X tb b ds (.int j)) : PEd X tb (.BinOp a .Sub b pos) ds (.int (i - j)) := ed_op op_sub (rv_I0 (h := fun i j => .int (i - j)) fun _ => .int _) ha hb
theorem ed_mul {i j : Int} (c : (-(2 ^ 64) < i ∧ i < 2 ^ 64) ∨ (-(2 ^ 64) < j ∧ j < 2 ^ 64)) (ha : PEd X tb a ds (.int i)) (hb : PEd X tb b ds (.int j)) : PEd X tb (.BinOp a .Mult b pos) ds (.int (i * j)) := ed_op op_mul (rv_I (h := fun i j => .int (i * j)) c fun _ => .int _) ha hb
theorem ed_fdiv {i j : Int} (ha : PEd X tb a ds (.int i)) (hb : PEd X tb b ds (.int j)) (c : 0 < j ∧ j < 1073741824 := by decide) : PEd X tb (.BinOp a .FloorDiv b pos) ds (.int (i / j)) := ed_op op_fdiv (rv_I (C := CDiv) (h := fun i j => .int (i / j)) c fun _ => .int _) ha hb
theorem ed_mod {i j : Int} (ha : PEd X tb a ds (.int i)) (hb : PEd X tb b ds (.int j)) (c : 0 < j := by decide) : PEd X tb (.BinOp a .Mod b pos) ds (.int (i % j)) := ed_op op_mod (rv_I (C := fun _ j => 0 < j) (h := fun i j => .int (i % j)) c fun _ => .int _) ha hb
theorem ed_neg {i : Int} (ha : PEd X tb a ds (.int i)) : PEd X tb (.UnaryOp .USub a pos) ds (.int (-i)) := ed_un un_neg (ru_I (h := fun i => .int (-i)) fun _ => .int _) ha
theorem dp_scal {Hd : Hp} {x y : V} (h : scal x y = true) : True := trivial
/-- scalar data as values -/
def scV : PyData → Option V
  | .bool b => some (.bl b)
  | .int i => some (.int i)
  | .str x => some (.str x)
  | _ => none
theorem scV_of {Hd : Hp} {v w : V} (h : Dp K Hd v d) (e : scV d = some w) : v = w := by
  cases d <;> first | (cases h; exact Option.some.inj e) | cases e
theorem rv_eq {v w : V} (h1 : scV d = some v) (h2 : scV e = some w) (h : scal v w = true) : RvD K tb rEq d e (.bool (decide (v = w))) := fun Hd H x y D _ dx dy Q q => by
  rw [scV_of dx h1, scV_of dy h2]
  exact ⟨h, q _ Hd H (Gr.refl D) (.bl _)⟩
theorem rv_ne {v w : V} (h1 : scV d = some v) (h2 : scV e = some w) (h : scal v w = true) : RvD K tb rNe d e (.bool (!decide (v = w))) := fun Hd H x y D _ dx dy Q q => by
  rw [scV_of dx h1, scV_of dy h2]
  exact ⟨h, q _ Hd H (Gr.refl D) (.bl _)⟩
theorem rv_eqI {i j : Int} : RvD K tb rEq (.int i) (.int j) (.bool (decide (i = j))) := by
  have z := rv_eq (K := K) (tb := tb) (d := .int i) (e := .int j) rfl rfl rfl
  rwa [show decide (V.int i = V.int j) = decide (i = j) from decide_eq_decide.mpr ⟨V.int.inj, congrArg _⟩] at z
theorem rv_neI {i j : Int} : RvD K tb rNe (.int i) (.int j) (.bool (!decide (i = j))) := by
  have z := rv_ne (K := K) (tb := tb) (d := .int i) (e := .int j) rfl rfl rfl
  rwa [show decide (V.int i = V.int j) = decide (i = j) from decide_eq_decide.mpr ⟨V.int.inj, congrArg _⟩] at z
theorem rv_eqS {i j : Str} : RvD K tb rEq (.str i) (.str j) (.bool (decide (i = j))) := by
  have z := rv_eq (K := K) (tb := tb) (d := .str i) (e := .str j) rfl rfl rfl
  rwa [show decide (V.str i = V.str j) = decide (i = j) from decide_eq_decide.mpr ⟨V.str.inj, congrArg _⟩] at z
theorem rv_neS {i j : Str} : RvD K tb rNe (.str i) (.str j) (.bool (!decide (i = j))) := by
  have z := rv_ne (K := K) (tb := tb) (d := .str i) (e := .str j) rfl rfl rfl
  rwa [show decide (V.str i = V.str j) = decide (i = j) from decide_eq_decide.mpr ⟨V.str.inj, congrArg _⟩] at z
theorem rv_eqB {i j : Bool} : RvD K tb rEq (.bool i) (.bool j) (.bool (decide (i = j))) := by
  have z := rv_eq (K := K) (tb := tb) (d := .bool i) (e := .bool j) rfl rfl rfl
  rwa [show decide (V.bl i = V.bl j) = decide (i = j) from decide_eq_decide.mpr ⟨V.bl.inj, congrArg _⟩] at z
theorem rv_neB {i j : Bool} : RvD K tb rNe (.bool i) (.bool j) (.bool (!decide (i = j))) := by
  have z := rv_ne (K := K) (tb := tb) (d := .bool i) (e := .bool j) rfl rfl rfl
  rwa [show decide (V.bl i = V.bl j) = decide (i = j) from decide_eq_decide.mpr ⟨V.bl.inj, congrArg _⟩] at z
theorem rv_eqD (sd : SeqAt.shaped d = true) (se : SeqAt.shaped e = true) : RvD K tb (rEqD K) d e (.bool (PyData.eqv d e)) := fun Hd H x y D _ dx dy Q q =>
  ⟨d, e, Dp.up dx D.s, Dp.up dy D.s, sd, se, q _ Hd H (Gr.refl D) (.bl _)⟩
theorem rv_neD (sd : SeqAt.shaped d = true) (se : SeqAt.shaped e = true) : RvD K tb (rNeD K) d e (.bool (!PyData.eqv d e)) := fun Hd H x y D _ dx dy Q q =>
  ⟨d, e, Dp.up dx D.s, Dp.up dy D.s, sd, se, q _ Hd H (Gr.refl D) (.bl _)⟩
theorem rv_inD {zs : List PyData} (sd : SeqAt.shaped d = true) (se : SeqAt.shaped (.list zs) = true) : RvD K tb (rInD K) d (.list zs) (.bool (zs.any fun z => PyData.eqv z d)) := fun Hd H x y D _ dx dy Q q =>
  ⟨d, zs, Dp.up dx D.s, Dp.up dy D.s, sd, se, q _ Hd H (Gr.refl D) (.bl _)⟩
theorem rv_lt {i j : Int} : RvD K tb (rI0 fun i j => .bl (decide (i < j))) (.int i) (.int j) (.bool (decide (i < j))) := rv_I0 (h := fun i j => .bool (decide (i < j))) fun _ => .bl _
theorem rv_le {i j : Int} : RvD K tb (rI0 fun i j => .bl (decide (i ≤ j))) (.int i) (.int j) (.bool (decide (i ≤ j))) := rv_I0 (h := fun i j => .bool (decide (i ≤ j))) fun _ => .bl _
theorem rv_gt {i j : Int} : RvD K tb (rI0 fun i j => .bl (decide (j < i))) (.int i) (.int j) (.bool (decide (j < i))) := rv_I0 (h := fun i j => .bool (decide (j < i))) fun _ => .bl _
theorem rv_ge {i j : Int} : RvD K tb (rI0 fun i j => .bl (decide (j ≤ i))) (.int i) (.int j) (.bool (decide (j ≤ i))) := rv_I0 (h := fun i j => .bool (decide (j ≤ i))) fun _ => .bl _
/-- text + text -/
theorem rv_addS {i j : Str} (h : i.length + j.length ≤ 16000000) : RvD K tb (fun x y H Q => ∃ i j, x = .str i ∧ y = .str j ∧ i.length + j.length ≤ sizeLine ∧ Q (.str (i ++ j)) H) (.str i) (.str j) (.str (i ++ j)) := fun Hd H x y D _ dx dy Q q => by
  cases dx
  cases dy
  exact ⟨i, j, rfl, rfl, Nat.le_trans h (by decide), q _ Hd H (Gr.refl D) (.str _)⟩
/-- list + list; any list that stands -/
def rCatS (K : PySem.W.Frag) : R2 := fun x y H Q => ∃ l b xs zs, x = .ref l ∧ y = .ref b ∧ SqL K H l xs ∧ SqL K H b zs ∧ xs.length + zs.length ≤ sizeLine ∧ ∀ p, H p = none → Q (.ref p) (upd H p (.lst (xs ++ zs)))
theorem rv_cat {xs ys : List PyData} (h : xs.length + ys.length ≤ 16000000) : RvD K tb (rCatS K) (.list xs) (.list ys) (.list (xs ++ ys)) := fun Hd H x y D _ dx dy Q q => by
  cases dx with
  | lst h1 h2 =>
    cases dy with
    | lst k1 k2 =>
      refine ⟨_, _, _, _, rfl, rfl, sl_sub D.s h1, sl_sub D.s k1, by rw [dpa_len h2, dpa_len k2]; exact Nat.le_trans h (by decide), fun p hp => q _ _ _ (Gr.new D hp fun _ z => HO.noConfusion z) ?_⟩
      exact .lst (.inl (.inl upd_same)) (DpAll.up (dpa_app h2 k2) (Gr.new D hp fun _ z => HO.noConfusion z).d)
/-- items -/
theorem atI_map {α β : Type} {xs : List α} {ys : List β} {i : Int} {y : β} (hl : xs.length = ys.length) (h : atI ys i = some y) : ∃ j, ixN ys.length i = some j ∧ ys[j]? = some y := by
  unfold atI at h
  cases q : ixN ys.length i with
  | none => rw [q] at h; cases h
  | some j => rw [q] at h; exact ⟨j, rfl, h⟩
theorem rv_ixL {xs : List PyData} {i : Int} (h : atI xs i = some f) : RvD K tb (rIxL K) (.list xs) (.int i) f := fun Hd H x y D _ dx dy Q q => by
  cases dy
  cases dx with
  | @lst a vs _ h1 h2 =>
    obtain ⟨j, e1, e2⟩ := atI_map (xs := vs) (dpa_len h2) h
    obtain ⟨v, e3, e4⟩ := dpa_get h2 e2
    exact ⟨_, vs, i, v, rfl, rfl, sl_sub D.s h1, by unfold atI; rw [dpa_len h2, e1]; exact e3, q _ Hd H (Gr.refl D) e4⟩
theorem rv_ixT {xs : List PyData} {i : Int} (h : atI xs i = some f) : RvD K tb (rIxT K) (.tuple xs) (.int i) f := fun Hd H x y D _ dx dy Q q => by
  cases dy
  cases dx with
  | @tup a vs _ h1 h2 =>
    obtain ⟨j, e1, e2⟩ := atI_map (xs := vs) (dpa_len h2) h
    obtain ⟨v, e3, e4⟩ := dpa_get h2 e2
    exact ⟨_, vs, i, v, rfl, rfl, st_sub D.s h1, by unfold atI; rw [dpa_len h2, e1]; exact e3, q _ Hd H (Gr.refl D) e4⟩
theorem rv_ixS {s : Str} {i : Int} {c : Nat} (hl : s.length ≤ 16000000) (h : atI s.cps.toList i = some c) : RvD K tb rIxS (.str s) (.int i) (.str ⟨#[c]⟩) := fun Hd H x y D _ dx dy Q q => by
  cases dx
  cases dy
  exact ⟨s, i, c, rfl, rfl, Nat.le_trans hl (by decide), h, q _ Hd H (Gr.refl D) (.str _)⟩
/-- slices -/
theorem rs_list {xs : List PyData} {l u : Option Int} : RsD K (rSlL K) (.list xs) l u (.list (cutD xs l u)) := fun Hd H x D dx Q q => by
  cases dx with
  | lst h1 h2 => exact ⟨_, _, rfl, sl_sub D.s h1, fun p hp => q _ _ _ (Gr.new D hp fun _ z => HO.noConfusion z) (.lst (.inl (.inl upd_same)) (DpAll.up (dpa_cut l u h2) (Gr.new D hp fun _ z => HO.noConfusion z).d))⟩
/-- len -/
theorem rc_lenS {z : Str} (h : z.length ≤ 16000000) : RcD K (fun xs H Q => ∃ z, xs = [.str z] ∧ z.length ≤ sizeLine ∧ Q (.int z.length) H) [.str z] (.int z.length) := fun Hd H xs D dx Q q => by
  cases dx with
  | cons h1 h2 =>
    cases h2
    cases h1
    exact ⟨z, rfl, Nat.le_trans h (by decide), q _ Hd H (Gr.refl D) (.int _)⟩
theorem rc_lenL {xs : List PyData} : RcD K (fun xs H Q => ∃ p ys, xs = [.ref p] ∧ (SqL K H p ys ∨ SqT K H p ys) ∧ Q (.int ys.length) H) [.list xs] (.int xs.length) := fun Hd H vs D dx Q q => by
  cases dx with
  | cons h1 h2 =>
    cases h2
    cases h1 with
    | lst k1 k2 => exact ⟨_, _, rfl, .inl (sl_sub D.s k1), q _ Hd H (Gr.refl D) (by rw [dpa_len k2]; exact .int _)⟩
theorem rc_lenT {xs : List PyData} : RcD K (fun xs H Q => ∃ p ys, xs = [.ref p] ∧ (SqL K H p ys ∨ SqT K H p ys) ∧ Q (.int ys.length) H) [.tuple xs] (.int xs.length) := fun Hd H vs D dx Q q => by
  cases dx with
  | cons h1 h2 =>
    cases h2
    cases h1 with
    | tup k1 k2 => exact ⟨_, _, rfl, .inr (st_sub D.s k1), q _ Hd H (Gr.refl D) (by rw [dpa_len k2]; exact .int _)⟩
end
end DL
namespace DL
open PySem PySem.Spec PyProof.Rows L2

section
variable {X : Cx} {tb : List Addr} {ds : List Sl} {d e f : PyData} {a b c : Expr} {pos : Pos}
theorem op_catS : OpR X (binaryOp .Add) (rCatS X.K) := by
  intro pins s σ H x y v u Q I rx ry h
  obtain ⟨l, b, xs, zs, rfl, rfl, hH, hB, hz, q⟩ := h
  cases rx
  cases ry
  obtain ⟨its, r, ⟨⟨cls, dd, data, sl⟩, n, e, hc, hd, hx⟩, z⟩ := I.list hH
  obtain ⟨its2, r2, ⟨⟨cls2, dd2, data2, sl2⟩, n2, e2, hc2, hd2, hx2⟩, z2⟩ := I.list hB
  simp only at hc hd hx hc2 hd2 hx2
  subst hc hd hx hc2 hd2 hx2
  have hl := r.length
  have hl2 := r2.length
  have ea : its.toArray ++ its2.toArray = (its ++ its2).toArray := by simp
  refine concat_meets ⟨_, e, rfl⟩ ⟨_, e2, rfl⟩ noFill_list_add seq_list_add PySem.F.slot_list_add PySem.F.entry_list_add (PySem.F.args_list_add_2 _ _) (list_addW l b its.toArray its2.toArray n n2 _ _ sl sl2 (by rw [List.size_toArray, List.size_toArray]; omega)) ⟨e, e2, ?_⟩
  rw [ea]
  exact ⟨.ref _, _, I.lnew (t' := s.toks) (r.append r2) (by rw [List.length_append]; omega), rfl, q _ I.fresh⟩
theorem ed_cat {xs ys : List PyData} (ha : PEd X tb a ds (.list xs)) (hb : PEd X tb b ds (.list ys)) (h : xs.length + ys.length ≤ 16000000) : PEd X tb (.BinOp a .Add b pos) ds (.list (xs ++ ys)) := ed_op op_catS (rv_cat h) ha hb
theorem ed_addS {i j : Str} (ha : PEd X tb a ds (.str i)) (hb : PEd X tb b ds (.str j)) (h : i.length + j.length ≤ 16000000) : PEd X tb (.BinOp a .Add b pos) ds (.str (i ++ j)) := ed_op op_add_str (rv_addS h) ha hb
theorem ed_ixL {xs : List PyData} {i : Int} (ha : PEd X tb a ds (.list xs)) (hb : PEd X tb b ds (.int i)) (h : atI xs i = some f) (hs : PlainIx b := by exact fun _ _ => rfl) : PEd X tb (.Subscript a b pos) ds f := ed_ix ix_list (rv_ixL h) ha hb hs
theorem ed_ixT {xs : List PyData} {i : Int} (ha : PEd X tb a ds (.tuple xs)) (hb : PEd X tb b ds (.int i)) (h : atI xs i = some f) (hs : PlainIx b := by exact fun _ _ => rfl) : PEd X tb (.Subscript a b pos) ds f := ed_ix ix_tup (rv_ixT h) ha hb hs
theorem ed_ixS {z : Str} {i : Int} {k : Nat} (ha : PEd X tb a ds (.str z)) (hb : PEd X tb b ds (.int i)) (hl : z.length ≤ 16000000) (h : atI z.cps.toList i = some k) (hs : PlainIx b := by exact fun _ _ => rfl) : PEd X tb (.Subscript a b pos) ds (.str ⟨#[k]⟩) := ed_ix ix_str (rv_ixS hl h) ha hb hs
theorem ed_slL {xs : List PyData} {lo hi : Option Expr} {l u : Option Int} {p2 : Pos} (ha : PEd X tb a ds (.list xs)) (hl : POd X tb lo ds l) (hu : POd X tb hi ds u) : PEd X tb (.Subscript a (.Slice lo hi none p2) pos) ds (.list (cutD xs l u)) := ed_slice sl_list rs_list ha hl hu
theorem rs_str {z : Str} {l u : Option Int} (h : z.length ≤ 16000000) : RsD X.K (fun x lo hi H Q => ∃ z, x = .str z ∧ z.length ≤ sizeLine ∧ Q (.str (cutS z lo hi)) H) (.str z) l u (.str (cutS z l u)) := fun Hd H x D dx Q q => by
  cases dx
  exact ⟨z, rfl, Nat.le_trans h (by decide), q _ Hd H (Gr.refl D) (.str _)⟩
theorem ed_slS {z : Str} {lo hi : Option Expr} {l u : Option Int} {p2 : Pos} (ha : PEd X tb a ds (.str z)) (hl : POd X tb lo ds l) (hu : POd X tb hi ds u) (h : z.length ≤ 16000000) : PEd X tb (.Subscript a (.Slice lo hi none p2) pos) ds (.str (cutS z l u)) := ed_slice sl_str (rs_str h) ha hl hu
theorem ed_lenL {xs : List PyData} {p : Pos} (hm : X.mg "len" = none) (ha : PEd X tb a ds (.list xs)) (hg : Gl X "len" := by rfl) (hs : starEach [a] X.env = [(false, eval a X.env)] := by rfl) : PEd X tb (.Call (.Name "len" p) [a] [] pos) ds (.int xs.length) :=
  ed_callB call_len_seq rc_lenL hm PySem.boot_len (ad_cons ha ad_nil hs) hg (by decide) (by decide) hs (by rfl)
theorem ed_lenT {xs : List PyData} {p : Pos} (hm : X.mg "len" = none) (ha : PEd X tb a ds (.tuple xs)) (hg : Gl X "len" := by rfl) (hs : starEach [a] X.env = [(false, eval a X.env)] := by rfl) : PEd X tb (.Call (.Name "len" p) [a] [] pos) ds (.int xs.length) :=
  ed_callB call_len_seq rc_lenT hm PySem.boot_len (ad_cons ha ad_nil hs) hg (by decide) (by decide) hs (by rfl)
theorem ed_lenS {z : Str} {p : Pos} (hm : X.mg "len" = none) (ha : PEd X tb a ds (.str z)) (h : z.length ≤ 16000000) (hg : Gl X "len" := by rfl) (hs : starEach [a] X.env = [(false, eval a X.env)] := by rfl) : PEd X tb (.Call (.Name "len" p) [a] [] pos) ds (.int z.length) :=
  ed_callB call_len_str (rc_lenS h) hm PySem.boot_len (ad_cons ha ad_nil hs) hg (by decide) (by decide) hs (by rfl)

/-! ### isinstance -/
def tyD : PyData → String
  | .none => "NoneType"
  | .bool _ => "bool"
  | .int _ => "int"
  | .str _ => "str"
  | .list _ => "list"
  | .tuple _ => "tuple"
  | .dict _ => "dict"
theorem tyx_of {K : PySem.W.Frag} {Hd H : Hp} {v : V} (D : DH Hd H) (h : Dp K Hd v d) : TyX K H v (.type (tyD d)) := by
  cases d with
  | none => cases h; exact .base .non
  | bool b => cases h; exact .base (.bl b)
  | int b => cases h; exact .base (.int b)
  | str b => cases h; exact .base (.str b)
  | list xs =>
    cases h with
    | lst h1 h2 =>
      rcases h1 with (h1 | ⟨o, h1⟩) | ⟨o, _, _, h1, h3, _⟩
      · exact .base (.lst (D.s _ _ h1))
      · exact .base (.frz (D.s _ _ h1))
      · exact .kList h1 h3
  | tuple xs =>
    cases h with
    | tup h1 h2 =>
      rcases h1 with (h1 | ⟨o, h1⟩) | ⟨o, _, _, h1, h3, _⟩
      · exact .base (.tup (D.s _ _ h1))
      · exact .fTuple (D.s _ _ h1)
      · exact .kTuple h1 h3
  | dict _ => cases h
theorem ed_isi {T : String} {Tn : Str} {p pT : Pos} {k : Bool} (hk : kitB (tyD d) T = some k) (hm : X.mg "isinstance" = none) (hT : X.mg Tn = none) (ha : PEd X tb a ds d) (hb : bootBuiltins Tn = some (.type T) := by decide +kernel) (hi : bootBuiltins "isinstance" = some (.builtin "isinstance") := by decide +kernel) (hg : Gl X "isinstance" := by rfl) (hgT : Gl X Tn := by rfl)
    (hn : Tn ≠ "__name__" := by decide) (hd : (Tn == ("__debug__" : Str)) = false := by decide)
    (hs : starEach [a, .Name Tn pT] X.env = (false, eval a X.env) :: starEach [.Name Tn pT] X.env := by rfl) (hs2 : starEach [.Name Tn pT] X.env = (false, eval (.Name Tn pT) X.env) :: starEach [] X.env := by rfl) (hpl : (backTo pos (starEach [.Name Tn pT] X.env)).any (·.1) = false := by rfl) :
    PEd X tb (.Call (.Name "isinstance" p) [a, .Name Tn pT] [] pos) ds (.bool k) :=
  let ⟨_, p1, q1⟩ := ha; ⟨_, pe_callB call_isi hg hm hi (pa_cons p1 (pa_cons (pe_bltn (v := .ty T) hgT hT hb rfl hn hd) pa_nil hs2) hs) (by decide) (by decide) hs hpl, fun Hd H σ E Q z => q1 Hd H σ E _ fun x Hd1 H1 g dx =>
    ⟨x, .ty T, _, _, k, rfl, .ty T, tyx_of g.h dx, kit_ty hk, z _ Hd1 H1 g (.bl k)⟩⟩
end
end DL
namespace DL
open PySem PySem.Spec PyProof.Rows L2

/-! ### the canonical readings -/
section
variable (X : Cx)
def wpE (e : Expr) : TE := fun σ H Q => ∃ t, PE X e t ∧ t σ H Q
def wpT (e : Expr) : TT := fun σ H Q => ∃ t, PT X e t ∧ t σ H Q
def wpS (s : Stmt) : TS := fun D σ H => ∃ t, PS X s t ∧ t D σ H
def wpB (s : List Stmt) : TS := fun D σ H => ∃ t, PSs X s t ∧ t D σ H
end
section
variable {X : Cx} {tb : List Addr} {ds : List Sl} {d : PyData} {e : Expr}
theorem pe_can : PE X e (wpE X e) := ⟨fun pins s σ H Q I ⟨t, p, h⟩ => p.run pins s σ H Q I h⟩
theorem pt_can : PT X e (wpT X e) := ⟨fun pins s σ H Q I ⟨t, p, h⟩ => p.run pins s σ H Q I h⟩
theorem ps_can {st : Stmt} : PS X st (wpS X st) := ⟨fun pins s σ H Q I ⟨t, p, h⟩ => p.run pins s σ H Q I h⟩
theorem pb_can {st : List Stmt} : PSs X st (wpB X st) := ⟨fun pins s σ H Q I ⟨t, p, h⟩ => p.run pins s σ H Q I h⟩
theorem PEd.can (h : PEd X tb e ds d) : EvE X.K tb (wpE X e) ds d := let ⟨t, p, q⟩ := h; fun Hd H σ E Q z => ⟨t, p, q Hd H σ E Q z⟩
theorem PTd.can {k : Bool} (h : PTd X tb e ds k) : EvT X.K tb (wpT X e) ds k := let ⟨t, p, q⟩ := h; fun Hd H σ E Q z => ⟨t, p, q Hd H σ E Q z⟩
end

/-! ### what a loop, a comprehension walks, as data -/
structure Walk (K : PySem.W.Frag) (J : It) (Hd1 : Hp) (items : List PyData) : Prop where
  go : ∀ (i : Nat) (Hd H : Hp), Sub Hd1 Hd → DH Hd H → i < items.length → J.go i H
  yl : ∀ (i : Nat) (Hd H : Hp) (x : V) (H' : Hp), Sub Hd1 Hd → DH Hd H → i < items.length → J.yld i H x H' → ∃ Hd' d, items[i]? = some d ∧ Gr Hd H Hd' H' ∧ Dp K Hd' x d
  st : ∀ (i : Nat) (Hd H : Hp), Sub Hd1 Hd → DH Hd H → items.length ≤ i → J.stop i H
def PId (X : Cx) (tb : List Addr) (tg iter : Expr) (ds : List Sl) (items : List PyData) : Prop := ∃ wi, PI X tg iter wi ∧ ∀ (Hd H : Hp) (σ : L2.St), Env X.K tb Hd H σ ds → ∀ R : It → Hp → Prop, (∀ J Hd1 H1, Gr Hd H Hd1 H1 → Walk X.K J Hd1 items → R J H1) → wi σ H R
section
variable {X : Cx} {tb : List Addr} {ds : List Sl} {tg a b : Expr} {pos p : Pos}
theorem id_list {xs : List PyData} (h : PEd X tb a ds (.list xs)) : PId X tb tg a ds xs :=
  let ⟨_, p, q⟩ := h; ⟨_, pi_list p, fun Hd H σ E R z => q Hd H σ E _ fun v Hd1 H1 g dv => by
    cases dv with
    | @lst a vs _ h1 h2 =>
      refine ⟨a, rfl, ⟨vs, sl_sub g.h.s h1⟩, z _ Hd1 H1 g ⟨fun i Hd' H' s D hi => ?_, fun i Hd' H' x H'' s D _ y => ?_, fun i Hd' H' s D hi => ?_⟩⟩
      · obtain ⟨v, e1, _⟩ := dpa_get (i := i) h2 (List.getElem?_eq_getElem hi)
        exact ⟨vs, v, sl_sub D.s (sl_sub s h1), e1⟩
      · obtain ⟨rfl, y⟩ := y
        obtain ⟨d, e1, e2⟩ := dpa_get' h2 (y vs (sl_sub D.s (sl_sub s h1)))
        exact ⟨Hd', d, e1, Gr.refl D, Dp.up e2 s⟩
      · exact ⟨vs, sl_sub D.s (sl_sub s h1), by rw [dpa_len h2]; exact hi⟩⟩
theorem id_tup {xs : List PyData} (h : PEd X tb a ds (.tuple xs)) : PId X tb tg a ds xs :=
  let ⟨_, p, q⟩ := h; ⟨_, pi_tup p, fun Hd H σ E R z => q Hd H σ E _ fun v Hd1 H1 g dv => by
    cases dv with
    | @tup a vs _ h1 h2 =>
      refine ⟨a, rfl, ⟨vs, st_sub g.h.s h1⟩, z _ Hd1 H1 g ⟨fun i Hd' H' s D hi => ?_, fun i Hd' H' x H'' s D _ y => ?_, fun i Hd' H' s D hi => ?_⟩⟩
      · obtain ⟨v, e1, _⟩ := dpa_get (i := i) h2 (List.getElem?_eq_getElem hi)
        exact ⟨vs, v, st_sub D.s (st_sub s h1), e1⟩
      · obtain ⟨rfl, y⟩ := y
        obtain ⟨d, e1, e2⟩ := dpa_get' h2 (y vs (st_sub D.s (st_sub s h1)))
        exact ⟨Hd', d, e1, Gr.refl D, Dp.up e2 s⟩
      · exact ⟨vs, st_sub D.s (st_sub s h1), by rw [dpa_len h2]; exact hi⟩⟩
/-- lo, lo + 1, .. -/
def rngD (lo : Int) (n : Nat) : List PyData := (List.range n).map fun (i : Nat) => .int (lo + (i : Int))
theorem walk_rng {K : PySem.W.Frag} {Hd1 : Hp} (lo : Int) (n : Nat) : Walk K (Itr lo n) Hd1 (rngD lo n) where
  go := fun i _ _ _ _ hi => by
    unfold rngD at hi
    rw [List.length_map, List.length_range] at hi
    exact hi
  yl := fun i Hd H x H' _ D hi y => by
    obtain ⟨rfl, rfl⟩ := y
    unfold rngD at hi
    rw [List.length_map, List.length_range] at hi
    refine ⟨Hd, .int (lo + i), ?_, Gr.refl D, .int _⟩
    unfold rngD
    rw [List.getElem?_map, List.getElem?_range hi] <;> rfl
  st := fun i _ _ _ _ hi => by
    unfold rngD at hi
    rw [List.length_map, List.length_range] at hi
    exact hi
theorem id_rng1 {j : Int} (hm : X.mg "range" = none) (h : PEd X tb a ds (.int j)) (hj : j < 2 ^ 62) (hl : -(2 ^ 62) ≤ j) (hg : Gl X "range" := by rfl) (hs : starEach [a] X.env = [(false, eval a X.env)] := by rfl) : PId X tb tg (.Call (.Name "range" p) [a] [] pos) ds (rngD 0 j.toNat) :=
  let ⟨_, p1, q1⟩ := ad_cons h ad_nil hs; ⟨_, pi_range1 hg hm p1 hs, fun Hd H σ E R z => q1 Hd H σ E _ fun vs Hd1 H1 g dv => by
    cases dv with
    | cons h1 h2 =>
      cases h2
      cases h1
      exact ⟨j, rfl, hl, hj, z _ Hd1 H1 g (walk_rng 0 _)⟩⟩
theorem id_rng2 {i j : Int} (hm : X.mg "range" = none) (h : PEd X tb a ds (.int i)) (h' : PEd X tb b ds (.int j)) (hi : -(2 ^ 62) ≤ i ∧ i < 2 ^ 62 ∧ -(2 ^ 62) ≤ j ∧ j < 2 ^ 62) (hg : Gl X "range" := by rfl) (hs : starEach [a, b] X.env = [(false, eval a X.env), (false, eval b X.env)] := by rfl)
    (hs2 : starEach [b] X.env = [(false, eval b X.env)] := by rfl) : PId X tb tg (.Call (.Name "range" p) [a, b] [] pos) ds (rngD i (j - i).toNat) :=
  let ⟨_, p1, q1⟩ := ad_cons h (ad_cons h' ad_nil hs2) (by rw [hs, hs2]); ⟨_, pi_range2 hg hm p1 hs hs2, fun Hd H σ E R z => q1 Hd H σ E _ fun vs Hd1 H1 g dv => by
    cases dv with
    | cons h1 h2 =>
      cases h2 with
      | cons h3 h4 =>
        cases h4
        cases h1
        cases h3
        exact ⟨i, j, rfl, hi, z _ Hd1 H1 g (walk_rng i _)⟩⟩
end

/-! ### statements -/
structure State (K : PySem.W.Frag) (tb : List Addr) (Hd0 H0 Hd H : Hp) (σ : L2.St) (ds : List Sl) : Prop where
  env : Env K tb Hd H σ ds
  gr : Gr Hd0 H0 Hd H
  fr : ∀ (i : Nat) (xs : List PyData) (a : Addr), ds[i]? = some (.own xs) → σ[i]? = some (some (.ref a)) → H0 a = none
inductive Out where
  | nx (ds : List Sl)
  | rt (d : PyData)
  | bk (ds : List Sl)
  | ct (ds : List Sl)
  | ex (c : Value)
abbrev WX' := Value → Option Addr → L2.St → Hp → Prop
def Post (K : PySem.W.Frag) (tb : List Addr) (W : WX') (Hd0 H0 Hd : Hp) (D : Ends) : Out → Prop
  | .nx ds => ∀ σ' Hd' H', State K tb Hd0 H0 Hd' H' σ' ds → Sub Hd Hd' → D.nx σ' H'
  | .bk ds => ∀ σ' Hd' H', State K tb Hd0 H0 Hd' H' σ' ds → Sub Hd Hd' → D.bk σ' H'
  | .ct ds => ∀ σ' Hd' H', State K tb Hd0 H0 Hd' H' σ' ds → Sub Hd Hd' → D.ct σ' H'
  | .rt d => ∀ v Hd' H', Gr Hd0 H0 Hd' H' → (∀ P ∈ tb, GxR.TabG H' P) → Dp K Hd' v d → D.rt v H'
  | .ex c => ∀ σ' Hd' H', Gr Hd0 H0 Hd' H' → (∀ P ∈ tb, GxR.TabG H' P) → W c none σ' H'
def Run (K : PySem.W.Frag) (tb : List Addr) (W : WX') (t : TS) (ds : List Sl) (o : Out) : Prop := ∀ (Hd0 H0 Hd H : Hp) (σ : L2.St) (D : Ends), State K tb Hd0 H0 Hd H σ ds → Post K tb W Hd0 H0 Hd D o → t D σ H
def PSd (X : Cx) (tb : List Addr) (W : WX') (s : Stmt) (ds : List Sl) (o : Out) : Prop := ∃ t, PS X s t ∧ Run X.K tb W t ds o
def PBd (X : Cx) (tb : List Addr) (W : WX') (s : List Stmt) (ds : List Sl) (o : Out) : Prop := ∃ t, PSs X s t ∧ Run X.K tb W t ds o
section
variable {K : PySem.W.Frag} {tb : List Addr} {W : WX'} {Hd0 H0 Hd H Hd' H' : Hp} {σ : L2.St} {ds es : List Sl}
theorem State.up (h : State K tb Hd0 H0 Hd H σ ds) (g : Gr Hd H Hd' H') : State K tb Hd0 H0 Hd' H' σ ds := ⟨h.env.up g, h.gr.trans g, h.fr⟩
theorem State.set (h : State K tb Hd0 H0 Hd H σ ds) {i : Nat} {v : V} {s : Sl} (hs : SlOk K Hd H (some v) s) (no : ∀ xs, s ≠ .own xs) : State K tb Hd0 H0 Hd H (σ.set i (some v)) (ds.set i s) := ⟨h.env.set hs no, h.gr, fun j xs a e1 e2 => by
  by_cases q : i = j
  · subst q
    have hi : i < ds.length := by
      have := (List.getElem?_eq_some_iff.mp e1).1
      rw [List.length_set] at this
      exact this
    rw [List.getElem?_set_self hi] at e1
    exact (no xs (Option.some.inj e1)).elim
  · rw [List.getElem?_set_ne q] at e1 e2
    exact h.fr j xs a e1 e2⟩
theorem Post.back {Hd1 : Hp} {D : Ends} (s : Sub Hd Hd1) : ∀ {o : Out}, Post K tb W Hd0 H0 Hd D o → Post K tb W Hd0 H0 Hd1 D o
  | .nx _, p => fun σ' Hd' H' z e => p σ' Hd' H' z (s.trans e)
  | .bk _, p => fun σ' Hd' H' z e => p σ' Hd' H' z (s.trans e)
  | .ct _, p => fun σ' Hd' H' z e => p σ' Hd' H' z (s.trans e)
  | .rt _, p => p
  | .ex _, p => p
end
section
variable {X : Cx} {tb : List Addr} {W : WX'} {ds es : List Sl} {d : PyData} {a b c : Expr} {pos pos' : Pos} {st : Stmt} {rest r1 r2 : List Stmt} {o : Out}
theorem bd_nil : PBd X tb W [] ds (.nx ds) := ⟨_, pss_nil, fun Hd0 H0 Hd H σ D S p => p σ Hd H S (Sub.refl _)⟩
theorem bd_cons (h : PSd X tb W st ds (.nx es)) (k : PBd X tb W rest es o) : PBd X tb W (st :: rest) ds o :=
  let ⟨_, p1, q1⟩ := h; let ⟨_, p2, q2⟩ := k; ⟨_, pss_cons p1 p2, fun Hd0 H0 Hd H σ D S p => q1 Hd0 H0 Hd H σ _ S fun σ' Hd' H' S' s => q2 Hd0 H0 Hd' H' σ' D S' (p.back s)⟩
/-- a block that is left -/
def Out.left : Out → Bool
  | .nx _ => false
  | _ => true
theorem bd_left (h : PSd X tb W st ds o) (hl : o.left = true := by rfl) : PBd X tb W (st :: rest) ds o :=
  let ⟨_, p1, q1⟩ := h; ⟨_, pss_cons p1 pss_never, fun Hd0 H0 Hd H σ D S p => q1 Hd0 H0 Hd H σ _ S (by
    cases o with
    | nx _ => cases hl
    | _ => exact p)⟩
theorem bd_one (h : PSd X tb W st ds o) : PBd X tb W [st] ds o := let ⟨_, p1, q1⟩ := h; ⟨_, pss_one p1, q1⟩
theorem PBd.is {o' : Out} (h : PBd X tb W rest ds o) (e : o = o') : PBd X tb W rest ds o' := e ▸ h
theorem PSd.is {o' : Out} (h : PSd X tb W st ds o) (e : o = o') : PSd X tb W st ds o' := e ▸ h
theorem PBd.envIs (h : PBd X tb W rest es o) (e : ds = es) : PBd X tb W rest ds o := e ▸ h
theorem sd_pass : PSd X tb W (.Pass pos) ds (.nx ds) := ⟨_, ps_pass, fun Hd0 H0 Hd H σ D S p => p σ Hd H S (Sub.refl _)⟩
theorem sd_break : PSd X tb W (.Break pos) ds (.bk ds) := ⟨_, ps_break, fun Hd0 H0 Hd H σ D S p => p σ Hd H S (Sub.refl _)⟩
theorem sd_cont : PSd X tb W (.Continue pos) ds (.ct ds) := ⟨_, ps_continue, fun Hd0 H0 Hd H σ D S p => p σ Hd H S (Sub.refl _)⟩
theorem sd_ret (h : PEd X tb a ds d) : PSd X tb W (.Return (some a) pos) ds (.rt d) := let ⟨_, p1, q1⟩ := h; ⟨_, ps_ret p1, fun Hd0 H0 Hd H σ D S p => q1 Hd H σ S.env _ fun v Hd' H' g dv => p v Hd' H' (S.gr.trans g) (S.env.up g).tb dv⟩
theorem sd_retN : PSd X tb W (.Return none pos) ds (.rt .none) := ⟨_, ps_retN, fun Hd0 H0 Hd H σ D S p => p .non Hd H S.gr S.env.tb .non⟩
theorem sd_expr (h : PEd X tb a ds d) (hs : swapsWith a none pos.line X.env = pure false := by rfl) : PSd X tb W (.Expr a pos) ds (.nx ds) := let ⟨_, p1, q1⟩ := h; ⟨_, ps_expr p1 hs, fun Hd0 H0 Hd H σ D S p => q1 Hd H σ S.env _ fun v Hd' H' g dv => p σ Hd' H' (S.up g) g.d⟩
theorem sd_set (i : Nat) {x : Str} (h : PEd X tb a ds d) (hN : X.N.Nodup) (hi : X.N[i]? = some x := by rfl) (hx : locB X.env.scope x = true := by rfl) (hs : swapsWith a (some (.Name x pos')) pos.line X.env = pure false := by rfl)
    (hf : X.fn x = true ∨ X.env.scope.names.lookup x = some .local := by first | exact .inl rfl | exact .inr rfl) : PSd X tb W (.Assign [.Name x pos'] a pos) ds (.nx (ds.set i (.dat d))) :=
  let ⟨_, p1, q1⟩ := h; ⟨_, ps_set hN hi (locB_ok hx) p1 hs hf, fun Hd0 H0 Hd H σ D S p => q1 Hd H σ S.env _ fun v Hd' H' g dv => p _ Hd' H' ((S.up g).set (s := .dat d) dv fun _ z => nomatch z) g.d⟩
theorem sd_if {k : Bool} (hc : PTd X tb c ds k) (h1 : k = true → PBd X tb W r1 ds o) (h2 : k = false → PBd X tb W r2 ds o) : PSd X tb W (.If c r1 r2 pos) ds o := by
  obtain ⟨t, p, q⟩ := hc
  cases k with
  | true =>
    obtain ⟨u, p1, q1⟩ := h1 rfl
    exact ⟨_, ps_if p p1 pss_never, fun Hd0 H0 Hd H σ D S z => q Hd H σ S.env _ fun Hd' H' g => q1 Hd0 H0 Hd' H' σ D (S.up g) (z.back g.d)⟩
  | false =>
    obtain ⟨u, p1, q1⟩ := h2 rfl
    exact ⟨_, ps_if p pss_never p1, fun Hd0 H0 Hd H σ D S z => q Hd H σ S.env _ fun Hd' H' g => q1 Hd0 H0 Hd' H' σ D (S.up g) (z.back g.d)⟩
/-- if c: (leaves) .. rest -/
theorem bd_if {k : Bool} (hc : PTd X tb c ds k) (h1 : k = true → PBd X tb W r1 ds o) (hl : o.left = true := by rfl) (h2 : k = false → PBd X tb W rest ds o) : PBd X tb W (.If c r1 [] pos :: rest) ds o := by
  cases k with
  | true => exact bd_left (sd_if hc h1 fun z => nomatch z) hl
  | false => exact bd_cons (sd_if (o := .nx ds) hc (fun z => nomatch z) fun _ => bd_nil) (h2 rfl)
end
end DL
namespace DL
open PySem PySem.Spec PyProof.Rows L2

section
variable {X : Cx} {tb : List Addr} {W : WX'} {ds es : List Sl} {d : PyData} {a b c iter elt : Expr} {pos pos' px : Pos} {st : Stmt} {rest body : List Stmt} {o o' : Out} {x : Str}
theorem PBd.can (h : PBd X tb W body ds o) : Run X.K tb W (wpB X body) ds o := let ⟨t, p, q⟩ := h; fun Hd0 H0 Hd H σ D S z => ⟨t, p, q Hd0 H0 Hd H σ D S z⟩
/-- how a body's end becomes the loop's -/
inductive Leaves : Out → Out → Prop where
  | rt (d : PyData) : Leaves (.rt d) (.rt d)
  | bk (ds : List Sl) : Leaves (.bk ds) (.nx ds)
  | ex (c : Value) : Leaves (.ex c) (.ex c)
inductive Goes : Out → List Sl → Prop where
  | nx (ds : List Sl) : Goes (.nx ds) ds
  | ct (ds : List Sl) : Goes (.ct ds) ds
/-- for: m turns go on, then the end, or a turn that leaves -/
theorem sd_forX {items : List PyData} (j : Nat) (m : Nat) (S : Nat → List Sl) (hp : PassesOwn (model X.prog X.w) X.A X.env X.xe) (hc : X.calm = true) (hi : PId X tb (.Name x px) iter ds items) (hN : X.N.Nodup) (h0 : S 0 = ds) (hm : m ≤ items.length)
    (hb : ∀ i d, i < m → items[i]? = some d → ∃ o', Goes o' (S (i + 1)) ∧ PBd X tb W body ((S i).set j (.dat d)) o')
    (he : (m = items.length ∧ o = .nx (S m)) ∨ ∃ d o', items[m]? = some d ∧ PBd X tb W body ((S m).set j (.dat d)) o' ∧ Leaves o' o)
    (hj : X.N[j]? = some x := by rfl) (hx : locB X.env.scope x = true := by rfl) (hf : X.fn x = true ∨ X.env.scope.names.lookup x = some .local := by first | exact .inl rfl | exact .inr rfl)
    (hs : ∀ x, foldedSetIterable iter X.env x = pure x := by intro _; rfl) : PSd X tb W (.For (.Name x px) iter body [] pos) ds o := by
  obtain ⟨wi, p1, q1⟩ := hi
  refine ⟨_, ps_for hp hc p1 (pg_name hN hj (locB_ok hx) hf) pb_can hs, fun Hd0 H0 Hd H σ D St z => q1 Hd H σ St.env _ fun J Hd1 H1 g wk => ?_⟩
  refine ⟨fun i mm σ' H' => mm = items.length - i ∧ i ≤ m ∧ ∃ Hd', State X.K tb Hd0 H0 Hd' H' σ' (S i) ∧ Sub Hd1 Hd', ⟨items.length, by simp, Nat.zero_le _, Hd1, by rw [h0]; exact St.up g, Sub.refl _⟩, ?_⟩
  rintro i mm σ' H' ⟨rfl, him, Hd', S', s'⟩
  by_cases hlt : i < m
  · have hil : i < items.length := Nat.lt_of_lt_of_le hlt hm
    refine .inr ⟨wk.go i Hd' H' s' S'.env.dh hil, _, fun σ2 H2 z2 => ⟨items.length - (i + 1), by omega, z2⟩, fun v H2 y => ?_⟩
    obtain ⟨Hd2, dd, e1, g2, dv⟩ := wk.yl i Hd' H' v H2 s' S'.env.dh hil y
    obtain ⟨o', go, hbb⟩ := hb i dd hlt e1
    have S2 := (S'.up g2).set (i := j) (s := .dat dd) dv fun _ z => nomatch z
    refine hbb.can Hd0 H0 Hd2 H2 _ _ S2 ?_
    cases go with
    | nx => exact fun σ3 Hd3 H3 S3 s3 => ⟨rfl, hlt, Hd3, S3, (s'.trans g2.d).trans s3⟩
    | ct => exact fun σ3 Hd3 H3 S3 s3 => ⟨rfl, hlt, Hd3, S3, (s'.trans g2.d).trans s3⟩
  · have e : i = m := by omega
    subst e
    rcases he with ⟨e1, e2⟩ | ⟨dd, o', e1, hbb, lv⟩
    · subst e2
      exact .inl ⟨wk.st i Hd' H' s' S'.env.dh (Nat.le_of_eq e1.symm), z σ' Hd' H' S' (g.d.trans s')⟩
    · have hil : i < items.length := (List.getElem?_eq_some_iff.mp e1).1
      refine .inr ⟨wk.go i Hd' H' s' S'.env.dh hil, fun _ _ => False, fun _ _ z => z.elim, fun v H2 y => ?_⟩
      obtain ⟨Hd2, d2, e3, g2, dv⟩ := wk.yl i Hd' H' v H2 s' S'.env.dh hil y
      have e4 : d2 = dd := Option.some.inj (e3.symm.trans e1)
      subst e4
      have S2 := (S'.up g2).set (i := j) (s := .dat d2) dv fun _ z => nomatch z
      refine hbb.can Hd0 H0 Hd2 H2 _ _ S2 ?_
      cases lv with
      | rt d => exact z
      | bk ds2 => exact fun σ3 Hd3 H3 S3 s3 => z σ3 Hd3 H3 S3 ((g.d.trans s').trans (g2.d.trans s3))
      | ex c => exact z
/-- .. to its end -/
theorem sd_for {items : List PyData} (j : Nat) (S : Nat → List Sl) (hp : PassesOwn (model X.prog X.w) X.A X.env X.xe) (hc : X.calm = true) (hi : PId X tb (.Name x px) iter ds items) (hN : X.N.Nodup) (h0 : S 0 = ds)
    (hb : ∀ i d, items[i]? = some d → PBd X tb W body ((S i).set j (.dat d)) (.nx (S (i + 1))))
    (hj : X.N[j]? = some x := by rfl) (hx : locB X.env.scope x = true := by rfl) (hf : X.fn x = true ∨ X.env.scope.names.lookup x = some .local := by first | exact .inl rfl | exact .inr rfl)
    (hs : ∀ x, foldedSetIterable iter X.env x = pure x := by intro _; rfl) : PSd X tb W (.For (.Name x px) iter body [] pos) ds (.nx (S items.length)) :=
  sd_forX j items.length S hp hc hi hN h0 (Nat.le_refl _) (fun i d _ e => ⟨_, .nx _, hb i d e⟩) (.inl ⟨rfl, rfl⟩) hj hx hf hs
/-- while -/
theorem sd_whileX (m : Nat) (S : Nat → List Sl) (hp : PassesOwn (model X.prog X.w) X.A X.env X.xe) (h0 : S 0 = ds)
    (hb : ∀ i, i < m → PTd X tb c (S i) true ∧ ∃ o', Goes o' (S (i + 1)) ∧ PBd X tb W body (S i) o')
    (he : (PTd X tb c (S m) false ∧ o = .nx (S m)) ∨ (PTd X tb c (S m) true ∧ ∃ o', PBd X tb W body (S m) o' ∧ Leaves o' o)) : PSd X tb W (.While c body [] pos) ds o := by
  refine ⟨_, ps_while hp pt_can pb_can, fun Hd0 H0 Hd H σ D St z => ?_⟩
  refine ⟨fun mm σ' H' => ∃ i, mm = m - i ∧ i ≤ m ∧ ∃ Hd', State X.K tb Hd0 H0 Hd' H' σ' (S i) ∧ Sub Hd Hd', ⟨m, 0, by simp, Nat.zero_le _, Hd, by rw [h0]; exact St, Sub.refl _⟩, ?_⟩
  rintro mm σ' H' ⟨i, rfl, him, Hd', S', s'⟩
  by_cases hlt : i < m
  · obtain ⟨ht, o', go, hbb⟩ := hb i hlt
    refine ht.can Hd' H' σ' S'.env _ fun Hd2 H2 g2 => ?_
    show if true = true then _ else _
    refine iteT ⟨_, fun σ3 H3 z3 => ⟨m - (i + 1), by omega, i + 1, z3⟩, ?_⟩
    refine hbb.can Hd0 H0 Hd2 H2 _ _ (S'.up g2) ?_
    cases go with
    | nx => exact fun σ3 Hd3 H3 S3 s3 => ⟨rfl, hlt, Hd3, S3, (s'.trans g2.d).trans s3⟩
    | ct => exact fun σ3 Hd3 H3 S3 s3 => ⟨rfl, hlt, Hd3, S3, (s'.trans g2.d).trans s3⟩
  · have e : i = m := by omega
    subst e
    rcases he with ⟨ht, e2⟩ | ⟨ht, o', hbb, lv⟩
    · subst e2
      refine ht.can Hd' H' σ' S'.env _ fun Hd2 H2 g2 => ?_
      show if false = true then _ else _
      exact iteF (z σ' Hd2 H2 (S'.up g2) (s'.trans g2.d))
    · refine ht.can Hd' H' σ' S'.env _ fun Hd2 H2 g2 => ?_
      show if true = true then _ else _
      refine iteT ⟨fun _ _ => False, fun _ _ z => z.elim, ?_⟩
      refine hbb.can Hd0 H0 Hd2 H2 _ _ (S'.up g2) ?_
      cases lv with
      | rt d => exact z
      | bk ds2 => exact fun σ3 Hd3 H3 S3 s3 => z σ3 Hd3 H3 S3 ((s'.trans g2.d).trans s3)
      | ex c => exact z
theorem sd_while (m : Nat) (S : Nat → List Sl) (hp : PassesOwn (model X.prog X.w) X.A X.env X.xe) (h0 : S 0 = ds)
    (hb : ∀ i, i < m → PTd X tb c (S i) true ∧ PBd X tb W body (S i) (.nx (S (i + 1)))) (he : PTd X tb c (S m) false) : PSd X tb W (.While c body [] pos) ds (.nx (S m)) :=
  sd_whileX m S hp h0 (fun i h => ⟨(hb i h).1, _, .nx _, (hb i h).2⟩) (.inl ⟨he, rfl⟩)

/-! ### own lists -/
theorem bd_own (i : Nat) {x : Str} {pos1 pos2 : Pos} (h : PBd X tb W rest (ds.set i (.own [])) o) (hN : X.N.Nodup) (hi : X.N[i]? = some x := by rfl) (hx : locB X.env.scope x = true := by rfl) (hs : swapsWith (.List [] pos1) (some (.Name x pos')) pos2.line X.env = pure false := by rfl)
    (hf : X.fn x = true ∨ X.env.scope.names.lookup x = some .local := by first | exact .inl rfl | exact .inr rfl) : PBd X tb W (.Assign [.Name x pos'] (.List [] pos1) pos2 :: rest) ds o := by
  refine bd_cons (es := ds.set i (.own [])) ⟨_, ps_set hN hi (locB_ok hx) (pe_lst pa_nil) hs hf, fun Hd0 H0 Hd H σ D S p => ?_⟩ h
  refine ⟨Nat.zero_le _, fun q hq => ?_⟩
  have g := Gr.newOut (o := .lst []) S.env.dh hq
  have hd0 : Hd q = none := by
    cases e : Hd q with
    | none => rfl
    | some u =>
      have := S.env.dh.s q u e
      rw [hq] at this
      cases this
  have E := S.env.up g
  have h00 : H0 q = none := S.gr.e.n q hq
  refine p (σ.set i (some (.ref q))) Hd (upd H q (.lst [])) ⟨⟨by rw [List.length_set, List.length_set]; exact E.len, E.dh, E.tb, fun j t e => ?_, fun j k xs ys a n e1 e2 e3 e4 => ?_⟩, S.gr.trans g, fun j xs a e1 e2 => ?_⟩ (Sub.refl _)
  · by_cases qq : i = j
    · subst qq
      have hil : i < ds.length := by
        have := (List.getElem?_eq_some_iff.mp e).1
        rw [List.length_set] at this
        exact this
      rw [List.getElem?_set_self hil] at e
      cases e
      exact ⟨_, List.getElem?_set_self (by rw [E.len]; exact hil), q, [], rfl, upd_same, hd0, .nil⟩
    · rw [List.getElem?_set_ne qq] at e
      obtain ⟨oo, k1, k2⟩ := E.sl j t e
      exact ⟨oo, by rw [List.getElem?_set_ne qq]; exact k1, k2⟩
  · have fresh : ∀ (m : Nat) (zs : List PyData), i ≠ m → (ds.set i (.own []))[m]? = some (.own zs) → (σ.set i (some (.ref q)))[m]? = some (some (.ref q)) → False := fun m zs hne f1 f2 => by
      rw [List.getElem?_set_ne hne] at f1 f2
      obtain ⟨b, vs, f3, f4, _, _⟩ := S.env.own f1
      rw [f2] at f3
      have eb : q = b := V.ref.inj (Option.some.inj (Option.some.inj f3))
      rw [← eb, hq] at f4
      cases f4
    have self : ∀ {t : Option V}, (σ.set i (some (V.ref q)))[i]? = some t → t = some (.ref q) := fun {t} f => by
      have hil : i < σ.length := by
        have := (List.getElem?_eq_some_iff.mp f).1
        rw [List.length_set] at this
        exact this
      rw [List.getElem?_set_self hil] at f
      exact (Option.some.inj f).symm
    by_cases q1 : i = j
    · subst q1
      have ea : a = q := V.ref.inj (Option.some.inj (self e3))
      subst ea
      exact fresh k ys n e2 e4
    · by_cases q2 : i = k
      · subst q2
        have ea : a = q := V.ref.inj (Option.some.inj (self e4))
        subst ea
        exact fresh j xs q1 e1 e3
      · rw [List.getElem?_set_ne q1] at e1 e3
        rw [List.getElem?_set_ne q2] at e2 e4
        exact S.env.ap j k xs ys a n e1 e2 e3 e4
  · by_cases q1 : i = j
    · subst q1
      have hil : i < σ.length := by
        have := (List.getElem?_eq_some_iff.mp e2).1
        rw [List.length_set] at this
        exact this
      rw [List.getElem?_set_self hil] at e2
      have ea : q = a := V.ref.inj (Option.some.inj (Option.some.inj e2))
      rw [← ea]
      exact h00
    · rw [List.getElem?_set_ne q1] at e1 e2
      exact S.fr j xs a e1 e2
end
end DL
namespace DL
open PySem PySem.Spec PyProof.Rows L2

section
variable {K : PySem.W.Frag} {tb : List Addr} {Hd0 H0 Hd H Hd' H' : Hp} {σ : L2.St} {ds : List Sl}
theorem not_tab {H : Hp} {a P : Addr} {vs : List V} (h : H a = some (.lst vs)) (t : GxR.TabG H P) : P ≠ a := fun e => by
  obtain ⟨ps, e1, _⟩ := t
  rw [e, h] at e1
  cases e1
/-- an own list is changed -/
theorem State.putOwn (S : State K tb Hd0 H0 Hd H σ ds) {i : Nat} {xs ys : List PyData} {a : Addr} {vs ws : List V} (e : ds[i]? = some (.own xs)) (ea : σ[i]? = some (some (.ref a))) (hl : H a = some (.lst vs)) (hd : Hd a = none) (hw : DpAll K Hd ws ys) :
    State K tb Hd0 H0 Hd (upd H a (.lst ws)) σ (ds.set i (.own ys)) := by
  have h00 := S.fr i xs a e ea
  have il : i < ds.length := (List.getElem?_eq_some_iff.mp e).1
  refine ⟨⟨by rw [List.length_set]; exact S.env.len, ⟨fun b o q => ?_, S.env.dh.nt⟩, fun P hp => ?_, fun j t q => ?_, fun j k zs ws' b n e1 e2 e3 e4 => ?_⟩, ⟨S.gr.d, ⟨fun b o q => ?_, S.env.dh.nt⟩, ⟨fun b o q n => ?_, fun P t => ?_, fun b q => ?_⟩, S.gr.f⟩, fun j zs b e1 e2 => ?_⟩
  · rw [upd_ne (ne_of_none q hd)]
    exact S.env.dh.s b o q
  · obtain ⟨ps, e1, e2⟩ := S.env.tb P hp
    exact ⟨ps, by rw [upd_ne (not_tab hl ⟨ps, e1, e2⟩)]; exact e1, e2⟩
  · by_cases q1 : i = j
    · subst q1
      rw [List.getElem?_set_self il] at q
      cases q
      exact ⟨_, ea, a, ws, rfl, upd_same, hd, hw⟩
    · rw [List.getElem?_set_ne q1] at q
      obtain ⟨oo, k1, k2⟩ := S.env.sl j t q
      refine ⟨oo, k1, ?_⟩
      cases t with
      | no => cases oo <;> trivial
      | dat d => cases oo <;> exact k2
      | val w => cases oo <;> exact k2
      | own zs =>
        cases oo with
        | none => exact k2.elim
        | some v =>
          obtain ⟨b, us, f1, f2, f3, f4⟩ := k2
          have nb : b ≠ a := fun z => by
            rw [f1, z] at k1
            exact S.env.ap i j xs zs a q1 e q ea k1
          exact ⟨b, us, f1, by rw [upd_ne nb]; exact f2, f3, f4⟩
  · have own : ∀ (m : Nat) (zs : List PyData), (ds.set i (.own ys))[m]? = some (.own zs) → ∃ zs', ds[m]? = some (.own zs') := fun m zs f => by
      by_cases q1 : i = m
      · subst q1
        exact ⟨xs, e⟩
      · rw [List.getElem?_set_ne q1] at f
        exact ⟨zs, f⟩
    obtain ⟨z1, f1⟩ := own j zs e1
    obtain ⟨z2, f2⟩ := own k ws' e2
    exact S.env.ap j k z1 z2 b n f1 f2 e3 e4
  · rw [upd_ne (ne_of_none q hd)]
    exact S.env.dh.s b o q
  · rw [upd_ne (ne_of_none q h00)]
    exact S.gr.e.k b o q n
  · obtain ⟨ps, e1, e2⟩ := S.gr.e.t P t
    exact ⟨ps, by rw [upd_ne (not_tab hl ⟨ps, e1, e2⟩)]; exact e1, e2⟩
  · by_cases q1 : b = a
    · rw [q1]; exact h00
    · rw [upd_ne q1] at q
      exact S.gr.e.n b q
  · by_cases q1 : i = j
    · subst q1
      exact S.fr i xs b e e2
    · rw [List.getElem?_set_ne q1] at e1
      exact S.fr j zs b e1 e2
/-- an own list that is not changed any more is data -/
theorem State.freeze (S : State K tb Hd0 H0 Hd H σ ds) {i : Nat} {xs : List PyData} (e : ds[i]? = some (.own xs)) : ∃ Hd', Sub Hd Hd' ∧ State K tb Hd0 H0 Hd' H σ (ds.set i (.dat (.list xs))) := by
  obtain ⟨a, vs, ea, hl, hd, hx⟩ := S.env.own e
  have h00 := S.fr i xs a e ea
  have il : i < ds.length := (List.getElem?_eq_some_iff.mp e).1
  have s : Sub Hd (upd Hd a (.lst vs)) := fun b o q => by rw [upd_ne (ne_of_none q hd)]; exact q
  have D : DH (upd Hd a (.lst vs)) H := ⟨fun b o q => by
      by_cases z : b = a
      · rw [z, upd_same] at q
        rw [z, hl, q]
      · rw [upd_ne z] at q
        exact S.env.dh.s b o q, fun b ps q => by
      by_cases z : b = a
      · rw [z, upd_same] at q
        cases q
      · rw [upd_ne z] at q
        exact S.env.dh.nt b ps q⟩
  refine ⟨_, s, ⟨⟨by rw [List.length_set]; exact S.env.len, D, S.env.tb, fun j t q => ?_, fun j k zs ws' b n e1 e2 e3 e4 => ?_⟩, ⟨S.gr.d.trans s, D, S.gr.e, fun b q n => ?_⟩, fun j zs b e1 e2 => ?_⟩⟩
  · by_cases q1 : i = j
    · subst q1
      rw [List.getElem?_set_self il] at q
      cases q
      exact ⟨_, ea, .lst (.inl (.inl upd_same)) (DpAll.up hx s)⟩
    · rw [List.getElem?_set_ne q1] at q
      obtain ⟨oo, k1, k2⟩ := S.env.sl j t q
      refine ⟨oo, k1, ?_⟩
      cases t with
      | no => cases oo <;> trivial
      | dat d =>
        cases oo with
        | none => exact k2.elim
        | some v => exact Dp.up k2 s
      | val w => cases oo <;> exact k2
      | own zs =>
        cases oo with
        | none => exact k2.elim
        | some v =>
          obtain ⟨b, us, f1, f2, f3, f4⟩ := k2
          have nb : b ≠ a := fun z => by
            rw [f1, z] at k1
            exact S.env.ap i j xs zs a q1 e q ea k1
          exact ⟨b, us, f1, f2, by rw [upd_ne nb]; exact f3, DpAll.up f4 s⟩
  · have n1 : i ≠ j := fun q => by
      subst q
      rw [List.getElem?_set_self il] at e1
      cases e1
    have n2 : i ≠ k := fun q => by
      subst q
      rw [List.getElem?_set_self il] at e2
      cases e2
    rw [List.getElem?_set_ne n1] at e1
    rw [List.getElem?_set_ne n2] at e2
    exact S.env.ap j k zs ws' b n e1 e2 e3 e4
  · by_cases z : b = a
    · rw [z] at n
      exact absurd h00 n
    · rw [upd_ne z]
      exact S.gr.f b q n
  · have n1 : i ≠ j := fun q => by
      subst q
      rw [List.getElem?_set_self il] at e1
      cases e1
    rw [List.getElem?_set_ne n1] at e1
    exact S.fr j zs b e1 e2
end
section
variable {X : Cx} {tb : List Addr} {W : WX'} {ds es : List Sl} {d : PyData} {a b c iter elt : Expr} {pos pos' px apos : Pos} {st : Stmt} {rest body : List Stmt} {o o' : Out} {x : Str}
theorem bd_freeze (i : Nat) {xs : List PyData} (h : PBd X tb W rest (ds.set i (.dat (.list xs))) o) (e : ds[i]? = some (.own xs) := by rfl) : PBd X tb W rest ds o :=
  let ⟨_, p, q⟩ := h; ⟨_, p, fun Hd0 H0 Hd H σ D S z => let ⟨Hd', s, S'⟩ := S.freeze e; q Hd0 H0 Hd' H σ D S' (z.back s)⟩
/-- x.append(e), x's list one's own -/
theorem sd_append (i : Nat) {xs : List PyData} {p1 p2 : Pos} (h : PEd X tb a ds d) (hz : xs.length < 1000000) (e : ds[i]? = some (.own xs) := by rfl) (hN : X.N[i]? = some x := by rfl) (hv : visB X.env.scope x = true := by rfl) (h1 : (x == ("__debug__" : Str)) = false := by decide)
    (h2 : (x == ("__classdict__" : Str)) = false := by decide) (hbase : attributeBase (.Name x p1) "append" X.env (eval (.Name x p1) X.env) = eval (.Name x p1) X.env := by rfl)
    (hfew : ((backTo p2 (starEach [a] X.env)).all (fun x => !x.1) && (backToKw p2 (keywordEach [] X.env)).all (fun x => x.1.isSome)
      && decide ([a].length + ([] : List Keyword).length + (if ([] : List Keyword).isEmpty then 0 else 1) < 30)) = true := by rfl)
    (hline : (apos.endLine == p2.line) = true := by rfl) (hs : starEach [a] X.env = (false, eval a X.env) :: starEach [] X.env := by rfl) (hplain : (backTo p2 (starEach [] X.env)).any (·.1) = false := by rfl) (hsw : swapsWith (.Call (.Attribute (.Name x p1) "append" apos) [a] [] p2) none pos.line X.env = pure false := by rfl) :
    PSd X tb W (.Expr (.Call (.Attribute (.Name x p1) "append" apos) [a] [] p2) pos) ds (.nx (ds.set i (.own (xs ++ [d])))) := by
  obtain ⟨t, p, q⟩ := h
  refine ⟨_, ps_expr (pe_bm PySem.F.plainAttrs_list PySem.F.slot_list_append PySem.F.type_list_append mt_append (pe_var hN (visB_ok hv) h1 h2) (pa_cons p pa_nil hs) hbase hfew hline hs hplain) hsw, fun Hd0 H0 Hd H σ D S z => ?_⟩
  obtain ⟨l, vs, ea, hl, hd, hx⟩ := S.env.own e
  refine ⟨.ref l, ea, .inl ⟨rfl, vs, .inl (.inl hl)⟩, q Hd H σ S.env _ fun v Hd' H' g dv => ?_⟩
  have S' := S.up g
  obtain ⟨l2, vs2, ea2, hl2, hd2, hx2⟩ := S'.env.own e
  have el : l2 = l := V.ref.inj (Option.some.inj (Option.some.inj (ea2.symm.trans ea)))
  subst el
  refine ⟨l2, vs2, v, rfl, rfl, hl2, by rw [dpa_len hx2]; exact Nat.lt_of_lt_of_le hz (by decide), ?_⟩
  exact z σ Hd' _ (S'.putOwn e ea2 hl2 hd2 (dpa_app hx2 (.cons dv .nil))) g.d
/-- [e for x in it if ..] -/
theorem ed_lcX {α : Type} {scope : Scope} {ifs : List Expr} (j : Nat) (ys : List α) (enc F : α → PyData) (p : α → Bool) (hc : X.calm = true) (hN : X.N.Nodup) (hi : PId X tb (.Name x px) iter ds (ys.map enc)) (hlen : ys.length ≤ 1000000) (ok : BlkOk X.N X.env.scope scope [(x, j)])
    (hg : ∀ (s : Shared) (H : Hp) (C : Addr) (cl : List (Str × Addr)) (fp : List Addr), PG (X.blk s H scope (compEnvC scope cl C X.env) fp) (.Name x px) (gName j))
    (ht : ∀ y ∈ ys, ∀ (s : Shared) (H : Hp) (C : Addr) (cl : List (Str × Addr)) (fp : List Addr), ∃ t, PTs (X.blk s H scope (compEnvC scope cl C X.env) fp) ifs t ∧ EvT X.K tb t (ds.set j (.dat (enc y))) (p y))
    (he : ∀ y ∈ ys, p y = true → ∀ (s : Shared) (H : Hp) (C : Addr) (cl : List (Str × Addr)) (fp : List Addr), PEd (X.blk s H scope (compEnvC scope cl C X.env) fp) tb elt (ds.set j (.dat (enc y))) (F y))
    (hs : ∀ x, foldedSetIterable iter X.env x = pure x := by intro _; rfl) : PEd X tb (.ListComp elt [⟨.Name x px, iter, ifs, 0⟩] scope pos) ds (.list ((ys.filter p).map F)) := by
  obtain ⟨wi, p1, q1⟩ := hi
  refine ⟨_, pe_lc (own := [(x, j)]) (g := gName j) (tt := fun σ H Q => ∀ (s : Shared) (H' : Hp) (C : Addr) (cl : List (Str × Addr)) (fp : List Addr), ∃ t, PTs (X.blk s H' scope (compEnvC scope cl C X.env) fp) ifs t ∧ t σ H Q)
    (te := fun σ H Q => ∀ (s : Shared) (H' : Hp) (C : Addr) (cl : List (Str × Addr)) (fp : List Addr), wpE (X.blk s H' scope (compEnvC scope cl C X.env) fp) elt σ H Q) hc hN p1 ok hg
    (fun s H C cl fp => ⟨fun pins s' σ H' Q I h => let ⟨t, a1, a2⟩ := h s H C cl fp; a1.run pins s' σ H' Q I a2⟩) (fun s H C cl fp => ⟨fun pins s' σ H' Q I h => pe_can.run pins s' σ H' Q I (h s H C cl fp)⟩) hs, fun Hd H σ E Q z => ?_⟩
  refine q1 Hd H σ E _ fun J Hd1 H1 g wk D hD => ?_
  have hd0 : Hd1 D = none := by
    cases e : Hd1 D with
    | none => rfl
    | some u =>
      have := g.h.s D u e
      rw [hD] at this
      cases this
  -- W: what is made so far
  refine ⟨fun i mm H' => mm = ys.length - i ∧ i ≤ ys.length ∧ ∃ Hd' vs, Gr Hd1 H1 Hd' H' ∧ Hd' D = none ∧ H' D = some (.lst vs) ∧ DpAll X.K Hd' vs (((ys.take i).filter p).map F), ⟨ys.length, by simp, Nat.zero_le _, Hd1, [], Gr.newOut g.h hD, hd0, upd_same, .nil⟩, ?_⟩
  rintro i mm H' ⟨rfl, him, Hd', vs, g', d0, hl, hv⟩
  have E' : Env X.K tb Hd' H' σ ds := (E.up g).up g'
  have W' : Env X.K tb Hd' H' (wipe σ [j]) (ds.set j .no) := ⟨by show (List.set σ j none).length = _; rw [List.length_set, List.length_set]; exact E'.len, E'.dh, E'.tb, fun k t e => by
      show ∃ o, (List.set σ j none)[k]? = some o ∧ _
      by_cases q : j = k
      · subst q
        have hj : j < ds.length := by
          have := (List.getElem?_eq_some_iff.mp e).1
          rw [List.length_set] at this
          exact this
        rw [List.getElem?_set_self hj] at e
        cases e
        exact ⟨none, List.getElem?_set_self (by rw [E'.len]; exact hj), trivial⟩
      · rw [List.getElem?_set_ne q] at e
        obtain ⟨oo, k1, k2⟩ := E'.sl k t e
        exact ⟨oo, by rw [List.getElem?_set_ne q]; exact k1, k2⟩, fun k l xs zs a n e1 e2 e3 e4 => by
      have nj : ∀ (m : Nat) (us : List PyData), (ds.set j .no)[m]? = some (.own us) → j ≠ m := fun m us e q => by
        subst q
        have hj : j < ds.length := by
          have := (List.getElem?_eq_some_iff.mp e).1
          rw [List.length_set] at this
          exact this
        rw [List.getElem?_set_self hj] at e
        cases e
      have n1 := nj k xs e1
      have n2 := nj l zs e2
      rw [List.getElem?_set_ne n1] at e1
      rw [List.getElem?_set_ne n2] at e2
      have e3' : (List.set σ j none)[k]? = some (some (V.ref a)) := e3
      have e4' : (List.set σ j none)[l]? = some (some (V.ref a)) := e4
      rw [List.getElem?_set_ne n1] at e3'
      rw [List.getElem?_set_ne n2] at e4'
      exact E'.ap k l xs zs a n e1 e2 e3' e4'⟩
  by_cases hlt : i < ys.length
  · have hil : i < (ys.map enc).length := by rw [List.length_map]; exact hlt
    have hy : ys[i] ∈ ys := List.getElem_mem hlt
    refine .inr ⟨wk.go i Hd' H' g'.d g'.h hil, fun H2 => i + 1 ≤ ys.length ∧ ∃ Hd2 vs, Gr Hd1 H1 Hd2 H2 ∧ Hd2 D = none ∧ H2 D = some (.lst vs) ∧ DpAll X.K Hd2 vs (((ys.take (i + 1)).filter p).map F), fun H2 z2 => ⟨ys.length - (i + 1), by omega, rfl, z2⟩, fun v H2 y => ?_⟩
    obtain ⟨Hd2, dd, e1, g2, dv⟩ := wk.yl i Hd' H' v H2 g'.d g'.h hil y
    have ed : dd = enc ys[i] := by
      rw [List.getElem?_map, List.getElem?_eq_getElem hlt] at e1
      exact (Option.some.inj e1).symm
    subst ed
    have hjσ : ∀ u : V, wipe ((wipe σ [j]).set j (some u)) [j] = wipe σ [j] := fun u => by
      show List.set (List.set (List.set σ j none) j (some u)) j none = List.set σ j none
      rw [List.set_set, List.set_set]
    refine ⟨hjσ v, fun s Hx C cl fp => ?_⟩
    have E2 : Env X.K tb Hd2 H2 ((wipe σ [j]).set j (some v)) (ds.set j (.dat (enc ys[i]))) := by
      have := (W'.up g2).set (i := j) (s := .dat (enc ys[i])) dv fun _ z => nomatch z
      rwa [List.set_set] at this
    obtain ⟨t, t1, t2⟩ := ht ys[i] hy s Hx C cl fp
    refine ⟨t, t1, t2 Hd2 H2 _ E2 _ fun Hd3 H3 g3 => ?_⟩
    have tk : ys.take (i + 1) = ys.take i ++ [ys[i]] := by rw [List.take_add_one, List.getElem?_eq_getElem hlt] <;> rfl
    have g13 : Gr Hd1 H1 Hd3 H3 := (g'.trans g2).trans g3
    have d3 : Hd3 D = none := (g2.trans g3).f D d0 (by rw [hl]; exact fun z => nomatch z)
    have l3 : H3 D = some (.lst vs) := (g2.trans g3).e.k D _ hl fun _ z => nomatch z
    cases hp : p ys[i] with
    | true =>
      refine iteT fun s Hx C cl fp => (he ys[i] hy hp s Hx C cl fp).can Hd3 H3 _ (E2.up g3) _ fun w Hd4 H4 g4 dw => ?_
      have d4 : Hd4 D = none := g4.f D d3 (by rw [l3]; exact fun z => nomatch z)
      have l4 : H4 D = some (.lst vs) := g4.e.k D _ l3 fun _ z => nomatch z
      have lv : vs.length ≤ ys.length := by
        rw [dpa_len hv, List.length_map]
        exact Nat.le_trans (List.length_filter_le _ _) (by rw [List.length_take]; exact Nat.min_le_right _ _)
      refine ⟨vs, l4, Nat.lt_of_le_of_lt (Nat.le_trans lv hlen) (by decide), hlt, Hd4, vs ++ [w], ?_, d4, upd_same, ?_⟩
      · have G := g13.trans g4
        exact ⟨G.d, ⟨fun b o q => by rw [upd_ne (ne_of_none q d4)]; exact G.h.s b o q, G.h.nt⟩, ⟨fun b o q n => by rw [upd_ne (ne_of_none q hD)]; exact G.e.k b o q n, fun P t => by
          obtain ⟨ps, e1, e2⟩ := G.e.t P t
          exact ⟨ps, by rw [upd_ne (not_tab l4 ⟨ps, e1, e2⟩)]; exact e1, e2⟩, fun b q => by
          by_cases q1 : b = D
          · rw [q1]; exact hD
          · rw [upd_ne q1] at q
            exact G.e.n b q⟩, G.f⟩
      · rw [tk, List.filter_append, List.map_append, List.filter_cons, if_pos hp]
        exact dpa_app (DpAll.up hv ((g2.trans g3).trans g4).d) (.cons dw .nil)
    | false =>
      refine iteF ⟨hlt, Hd3, vs, g13, d3, l3, ?_⟩
      rw [tk, List.filter_append, List.map_append, List.filter_cons, if_neg (by rw [hp]; exact Bool.false_ne_true)]
      show DpAll X.K Hd3 vs (_ ++ [])
      rw [List.append_nil]
      exact DpAll.up hv (g2.trans g3).d
  · have e : i = ys.length := by omega
    subst e
    refine .inl ⟨wk.st _ Hd' H' g'.d g'.h (by rw [List.length_map]; exact Nat.le_refl _), ?_⟩
    rw [List.take_length] at hv
    have s : Sub Hd' (upd Hd' D (.lst vs)) := fun b o q => by rw [upd_ne (ne_of_none q d0)]; exact q
    refine z (.ref D) (upd Hd' D (.lst vs)) H' ⟨(g.d.trans g'.d).trans s, ⟨fun b o q => ?_, fun b ps q => ?_⟩, (g.e.trans g'.e), fun b q n => ?_⟩ (.lst (.inl (.inl upd_same)) (DpAll.up hv s))
    · by_cases q1 : b = D
      · rw [q1, upd_same] at q
        rw [q1, hl, q]
      · rw [upd_ne q1] at q
        exact g'.h.s b o q
    · by_cases q1 : b = D
      · rw [q1, upd_same] at q
        cases q
      · rw [upd_ne q1] at q
        exact g'.h.nt b ps q
    · by_cases q1 : b = D
      · rw [q1] at n
        exact absurd (g.e.n D hD) n
      · rw [upd_ne q1]
        exact (g.trans g').f b q n
end
end DL
namespace DL
open PySem PySem.Spec PyProof.Rows L2

/-! ### defs over data -/
/-- called with data ds it hands back d -/
def spD (K : PySem.W.Frag) (tb : List Addr) (n : Nat) (R : List PyData → PyData → Prop) : Sp := fun vs H Q _ => ∃ (Hd : Hp) (ds : List PyData) (d : PyData), vs.length = n ∧ DH Hd H ∧ (∀ P ∈ tb, GxR.TabG H P) ∧ DpAll K Hd vs ds ∧ R ds d ∧ ∀ v Hd' H', Gr Hd H Hd' H' → (∀ P ∈ tb, GxR.TabG H' P) → Dp K Hd' v d → Q v H'
def W0 : WX' := fun _ _ _ _ => False
/-- the slots at a def's entry -/
def sd (N : List Str) (ds : List PyData) : List Sl := ds.map Sl.dat ++ List.replicate (N.length - ds.length) Sl.no
section
variable {P : Program} {w : World} {K : PySem.W.Frag} {mg : Str → Option Value} {base : Heap} {x qual : Str} {params : Arguments} {body : List Stmt} {scope : Scope} {dvs : List V} {kws : List (Str × V)} {f : Addr} {fd : FuncData} {tb : List Addr}
/-- the rule for a def, the code's object known -/
theorem fok {CX : CXT} {N ps : List Str} {k : Nat} {sp : Sp} (F : FunD K x qual params body scope dvs kws f fd) (S : FnScope N ps scope) (len : ∀ vs H Q E, sp vs H Q E → vs.length = ps.length)
    (hbody : ∀ (A : Around) (outer : List PySem.Env) (s : Shared) (H : Hp) (vs : List V) (Q : VK) (E : XK), Room k (A.deeper (envOfC qual scope s.heap.objs.size f fd.code)) → sp vs H Q E →
      ∃ t, PSs (cxOf CX P w K mg base N qual scope f fd.code A outer s H E) body t ∧ t { nx := fun _ H' => Q .non H', rt := Q } (L2.start N vs) H) : FnOk P w K mg base CX (k + 1) f fd ps sp := by
  obtain ⟨oc, od, dV, kV, doc, pm, an, cdv, ct, osl, rfl, lk, hcd, _, _⟩ := F.ex
  exact fn_of lk hcd S len fun A outer s H vs Q E hr hsp => hbody A outer s H vs Q E hr hsp
theorem start_env {N : List Str} {Hd H : Hp} {vs : List V} {ds : List PyData} (hl : vs.length ≤ N.length) (D : DH Hd H) (ht : ∀ P ∈ tb, GxR.TabG H P) (h : DpAll K Hd vs ds) : Env K tb Hd H (L2.start N vs) (sd N ds) := by
  have el := dpa_len h
  refine ⟨?_, D, ht, fun i s e => ?_, fun i j xs ys a n e1 e2 e3 e4 => ?_⟩
  · unfold L2.start sd
    rw [List.length_append, List.length_append, List.length_map, List.length_map, List.length_replicate, List.length_replicate, el]
  · unfold L2.start sd at *
    by_cases hi : i < ds.length
    · rw [List.getElem?_append_left (by rw [List.length_map]; exact hi), List.getElem?_map] at e
      rw [List.getElem?_append_left (by rw [List.length_map, el]; exact hi), List.getElem?_map]
      cases q : ds[i]? with
      | none =>
        rw [q] at e
        cases e
      | some d =>
        rw [q] at e
        obtain ⟨v, e1, e2⟩ := dpa_get h q
        rw [e1]
        cases e
        exact ⟨_, rfl, e2⟩
    · rw [List.getElem?_append_right (by rw [List.length_map]; omega), List.length_map] at e
      rw [List.getElem?_append_right (by rw [List.length_map]; omega), List.length_map, el]
      obtain ⟨h1, h2⟩ := List.getElem?_eq_some_iff.mp e
      rw [List.length_replicate] at h1
      rw [List.getElem_replicate] at h2
      subst h2
      rw [List.getElem?_replicate, if_pos h1]
      exact ⟨_, rfl, trivial⟩
  · unfold sd at e1
    by_cases hi : i < ds.length
    · rw [List.getElem?_append_left (by rw [List.length_map]; exact hi), List.getElem?_map] at e1
      cases q : ds[i]? with
      | none =>
        rw [q] at e1
        cases e1
      | some d =>
        rw [q] at e1
        cases e1
    · rw [List.getElem?_append_right (by rw [List.length_map]; omega), List.length_map] at e1
      obtain ⟨h1, h2⟩ := List.getElem?_eq_some_iff.mp e1
      rw [List.getElem_replicate] at h2
      cases h2
/-- a def of the text that raises nothing and hands back -/
theorem fn_ok {N ps : List Str} {k : Nat} {R : List PyData → PyData → Prop} (F : FunD K x qual params body scope [] [] f fd) (S : FnScope N ps scope) (hlen : ps.length ≤ N.length)
    (hb : ∀ (ds : List PyData) (d : PyData), R ds d → ∀ (A : Around) (outer : List PySem.Env) (s : Shared) (H : Hp) (E : XK), Room k (A.deeper (envOfC qual scope s.heap.objs.size f fd.code)) →
      PBd (cxOf CX0 P w K mg base N qual scope f fd.code A outer s H E).nox tb W0 body (sd N ds) (.rt d)) : FnOk P w K mg base CX0 (k + 1) f fd ps (spD K tb ps.length R) := by
  refine fok F S (fun vs H Q E h => ?_) fun A outer s H vs Q E hr h => ?_
  · obtain ⟨_, _, _, h, _⟩ := h
    exact h
  · obtain ⟨Hd, ds, d, hl, D, ht, hv, hR, q⟩ := h
    obtain ⟨t, p, r⟩ := hb ds d hR A outer s H E hr
    refine ⟨t, p.nox, r Hd H Hd H _ _ ⟨start_env (by rw [hl]; exact hlen) D ht hv, Gr.refl D, fun i xs a e1 e2 => ?_⟩ fun v Hd' H' g ht' dv => q v Hd' H' g ht' dv⟩
    have E0 := start_env (N := N) (by rw [hl]; exact hlen) D ht hv
    exfalso
    unfold sd at e1
    by_cases hi : i < ds.length
    · rw [List.getElem?_append_left (by rw [List.length_map]; exact hi), List.getElem?_map] at e1
      cases q : ds[i]? with
      | none =>
        rw [q] at e1
        cases e1
      | some d =>
        rw [q] at e1
        cases e1
    · rw [List.getElem?_append_right (by rw [List.length_map]; omega), List.length_map] at e1
      obtain ⟨h1, h2⟩ := List.getElem?_eq_some_iff.mp e1
      rw [List.getElem_replicate] at h2
      cases h2
/-- the call of such a def -/
structure FnG (P : Program) (w : World) (K : PySem.W.Frag) (mg : Str → Option Value) (base : Heap) (tb : List Addr) (x : Str) (ps : List Str) (k : Nat) (R : List PyData → PyData → Prop) : Prop where
  ex : ∃ (f : Addr) (fd : FuncData), FnOk P w K mg base CX0 k f fd ps (spD K tb ps.length R) ∧ mg x = some (.ref f) ∧ PySem.W.keepIn K (.ref f) = true ∧ Binds K fd ps []
end
section
variable {X : Cx} {tb : List Addr} {W : WX'} {ds es : List Sl} {d e f : PyData} {a b c : Expr} {pos p : Pos} {x : Str} {args : List Expr} {fs : List PyData} {ps : List Str} {k : Nat} {R : List PyData → PyData → Prop}
theorem ed_call (G : FnG X.prog X.w X.K X.mg X.base tb x ps k R) (hr : Room k X.A) (ha : PAd X tb (a :: args) ds fs) (hR : R fs d) (hl : fs.length = ps.length := by rfl) (hg : Gl X x := by rfl) (hdb : (x == ("__debug__" : Str)) = false := by decide)
    (he : starEach (a :: args) X.env = (false, eval a X.env) :: starEach args X.env := by rfl) (hpl : (backTo pos (starEach args X.env)).any (·.1) = false := by rfl) : PEd X tb (.Call (.Name x p) (a :: args) [] pos) ds d := by
  obtain ⟨fa, fd, F, hm, hk, hb⟩ := G.ex
  obtain ⟨t, p1, q1⟩ := ha
  refine ⟨_, pe_call F hr hg hm hk hb .nil (pass0 (X := X)) p1 hdb he hpl, fun Hd H σ E Q z => q1 Hd H σ E _ fun vs Hd1 H1 g dv => ?_⟩
  have E1 := E.up g
  refine ⟨Hd1, fs, d, by rw [List.append_nil, dpa_len dv]; exact hl, g.h, E1.tb, by rw [List.append_nil]; exact dv, hR, fun v Hd2 H2 g2 _ dv2 => z v Hd2 H2 (g.trans g2) dv2⟩
/-! ### texts -/
theorem rm_index {A B : Str} {i : Nat} {more : List Nat} (h : Builtin.Str.occurrences A B 0 A.length 1 = i :: more) : RmD X.K (fun x xs H Q => ∃ a b i rest, x = .str a ∧ xs = [.str b] ∧ Builtin.Str.occurrences a b 0 a.length 1 = i :: rest ∧ Q (.int (i : Nat)) H) (.str A) [.str B] (.int (i : Nat)) := fun Hd H x xs D dx dxs Q q => by
  cases dx
  cases dxs with
  | cons h1 h2 =>
    cases h2
    cases h1
    exact ⟨A, B, i, more, rfl, rfl, h, q _ Hd H (Gr.refl D) (.int _)⟩
/-- s.index(t), found -/
theorem ed_index {A B : Str} {i : Nat} {more : List Nat} {apos : Pos} (hb : PEd X tb b ds (.str A)) (ha : PEd X tb a ds (.str B)) (h : Builtin.Str.occurrences A B 0 A.length 1 = i :: more) (hs : starEach [a] X.env = (false, eval a X.env) :: starEach [] X.env := by rfl)
    (hbase : attributeBase b "index" X.env (eval b X.env) = eval b X.env := by rfl)
    (hfew : ((backTo pos (starEach [a] X.env)).all (fun x => !x.1) && (backToKw pos (keywordEach [] X.env)).all (fun x => x.1.isSome)
      && decide ([a].length + ([] : List Keyword).length + (if ([] : List Keyword).isEmpty then 0 else 1) < 30)) = true := by rfl)
    (hline : (apos.endLine == pos.line) = true := by rfl) (hplain : (backTo pos (starEach [] X.env)).any (·.1) = false := by rfl) : PEd X tb (.Call (.Attribute b "index" apos) [a] [] pos) ds (.int (i : Nat)) :=
  ed_bm PySem.F.plainAttrs_str PySem.F.slot_str_index PySem.F.type_str_index mt_sindex (rm_index h) rfl hb (ad_cons ha ad_nil hs) hbase hfew hline hs hplain
theorem dpa_strs {K : PySem.W.Frag} {Hd : Hp} : ∀ {vs : List V} {ys : List Str}, DpAll K Hd vs (ys.map PyData.str) → vs = ys.map V.str
  | _, [], h => by cases h; rfl
  | _, y :: ys, h => by
    cases h with
    | cons h1 h2 =>
      cases h1
      rw [dpa_strs h2] <;> rfl
theorem rm_join {A : Str} {ys : List Str} (h : (ys.map (·.length)).sum + ys.length * A.length ≤ 16777216) : RmD X.K (fun x xs H Q => ∃ a p, ∃ ys : List Str, x = .str a ∧ xs = [.ref p] ∧ (SqL X.K H p (ys.map V.str) ∨ SqT X.K H p (ys.map V.str)) ∧
    (ys.map (·.length)).sum + ys.length * a.length ≤ 16777216 ∧ Q (.str (Txt.join a ys)) H) (.str A) [.list (ys.map PyData.str)] (.str (Txt.join A ys)) := fun Hd H x xs D dx dxs Q q => by
  cases dx
  cases dxs with
  | cons h1 h2 =>
    cases h2
    cases h1 with
    | @lst p vs _ k1 k2 =>
      have e := dpa_strs k2
      subst e
      exact ⟨A, p, ys, rfl, rfl, .inl (sl_sub D.s k1), h, q _ Hd H (Gr.refl D) (.str _)⟩
/-- s.join(list of texts) -/
theorem ed_join {A : Str} {ys : List Str} {apos : Pos} (hb : PEd X tb b ds (.str A)) (ha : PEd X tb a ds (.list (ys.map PyData.str))) (h : (ys.map (·.length)).sum + ys.length * A.length ≤ 16777216) (hs : starEach [a] X.env = (false, eval a X.env) :: starEach [] X.env := by rfl)
    (hbase : attributeBase b "join" X.env (eval b X.env) = eval b X.env := by rfl)
    (hfew : ((backTo pos (starEach [a] X.env)).all (fun x => !x.1) && (backToKw pos (keywordEach [] X.env)).all (fun x => x.1.isSome)
      && decide ([a].length + ([] : List Keyword).length + (if ([] : List Keyword).isEmpty then 0 else 1) < 30)) = true := by rfl)
    (hline : (apos.endLine == pos.line) = true := by rfl) (hplain : (backTo pos (starEach [] X.env)).any (·.1) = false := by rfl) : PEd X tb (.Call (.Attribute b "join" apos) [a] [] pos) ds (.str (Txt.join A ys)) :=
  ed_bm PySem.F.plainAttrs_str PySem.F.slot_str_join PySem.F.type_str_join mt_join (rm_join h) rfl hb (ad_cons ha ad_nil hs) hbase hfew hline hs hplain
/-! ### all over the signs of a text -/
theorem ed_allS {C P : Addr} {elt iter : Expr} {y : Str} {py gpos : Pos} {scope : Scope} {pb : Nat → Bool} {A : Str} (hP : P ∈ tb) (hr : Room k X.A) (hm : X.mg "all" = none) (TB : GxR.TabB X.base X.mg C P) (hcode : X.env.code = .ref C) (S : GxR.GenS X.env scope y) (hi : PEd X tb iter ds (.str A)) (hel : GxR.EltP X.prog X.w scope y elt pb)
    (hb : bootBuiltins "all" = some (.builtin "all") := by decide +kernel) (hs : ∀ v, genFold iter X.env v = pure v := by intro _; rfl) (hg : Gl X "all" := by rfl)
    (he : starEach [.GeneratorExp elt [⟨.Name y py, iter, [], 0⟩] scope gpos] X.env = (false, eval (.GeneratorExp elt [⟨.Name y py, iter, [], 0⟩] scope gpos) X.env) :: starEach [] X.env := by rfl) :
    PEd X tb (.Call (.Name "all" p) [.GeneratorExp elt [⟨.Name y py, iter, [], 0⟩] scope gpos] [] pos) ds (.bool (A.cps.toList.all pb)) :=
  let ⟨_, p1, q1⟩ := hi; ⟨_, GxR.pe_allS hr hg hm hb TB hcode S p1 hel hs he, fun Hd H σ E Q z => q1 Hd H σ E _ fun v Hd1 H1 g dv => by
    cases dv
    have T := (E.up g).tb P hP
    exact ⟨A, rfl, T, fun H2 ht => z _ Hd1 H2 (g.trans (Gr.tab g.h ht T)) (.bl _)⟩⟩
end
end DL
namespace DL
open PySem PySem.Spec PyProof.Rows L2

section
variable {X : Cx} {tb : List Addr} {W : WX'} {ds es : List Sl} {d e f : PyData} {a b c : Expr} {pos p : Pos}
/-! ### operators, by what stands on both sides -/
structure BinD (X : Cx) (tb : List Addr) (op : Operator) (d e f : PyData) : Prop where
  ex : ∃ r, OpR X (binaryOp op) r ∧ RvD X.K tb r d e f
theorem ed_bin {op : Operator} (ha : PEd X tb a ds d) (hb : PEd X tb b ds e) (h : BinD X tb op d e f) : PEd X tb (.BinOp a op b pos) ds f := let ⟨_, h1, h2⟩ := h.ex; ed_op h1 h2 ha hb
theorem bin_add {i j : Int} : BinD X tb .Add (.int i) (.int j) (.int (i + j)) := ⟨⟨_, op_add, rv_I0 (h := fun i j => .int (i + j)) fun _ => .int _⟩⟩
theorem bin_sub {i j : Int} : BinD X tb .Sub (.int i) (.int j) (.int (i - j)) := ⟨⟨_, op_sub, rv_I0 (h := fun i j => .int (i - j)) fun _ => .int _⟩⟩
theorem bin_mul {i j : Int} (c : (-(2 ^ 64) < i ∧ i < 2 ^ 64) ∨ (-(2 ^ 64) < j ∧ j < 2 ^ 64)) : BinD X tb .Mult (.int i) (.int j) (.int (i * j)) := ⟨⟨_, op_mul, rv_I (h := fun i j => .int (i * j)) c fun _ => .int _⟩⟩
theorem bin_fdiv {i j : Int} (c : 0 < j ∧ j < 1073741824) : BinD X tb .FloorDiv (.int i) (.int j) (.int (i / j)) := ⟨⟨_, op_fdiv, rv_I (C := CDiv) (h := fun i j => .int (i / j)) c fun _ => .int _⟩⟩
theorem bin_mod {i j : Int} (c : 0 < j) : BinD X tb .Mod (.int i) (.int j) (.int (i % j)) := ⟨⟨_, op_mod, rv_I (C := fun _ j => 0 < j) (h := fun i j => .int (i % j)) c fun _ => .int _⟩⟩
theorem bin_cat {xs ys : List PyData} (h : xs.length + ys.length ≤ 16000000) : BinD X tb .Add (.list xs) (.list ys) (.list (xs ++ ys)) := ⟨⟨_, op_catS, rv_cat h⟩⟩
theorem bin_addS {i j : Str} (h : i.length + j.length ≤ 16000000) : BinD X tb .Add (.str i) (.str j) (.str (i ++ j)) := ⟨⟨_, op_add_str, rv_addS h⟩⟩
/-! ### comparisons -/
structure CmpD (X : Cx) (tb : List Addr) (op : CmpOp) (d e : PyData) (k : Bool) : Prop where
  ex : ∃ r, OpR X (compareOp op) r ∧ RvD X.K tb r d e (.bool k)
theorem ed_cmpD {op : CmpOp} {k : Bool} (ha : PEd X tb a ds d) (hb : PEd X tb b ds e) (h : CmpD X tb op d e k) (hm : behindInMarks op b = false := by first | exact nomark _ | rfl) : PEd X tb (.Compare a [op] [b] pos) ds (.bool k) := let ⟨_, h1, h2⟩ := h.ex; ed_cmp h1 h2 ha hb hm
theorem td_cmpD {op : CmpOp} {k : Bool} (ha : PEd X tb a ds d) (hb : PEd X tb b ds e) (h : CmpD X tb op d e k) (hm : behindInMarks op b = false := by first | exact nomark _ | rfl) : PTd X tb (.Compare a [op] [b] pos) ds k := let ⟨_, h1, h2⟩ := h.ex; td_cmp h1 h2 ha hb hm
theorem cmp_lt {i j : Int} : CmpD X tb .Lt (.int i) (.int j) (decide (i < j)) := ⟨⟨_, op_lt, rv_lt⟩⟩
theorem cmp_le {i j : Int} : CmpD X tb .LtE (.int i) (.int j) (decide (i ≤ j)) := ⟨⟨_, op_le, rv_le⟩⟩
theorem cmp_gt {i j : Int} : CmpD X tb .Gt (.int i) (.int j) (decide (j < i)) := ⟨⟨_, op_gt, rv_gt⟩⟩
theorem cmp_ge {i j : Int} : CmpD X tb .GtE (.int i) (.int j) (decide (j ≤ i)) := ⟨⟨_, op_ge, rv_ge⟩⟩
theorem cmp_eqI {i j : Int} : CmpD X tb .Eq (.int i) (.int j) (decide (i = j)) := ⟨⟨_, op_eq, rv_eqI⟩⟩
theorem cmp_neI {i j : Int} : CmpD X tb .NotEq (.int i) (.int j) (!decide (i = j)) := ⟨⟨_, op_ne, rv_neI⟩⟩
theorem cmp_eqS {i j : Str} : CmpD X tb .Eq (.str i) (.str j) (decide (i = j)) := ⟨⟨_, op_eq, rv_eqS⟩⟩
theorem cmp_neS {i j : Str} : CmpD X tb .NotEq (.str i) (.str j) (!decide (i = j)) := ⟨⟨_, op_ne, rv_neS⟩⟩
theorem cmp_eqB {i j : Bool} : CmpD X tb .Eq (.bool i) (.bool j) (decide (i = j)) := ⟨⟨_, op_eq, rv_eqB⟩⟩
theorem cmp_neB {i j : Bool} : CmpD X tb .NotEq (.bool i) (.bool j) (!decide (i = j)) := ⟨⟨_, op_ne, rv_neB⟩⟩
theorem cmp_eqD {k : Nat} (hr : Room k X.A) (sd : SeqAt.shaped d = true) (se : SeqAt.shaped e = true) : CmpD X tb .Eq d e (PyData.eqv d e) := ⟨⟨_, op_eqD hr.units, rv_eqD sd se⟩⟩
theorem cmp_neD {k : Nat} (hr : Room k X.A) (sd : SeqAt.shaped d = true) (se : SeqAt.shaped e = true) : CmpD X tb .NotEq d e (!PyData.eqv d e) := ⟨⟨_, op_neD hr.units, rv_neD sd se⟩⟩
theorem cmp_inD {k : Nat} {zs : List PyData} (hr : Room k X.A) (sd : SeqAt.shaped d = true) (se : SeqAt.shaped (.list zs) = true) : CmpD X tb .In d (.list zs) (zs.any fun z => PyData.eqv z d) := ⟨⟨_, op_inD (by have := hr.un; omega), rv_inD sd se⟩⟩
def isNo : PyData → Bool
  | .none => true
  | _ => false
theorem rv_isN : RvD X.K tb (fun x y H Q => y = .non ∧ Q (.bl (decide (x = .non))) H) d .none (.bool (isNo d)) := fun Hd H x y D _ dx dy Q q => by
  cases dy
  refine ⟨rfl, q _ Hd H (Gr.refl D) ?_⟩
  have e : decide (x = V.non) = isNo d := by
    cases d <;> cases dx <;> rfl
  rw [e]
  exact .bl _
theorem cmp_isN : CmpD X tb .Is d .none (isNo d) := ⟨⟨_, op_isN, rv_isN⟩⟩
theorem rv_notN : RvD X.K tb (fun x y H Q => y = .non ∧ Q (.bl (!decide (x = .non))) H) d .none (.bool (!isNo d)) := fun Hd H x y D _ dx dy Q q => by
  cases dy
  refine ⟨rfl, q _ Hd H (Gr.refl D) ?_⟩
  have e : decide (x = V.non) = isNo d := by
    cases d <;> cases dx <;> rfl
  rw [e]
  exact .bl _
theorem cmp_notN : CmpD X tb .IsNot d .none (!isNo d) := ⟨⟨_, op_notN, rv_notN⟩⟩
/-- one sign in a text -/
theorem cmp_inS {k : Nat} {z : Str} : CmpD X tb .In (.str ⟨#[k]⟩) (.str z) (decide (k ∈ z.cps.toList)) := ⟨⟨_, op_in_sign, fun Hd H x y D _ dx dy Q q => by
  cases dx
  cases dy
  exact ⟨k, z, rfl, rfl, q _ Hd H (Gr.refl D) (.bl _)⟩⟩⟩
theorem cmp_notInS {k : Nat} {z : Str} : CmpD X tb .NotIn (.str ⟨#[k]⟩) (.str z) (!decide (k ∈ z.cps.toList)) := ⟨⟨_, op_notIn_sign, fun Hd H x y D _ dx dy Q q => by
  cases dx
  cases dy
  exact ⟨k, z, rfl, rfl, q _ Hd H (Gr.refl D) (.bl _)⟩⟩⟩
/-! ### items, slices, len -/
structure ItemD (X : Cx) (tb : List Addr) (d e f : PyData) : Prop where
  ex : ∃ r, IxR X r ∧ RvD X.K tb r d e f
theorem ed_item (ha : PEd X tb a ds d) (hb : PEd X tb b ds e) (h : ItemD X tb d e f) (hs : PlainIx b := by exact fun _ _ => rfl) : PEd X tb (.Subscript a b pos) ds f := let ⟨_, h1, h2⟩ := h.ex; ed_ix h1 h2 ha hb hs
theorem item_l {xs : List PyData} {i : Int} (h : atI xs i = some f) : ItemD X tb (.list xs) (.int i) f := ⟨⟨_, ix_list, rv_ixL h⟩⟩
theorem item_t {xs : List PyData} {i : Int} (h : atI xs i = some f) : ItemD X tb (.tuple xs) (.int i) f := ⟨⟨_, ix_tup, rv_ixT h⟩⟩
theorem item_s {z : Str} {i : Int} {k : Nat} (hl : z.length ≤ 16000000) (h : atI z.cps.toList i = some k) : ItemD X tb (.str z) (.int i) (.str ⟨#[k]⟩) := ⟨⟨_, ix_str, rv_ixS hl h⟩⟩
structure SlcD (X : Cx) (d : PyData) (l u : Option Int) (f : PyData) : Prop where
  ex : ∃ r, SlR X r ∧ RsD X.K r d l u f
theorem ed_slc {lo hi : Option Expr} {l u : Option Int} {p2 : Pos} (ha : PEd X tb a ds d) (hl : POd X tb lo ds l) (hu : POd X tb hi ds u) (h : SlcD X d l u f) : PEd X tb (.Subscript a (.Slice lo hi none p2) pos) ds f := let ⟨_, h1, h2⟩ := h.ex; ed_slice h1 h2 ha hl hu
theorem slc_l {xs : List PyData} {l u : Option Int} : SlcD X (.list xs) l u (.list (cutD xs l u)) := ⟨⟨_, sl_list, rs_list⟩⟩
theorem slc_s {z : Str} {l u : Option Int} (h : z.length ≤ 16000000) : SlcD X (.str z) l u (.str (cutS z l u)) := ⟨⟨_, sl_str, rs_str h⟩⟩
structure LenD (X : Cx) (d : PyData) (n : Nat) : Prop where
  ex : ∃ r, CallR X (.builtin "len") r ∧ RcD X.K r [d] (.int n)
theorem ed_len {n : Nat} (hm : X.mg "len" = none) (ha : PEd X tb a ds d) (h : LenD X d n) (hg : Gl X "len" := by rfl) (hs : starEach [a] X.env = [(false, eval a X.env)] := by rfl) : PEd X tb (.Call (.Name "len" p) [a] [] pos) ds (.int n) :=
  let ⟨_, h1, h2⟩ := h.ex; ed_callB h1 h2 hm PySem.boot_len (ad_cons ha ad_nil hs) hg (by decide) (by decide) hs (by rfl)
theorem len_l {xs : List PyData} {n : Nat} (h : xs.length = n) : LenD X (.list xs) n := h ▸ ⟨⟨_, call_len_seq, rc_lenL⟩⟩
theorem len_t {xs : List PyData} {n : Nat} (h : xs.length = n) : LenD X (.tuple xs) n := h ▸ ⟨⟨_, call_len_seq, rc_lenT⟩⟩
theorem len_s {z : Str} (h : z.length ≤ 16000000) : LenD X (.str z) z.length := ⟨⟨_, call_len_str, rc_lenS h⟩⟩
/-! ### chains -/
variable {op op' : CmpOp} {k l : Bool}
theorem ed_chain (ha : PEd X tb a ds d) (hb : PEd X tb b ds e) (hc : PEd X tb c ds f) (h1 : CmpD X tb op d e k) (h2 : CmpD X tb op' e f l) (hm : lastMarks [op, op'] [b, c] = false := by with_unfolding_all rfl) : PEd X tb (.Compare a [op, op'] [b, c] pos) ds (.bool (k && l)) := by
  obtain ⟨r1, o1, v1⟩ := h1.ex
  obtain ⟨r2, o2, v2⟩ := h2.ex
  obtain ⟨t1, p1, q1⟩ := ha
  obtain ⟨t2, p2, q2⟩ := hb
  obtain ⟨t3, p3, q3⟩ := hc
  refine ⟨_, pe_chain o1 o2 p1 p2 p3 hm, fun Hd H σ E Q z => q1 Hd H σ E _ fun x Hd1 H1 g1 dx => q2 Hd1 H1 σ (E.up g1) _ fun y Hd2 H2 g2 dy => v1 Hd2 H2 x y g2.h ((E.up g1).up g2).tb (Dp.up dx g2.d) dy _ fun u Hd3 H3 g3 du => ?_⟩
  cases du
  refine ⟨k, rfl, ?_⟩
  cases k with
  | true =>
    refine iteT (q3 Hd3 H3 σ (((E.up g1).up g2).up g3) _ fun w Hd4 H4 g4 dw => v2 Hd4 H4 y w g4.h ((((E.up g1).up g2).up g3).up g4).tb (Dp.up dy (g3.trans g4).d) dw Q fun v Hd5 H5 g5 dv => z v Hd5 H5 ((((g1.trans g2).trans g3).trans g4).trans g5) dv)
  | false => exact iteF (z _ Hd3 H3 ((g1.trans g2).trans g3) (.bl false))
theorem td_chain (ha : PEd X tb a ds d) (hb : PEd X tb b ds e) (hc : PEd X tb c ds f) (h1 : CmpD X tb op d e k) (h2 : CmpD X tb op' e f l) (hm : lastMarks [op, op'] [b, c] = false := by with_unfolding_all rfl) : PTd X tb (.Compare a [op, op'] [b, c] pos) ds (k && l) := by
  obtain ⟨r1, o1, v1⟩ := h1.ex
  obtain ⟨r2, o2, v2⟩ := h2.ex
  obtain ⟨t1, p1, q1⟩ := ha
  obtain ⟨t2, p2, q2⟩ := hb
  obtain ⟨t3, p3, q3⟩ := hc
  refine ⟨_, pt_chain o1 o2 p1 p2 p3 hm, fun Hd H σ E Q z => q1 Hd H σ E _ fun x Hd1 H1 g1 dx => q2 Hd1 H1 σ (E.up g1) _ fun y Hd2 H2 g2 dy => v1 Hd2 H2 x y g2.h ((E.up g1).up g2).tb (Dp.up dx g2.d) dy _ fun u Hd3 H3 g3 du => ?_⟩
  cases du
  refine ⟨k, rfl, ?_⟩
  cases k with
  | true =>
    refine iteT (q3 Hd3 H3 σ (((E.up g1).up g2).up g3) _ fun w Hd4 H4 g4 dw => v2 Hd4 H4 y w g4.h ((((E.up g1).up g2).up g3).up g4).tb (Dp.up dy (g3.trans g4).d) dw _ fun v Hd5 H5 g5 dv => ?_)
    cases dv
    exact ⟨l, rfl, z Hd5 H5 ((((g1.trans g2).trans g3).trans g4).trans g5)⟩
  | false => exact iteF ⟨false, rfl, z Hd3 H3 ((g1.trans g2).trans g3)⟩
/-! ### truth -/
def TruD : PyData → Bool → Prop
  | .none, k => k = false
  | .bool b, k => k = b
  | .int i, k => k = (i != 0)
  | .list xs, k => k = !xs.isEmpty
  | .tuple xs, k => k = !xs.isEmpty
  | _, _ => False
/-! ### a module's whole number -/
theorem ed_gInt {x : Str} {i : Int} (h : ∃ t, X.mg x = some (.int i t)) (hg : Gl X x := by rfl) (hd : (x == ("__debug__" : Str)) = false := by decide) : PEd X tb (.Name x pos) ds (.int i) := let ⟨t, hm⟩ := h; ed_glob (v := .int i) hg hm ⟨t, rfl⟩ (fun _ => .int i) hd
/-- a module's tuple, list -/
theorem ed_gRef {x : Str} {A : Addr} (hm : X.mg x = some (.ref A)) (h : ∀ Hd, Dp X.K Hd (.ref A) d) (hg : Gl X x := by rfl) (hd : (x == ("__debug__" : Str)) = false := by decide) : PEd X tb (.Name x pos) ds d := ed_glob (v := .ref A) hg hm rfl h hd
end
end DL
namespace DL
open PySem PySem.Spec PyProof.Rows L2
section
variable {X : Cx} {tb : List Addr} {W : WX'} {ds es : List Sl} {d e f : PyData} {a b c iter elt : Expr} {pos p px : Pos} {x : Str}
theorem item_lo {xs : List PyData} {i : Int} (h0 : 0 ≤ i) (h1 : i < xs.length) : ItemD X tb (.list xs) (.int i) (xs.getD i.toNat .none) := item_l (by
  have e : i = ((i.toNat : Nat) : Int) := by omega
  have hi : i.toNat < xs.length := by omega
  have q : atI xs ((i.toNat : Nat) : Int) = some xs[i.toNat] := atI_nat (List.getElem?_eq_getElem hi)
  rw [← e] at q
  rw [q, List.getD_eq_getElem?_getD, List.getElem?_eq_getElem hi] <;> rfl)
theorem item_so {z : Str} {i : Int} (hl : z.length ≤ 16000000) (h0 : 0 ≤ i) (h1 : i < z.length) : ItemD X tb (.str z) (.int i) (.str ⟨#[z.cps.toList.getD i.toNat 0]⟩) := item_s hl (by
  have e : i = ((i.toNat : Nat) : Int) := by omega
  have hl : z.cps.toList.length = z.length := by rw [Array.length_toList] <;> rfl
  have hi : i.toNat < z.cps.toList.length := by omega
  have q : atI z.cps.toList ((i.toNat : Nat) : Int) = some z.cps.toList[i.toNat] := atI_nat (List.getElem?_eq_getElem hi)
  rw [← e] at q
  rw [q, List.getD_eq_getElem?_getD, List.getElem?_eq_getElem hi] <;> rfl)
/-- items of a list of one kind -/
theorem item_lm {α : Type} {xs : List α} {g : α → PyData} {i : Int} {y : α} (h : atI xs i = some y) : ItemD X tb (.list (xs.map g)) (.int i) (g y) := item_l (by
  unfold atI at *
  rw [List.length_map]
  cases q : ixN xs.length i with
  | none =>
    rw [q] at h
    cases h
  | some j =>
    rw [q] at h
    have h' : xs[j]? = some y := h
    show (xs.map g)[j]? = some (g y)
    rw [List.getElem?_map, h'] <;> rfl)
theorem cutD_map {α β : Type} (g : α → β) (xs : List α) (l u : Option Int) : cutD (xs.map g) l u = (cutD xs l u).map g := by
  unfold cutD
  rw [List.length_map, List.map_take, List.map_drop]
theorem slc_lm {α : Type} {xs : List α} {g : α → PyData} {l u : Option Int} : SlcD X (.list (xs.map g)) l u (.list ((cutD xs l u).map g)) := by
  rw [← cutD_map]
  exact slc_l
theorem bin_catm {α : Type} {xs ys : List α} {g : α → PyData} (h : xs.length + ys.length ≤ 16000000) : BinD X tb .Add (.list (xs.map g)) (.list (ys.map g)) (.list ((xs ++ ys).map g)) := by
  rw [List.map_append]
  exact bin_cat (by rw [List.length_map, List.length_map]; exact h)
theorem len_lm {α : Type} {xs : List α} {g : α → PyData} : LenD X (.list (xs.map g)) xs.length := len_l (List.length_map _)
theorem len_sn {z : Str} {n : Nat} (e : z.length = n) (h : n ≤ 16000000) : LenD X (.str z) n := e ▸ len_s (by rw [e]; exact h)
/-- the slices that one meets -/
theorem cut_init {α : Type} (xs : List α) : cutD xs none (some (-1)) = xs.dropLast := by
  unfold cutD
  rw [HT.sIx_none, List.drop_zero, Nat.sub_zero]
  cases xs with
  | nil => rfl
  | cons x r =>
    have e : HT.sIx (x :: r).length (x :: r).length (some (-1)) = (x :: r).length - 1 := by
      unfold HT.sIx
      simp only [List.length_cons]
      rw [if_pos (by decide)]
      omega
    rw [e, List.dropLast_eq_take]
theorem cut_init2 {α : Type} (xs : List α) : cutD xs none (some (-2)) = xs.take (xs.length - 2) := by
  unfold cutD
  rw [HT.sIx_none, List.drop_zero, Nat.sub_zero]
  have e : HT.sIx xs.length xs.length (some (-2)) = xs.length - 2 := by
    unfold HT.sIx
    simp only
    rw [if_pos (by decide)]
    omega
  rw [e]
theorem cut_nat {α : Type} (xs : List α) (i j : Nat) : cutD xs (some (i : Int)) (some (j : Int)) = (xs.drop i).take (j - i) := by
  unfold cutD
  rw [HT.sIx_nat, HT.sIx_nat]
  by_cases h : i ≤ xs.length
  · rw [Nat.min_eq_left h]
    by_cases h2 : j ≤ xs.length
    · rw [Nat.min_eq_left h2]
    · rw [Nat.min_eq_right (a := j) (by omega), List.take_of_length_le (by rw [List.length_drop]; exact Nat.le_refl _), List.take_of_length_le (by rw [List.length_drop]; omega)]
  · rw [Nat.min_eq_right (a := i) (by omega), List.drop_eq_nil_of_le (Nat.le_refl _), List.drop_eq_nil_of_le (by omega), List.take_nil, List.take_nil]
theorem cut_all {α : Type} (xs : List α) (i : Nat) : cutD xs (some (i : Int)) none = xs.drop i := by
  unfold cutD
  rw [HT.sIx_nat, HT.sIx_none]
  by_cases h : i ≤ xs.length
  · rw [Nat.min_eq_left h, List.take_of_length_le (by rw [List.length_drop]; omega)]
  · rw [Nat.min_eq_right (by omega), List.drop_eq_nil_of_le (Nat.le_refl _), List.drop_eq_nil_of_le (by omega), List.take_nil]
/-- .. of texts, by their signs -/
theorem cutS_cut (z : Str) (l u : Option Int) : (cutS z l u).cps.toList = cutD z.cps.toList l u := by
  unfold cutS cutD
  rw [show z.length = z.cps.toList.length by rw [Array.length_toList] <;> rfl]
theorem str_len (z : Str) : z.length = z.cps.toList.length := by rw [Array.length_toList] <;> rfl
theorem str_app (x y : Str) : (x ++ y).cps.toList = x.cps.toList ++ y.cps.toList := by
  show (⟨x.cps ++ y.cps⟩ : Str).cps.toList = _
  rw [Array.toList_append]
/-- a comprehension without a test -/
theorem ed_lcY {α : Type} {scope : Scope} (j : Nat) (ys : List α) (enc F : α → PyData) (hc : X.calm = true) (hN : X.N.Nodup) (hi : PId X tb (.Name x px) iter ds (ys.map enc)) (hlen : ys.length ≤ 1000000) (ok : BlkOk X.N X.env.scope scope [(x, j)])
    (hg : ∀ (s : Shared) (H : Hp) (C : Addr) (cl : List (Str × Addr)) (fp : List Addr), PG (X.blk s H scope (compEnvC scope cl C X.env) fp) (.Name x px) (gName j))
    (he : ∀ y ∈ ys, ∀ (s : Shared) (H : Hp) (C : Addr) (cl : List (Str × Addr)) (fp : List Addr), PEd (X.blk s H scope (compEnvC scope cl C X.env) fp) tb elt (ds.set j (.dat (enc y))) (F y))
    (hs : ∀ x, foldedSetIterable iter X.env x = pure x := by intro _; rfl) : PEd X tb (.ListComp elt [⟨.Name x px, iter, [], 0⟩] scope pos) ds (.list (ys.map F)) := by
  have z := ed_lcX (pos := pos) j ys enc F (fun _ => true) hc hN hi hlen ok hg (fun y hy s H C cl fp => ⟨tYes, pts_nil, fun Hd H σ E Q z => z Hd H (Gr.refl E.dh)⟩) (fun y hy _ => he y hy) hs
  rwa [List.filter_eq_self.mpr fun _ _ => rfl] at z
end
end DL
namespace DL
open PySem PySem.Spec PyProof.Rows L2
/-- es says no more than ds -/
inductive Wk : List Sl → List Sl → Prop where
  | nil : Wk [] []
  | same (s : Sl) {ds es : List Sl} : Wk ds es → Wk (s :: ds) (s :: es)
  | no (s : Sl) {ds es : List Sl} : Wk ds es → Wk (s :: ds) (.no :: es)
theorem Wk.len : ∀ {ds es : List Sl}, Wk ds es → ds.length = es.length
  | _, _, .nil => rfl
  | _, _, .same _ h => congrArg (· + 1) h.len
  | _, _, .no _ h => congrArg (· + 1) h.len
theorem Wk.get : ∀ {ds es : List Sl} {i : Nat} {s : Sl}, Wk ds es → es[i]? = some s → s = .no ∨ ds[i]? = some s
  | _, _, _, _, .nil, e => by simp at e
  | _, _, 0, _, .same s h, e => .inr e
  | _, _, 0, _, .no s h, e => .inl (by simpa using e.symm)
  | _, _, i + 1, _, .same s h, e => Wk.get (i := i) h (by simpa using e)
  | _, _, i + 1, _, .no s h, e => Wk.get (i := i) h (by simpa using e)
theorem Wk.lt {ds es : List Sl} (h : Wk ds es) {i : Nat} {s : Sl} (e : es[i]? = some s) : i < ds.length := by rw [h.len]; exact (List.getElem?_eq_some_iff.mp e).1
theorem State.wk {K : PySem.W.Frag} {tb : List Addr} {Hd0 H0 Hd H : Hp} {σ : L2.St} {ds es : List Sl} (S : State K tb Hd0 H0 Hd H σ ds) (h : Wk ds es) : State K tb Hd0 H0 Hd H σ es := by
  refine ⟨⟨S.env.len.trans h.len, S.env.dh, S.env.tb, fun i s e => ?_, fun i j xs ys a n e1 e2 e3 e4 => ?_⟩, S.gr, fun i xs a e1 e2 => ?_⟩
  · rcases h.get e with z | z
    · subst z
      have hi := h.lt e
      rw [← S.env.len] at hi
      refine ⟨_, List.getElem?_eq_getElem hi, ?_⟩
      cases σ[i] <;> trivial
    · exact S.env.sl i s z
  · rcases h.get e1 with z | z1
    · cases z
    · rcases h.get e2 with z | z2
      · cases z
      · exact S.env.ap i j xs ys a n z1 z2 e3 e4
  · rcases h.get e1 with z | z
    · cases z
    · exact S.fr i xs a z e2
section
variable {X : Cx} {tb : List Addr} {W : WX'} {ds es fs : List Sl} {st : Stmt} {body : List Stmt} {o : Out}
theorem bd_wk (h : PBd X tb W body ds (.nx es)) (w : Wk es fs) : PBd X tb W body ds (.nx fs) := let ⟨t, p, q⟩ := h; ⟨t, p, fun Hd0 H0 Hd H σ D S z => q Hd0 H0 Hd H σ D S fun σ' Hd' H' S' s => z σ' Hd' H' (S'.wk w) s⟩
theorem bd_wkPre (h : PBd X tb W body fs o) (w : Wk ds fs) : PBd X tb W body ds o := let ⟨t, p, q⟩ := h; ⟨t, p, fun Hd0 H0 Hd H σ D S z => q Hd0 H0 Hd H σ D (S.wk w) z⟩
theorem sd_wkPre (h : PSd X tb W st fs o) (w : Wk ds fs) : PSd X tb W st ds o := let ⟨t, p, q⟩ := h; ⟨t, p, fun Hd0 H0 Hd H σ D S z => q Hd0 H0 Hd H σ D (S.wk w) z⟩
end
end DL
/-! LM: what the helpers that all laws share compute, in plain Lean. -/
namespace LM
open PySem L2 DL
/-! ### names -/
def letters : Str := "abcdefghijklmnopqrstuvwxyz"
def letAt (i : Int) : Nat := letters.cps.toList.getD i.toNat 0
theorem letters_len : letters.length = 26 := by decide +kernel
def NmOk (w : Str) : Prop := 1 ≤ w.length ∧ w.length ≤ 8 ∧ ∀ c ∈ w.cps.toList, 97 ≤ c ∧ c ≤ 122
theorem let_ok : ∀ n : Nat, n < 26 → 97 ≤ letters.cps.toList.getD n 0 ∧ letters.cps.toList.getD n 0 ≤ 122 := by decide +kernel
theorem letAt_ok {i : Int} (h0 : 0 ≤ i) (h1 : i < 26) : 97 ≤ letAt i ∧ letAt i ≤ 122 := let_ok i.toNat (by omega)
theorem let_occ : ∀ n : Nat, n < 26 → Builtin.Str.occurrences letters ⟨#[letters.cps.toList.getD n 0]⟩ 0 letters.length 1 = [n] := by decide +kernel
def sizeN (seed : Int) : Int := 1 + seed % 8
theorem sizeN_lo (seed : Int) : 1 ≤ sizeN seed ∧ sizeN seed ≤ 8 := by unfold sizeN; omega
/-- the sign at place j ahead of the change -/
def sgnIx (seed : Int) (j : Nat) : Int := (seed / 8 + 5 * (j : Int) + (j : Int) * (j : Int)) % 26
def oneS (c : Nat) : Str := ⟨#[c]⟩
def wordParts (seed : Int) : List Str := (List.range (sizeN seed).toNat).map fun j => oneS (letAt (sgnIx seed j))
def word0 (seed : Int) : Str := Txt.join "" (wordParts seed)
theorem sjoin_empty : ∀ ys : List Str, (Str.join "" ys).cps.toList = (ys.map fun y => y.cps.toList).flatten
  | [] => rfl
  | [y] => by
    show y.cps.toList = _
    simp
  | y :: z :: r => by
    have ih := sjoin_empty (z :: r)
    have e : Str.join "" (y :: z :: r) = (y ++ ("" : Str)) ++ Str.join "" (z :: r) := rfl
    have e2 : ("" : Str).cps.toList = [] := rfl
    rw [e, str_app, str_app, ih, e2, List.append_nil]
    rfl
theorem join_empty (ys : List Str) : (Txt.join "" ys).cps.toList = (ys.map fun y => y.cps.toList).flatten := by
  rw [show Txt.join "" ys = Str.join "" ys from PySem.StrLaws.glued_eq_join "" ys, sjoin_empty]
theorem word0_list (seed : Int) : (word0 seed).cps.toList = (List.range (sizeN seed).toNat).map fun j => letAt (sgnIx seed j) := by
  unfold word0 wordParts
  rw [join_empty, List.map_map]
  show ((List.range (sizeN seed).toNat).map fun j => [letAt (sgnIx seed j)]).flatten = _
  rw [← List.flatMap_def]
  induction (List.range (sizeN seed).toNat) with
  | nil => rfl
  | cons x r ih => rw [List.flatMap_cons, ih, List.map_cons] <;> rfl
theorem word0_len (seed : Int) : (word0 seed).length = (sizeN seed).toNat := by
  rw [str_len, word0_list, List.length_map, List.length_range]
def spotN (seed : Int) : Int := seed / 208 % sizeN seed
theorem spotN_lo (seed : Int) : 0 ≤ spotN seed ∧ spotN seed < sizeN seed := by
  have h := sizeN_lo seed
  unfold spotN
  exact ⟨Int.emod_nonneg _ (by omega), Int.emod_lt_of_pos _ (by omega)⟩
def signN (seed k : Int) : Str := oneS (letAt ((sgnIx seed (spotN seed).toNat + k * (1 + seed / 1664 % 8)) % 26))
def nameBy (seed k : Int) : Str :=
  if k = 2 ∧ seed / 13312 % 2 = 1 ∧ sizeN seed < 8 then word0 seed ++ signN seed k
  else cutS (word0 seed) none (some (spotN seed)) ++ signN seed k ++ cutS (word0 seed) (some (spotN seed + 1)) none
theorem word0_ok (seed : Int) : ∀ c ∈ (word0 seed).cps.toList, 97 ≤ c ∧ c ≤ 122 := fun c hc => by
  rw [word0_list] at hc
  obtain ⟨j, _, rfl⟩ := List.mem_map.mp hc
  exact letAt_ok (Int.emod_nonneg _ (by decide)) (Int.emod_lt_of_pos _ (by decide))
theorem signN_ok (seed k : Int) : ∀ c ∈ (signN seed k).cps.toList, 97 ≤ c ∧ c ≤ 122 := fun c hc => by
  have e : c = letAt ((sgnIx seed (spotN seed).toNat + k * (1 + seed / 1664 % 8)) % 26) := by
    simpa [signN, oneS] using hc
  rw [e]
  exact letAt_ok (Int.emod_nonneg _ (by decide)) (Int.emod_lt_of_pos _ (by decide))
theorem mem_cut {α : Type} {xs : List α} {l u : Option Int} {x : α} (h : x ∈ cutD xs l u) : x ∈ xs := List.mem_of_mem_drop (List.mem_of_mem_take h)
theorem signN_len (seed k : Int) : (signN seed k).length = 1 := rfl
theorem app_len (x y : Str) : (x ++ y).length = x.length + y.length := by rw [str_len, str_len, str_len, str_app, List.length_append]
theorem nameBy_ok (seed k : Int) : NmOk (nameBy seed k) := by
  have hs := sizeN_lo seed
  have hp := spotN_lo seed
  unfold nameBy
  split
  · rename_i h
    refine ⟨?_, ?_, fun c hc => ?_⟩
    · rw [app_len, word0_len, signN_len]; omega
    · rw [app_len, word0_len, signN_len]; omega
    · rw [str_app] at hc
      rcases List.mem_append.mp hc with hc | hc
      · exact word0_ok seed c hc
      · exact signN_ok seed k c hc
  · have l1 : (cutS (word0 seed) none (some (spotN seed))).length = (spotN seed).toNat := by
      rw [str_len, cutS_cut]
      have e : spotN seed = (((spotN seed).toNat : Nat) : Int) := by omega
      have e2 : cutD (word0 seed).cps.toList none (some (spotN seed)) = (word0 seed).cps.toList.take (spotN seed).toNat := by
        rw [e]
        unfold cutD
        rw [HT.sIx_none, HT.sIx_nat, List.drop_zero, Nat.sub_zero]
        rw [Int.toNat_natCast, ← str_len, word0_len, Nat.min_eq_left (by omega)]
      rw [e2, List.length_take, ← str_len, word0_len]
      omega
    have l2 : (cutS (word0 seed) (some (spotN seed + 1)) none).length = (sizeN seed).toNat - ((spotN seed).toNat + 1) := by
      rw [str_len, cutS_cut]
      have e : spotN seed + 1 = (((spotN seed).toNat + 1 : Nat) : Int) := by omega
      rw [e, cut_all, List.length_drop, ← str_len, word0_len]
    refine ⟨?_, ?_, fun c hc => ?_⟩
    · rw [app_len, app_len, signN_len]; omega
    · rw [app_len, app_len, signN_len, l1, l2]; omega
    · rw [str_app, str_app] at hc
      rcases List.mem_append.mp hc with hc | hc
      · rcases List.mem_append.mp hc with hc | hc
        · rw [cutS_cut] at hc
          exact word0_ok seed c (mem_cut hc)
        · exact signN_ok seed k c hc
      · rw [cutS_cut] at hc
        exact word0_ok seed c (mem_cut hc)

/-! ### statements -/
inductive Op where
  | and | or | thn
  deriving DecidableEq
inductive S where
  | nm (w : Str)
  | fls
  | bin (o : Op) (a b : S)
  deriving DecidableEq
def Op.word : Op → Str
  | .and => "and"
  | .or => "or"
  | .thn => "then"
def enc : S → PyData
  | .nm w => .tuple [.str "name", .str w]
  | .fls => .tuple [.str "false"]
  | .bin o a b => .tuple [.str o.word, enc a, enc b]
def dep : S → Nat
  | .nm _ => 1
  | .fls => 1
  | .bin _ a b => max (dep a) (dep b) + 1
/-- all names in it are names -/
def Ok : S → Prop
  | .nm w => NmOk w
  | .fls => True
  | .bin _ a b => Ok a ∧ Ok b
def opAt (i : Int) : Op := match i % 4 with
  | 0 => .and
  | 1 => .or
  | _ => .thn
def joined (way : Int) (one other : S) : S := if way / 4 % 2 = 1 then .bin (opAt way) other one else .bin (opAt way) one other
def stepP (seed : Int) (pile : List S) (cell : Int) : List S :=
  if cell % 10 = 4 then pile ++ [.fls]
  else if cell % 10 = 5 ∧ 0 < pile.length then pile ++ [pile.getD (cell / 10 % (pile.length : Int)).toNat .fls]
  else if cell % 10 = 6 ∧ 0 < pile.length then pile.dropLast ++ [.bin .thn (pile.getLastD .fls) .fls]
  else if 6 < cell % 10 ∧ 1 < pile.length then pile.take (pile.length - 2) ++ [joined (cell / 10) (pile.getD (pile.length - 2) .fls) (pile.getLastD .fls)]
  else pile ++ [.nm (nameBy seed (cell / 10 % 4))]
def pileOf (seed : Int) (cells : List Int) : List S := cells.foldl (stepP seed) []
/-- the last two under a then -/
def fT (p : List S) : List S := p.take (p.length - 2) ++ [.bin .thn (p.getD (p.length - 2) .fls) (p.getLastD .fls)]
def thens : Nat → List S → List S
  | 0, p => p
  | n + 1, p => fT (thens n p)
def stBy (cells : List Int) (seed : Int) : S :=
  let p := pileOf seed cells
  match thens (p.length - 1) p with
  | [] => .nm (nameBy seed 0)
  | s :: _ => s
theorem op_item (way : Int) : ([.str "and", .str "or", .str "then", .str "then"] : List PyData).getD (way % 4).toNat .none = .str (opAt way).word := by
  have h0 : 0 ≤ way % 4 := Int.emod_nonneg _ (by decide)
  have h1 : way % 4 < 4 := Int.emod_lt_of_pos _ (by decide)
  unfold opAt
  generalize way % 4 = i at h0 h1
  have h : i = 0 ∨ i = 1 ∨ i = 2 ∨ i = 3 := by omega
  rcases h with rfl | rfl | rfl | rfl <;> rfl
theorem stepP_len (seed : Int) (p : List S) (c : Int) : (stepP seed p c).length ≤ p.length + 1 := by
  unfold stepP
  split
  · simp
  · split
    · simp
    · split
      · rw [List.length_append, List.length_dropLast]; simp
      · split
        · rw [List.length_append, List.length_take]; simp <;> omega
        · simp
theorem fold_len (seed : Int) : ∀ (cs : List Int) (p : List S), (cs.foldl (stepP seed) p).length ≤ p.length + cs.length
  | [], p => Nat.le_refl _
  | c :: cs, p => by
    have h1 := fold_len seed cs (stepP seed p c)
    have h2 := stepP_len seed p c
    show (cs.foldl (stepP seed) (stepP seed p c)).length ≤ _
    rw [List.length_cons]
    omega
theorem pileOf_len (seed : Int) (cs : List Int) : (pileOf seed cs).length ≤ cs.length := by
  have h := fold_len seed cs []
  rw [List.length_nil, Nat.zero_add] at h
  exact h
theorem getLastD_last {p : List S} (h : 0 < p.length) : atI p (-1) = some (p.getLastD .fls) := by
  obtain ⟨q, x, rfl⟩ : ∃ q x, p = q ++ [x] := ⟨p.dropLast, p.getLast (List.ne_nil_of_length_pos h), (List.dropLast_concat_getLast _).symm⟩
  rw [atI_last]
  simp
theorem atI_two {p : List S} (h : 1 < p.length) : atI p (-2) = some (p.getD (p.length - 2) .fls) := by
  unfold atI ixN
  rw [if_neg (by decide), if_pos (by omega)]
  have e : (-2 + (p.length : Int)).toNat = p.length - 2 := by omega
  show p[(-2 + (p.length : Int)).toNat]? = _
  rw [e, List.getD_eq_getElem?_getD, List.getElem?_eq_getElem (by omega)] <;> rfl
theorem atI_pos {α : Type} {p : List α} {i : Int} (d : α) (h0 : 0 ≤ i) (h1 : i < p.length) : atI p i = some (p.getD i.toNat d) := by
  have e : i = ((i.toNat : Nat) : Int) := by omega
  have hi : i.toNat < p.length := by omega
  have q : atI p ((i.toNat : Nat) : Int) = some p[i.toNat] := atI_nat (List.getElem?_eq_getElem hi)
  rw [← e] at q
  rw [q, List.getD_eq_getElem?_getD, List.getElem?_eq_getElem hi] <;> rfl
theorem fT_len {p : List S} (h : 1 < p.length) : (fT p).length = p.length - 1 := by
  unfold fT
  rw [List.length_append, List.length_take]
  simp <;> omega
theorem thens_len (p : List S) : ∀ n : Nat, n < p.length → (thens n p).length = p.length - n
  | 0, _ => rfl
  | n + 1, h => by
    have ih := thens_len p n (by omega)
    show (fT (thens n p)).length = _
    rw [fT_len (by omega), ih]
    omega
/-! ### depth: at most one a cell -/
def deps : List S → Nat
  | [] => 0
  | s :: r => max (dep s) (deps r)
theorem dep_pos : ∀ s : S, 1 ≤ dep s
  | .nm _ => Nat.le_refl _
  | .fls => Nat.le_refl _
  | .bin _ _ _ => Nat.le_add_left _ _
theorem deps_le {p : List S} {n : Nat} : deps p ≤ n ↔ ∀ s ∈ p, dep s ≤ n := by
  induction p with
  | nil => simp [deps]
  | cons x r ih => simp only [deps, List.mem_cons, forall_eq_or_imp, Nat.max_le, ih]
theorem mem_getD {p : List S} {i : Nat} (h : i < p.length) : p.getD i .fls ∈ p := by
  rw [List.getD_eq_getElem?_getD, List.getElem?_eq_getElem h]
  exact List.getElem_mem h
theorem mem_last {p : List S} (h : 0 < p.length) : p.getLastD .fls ∈ p := by
  obtain ⟨q, x, rfl⟩ : ∃ q x, p = q ++ [x] := ⟨p.dropLast, p.getLast (List.ne_nil_of_length_pos h), (List.dropLast_concat_getLast _).symm⟩
  simp
/-- a pile whose length and depth together stay below n + 1, all of it well named -/
def Pl (n : Nat) (p : List S) : Prop := p.length + deps p ≤ n + 1 ∧ ∀ s ∈ p, Ok s
theorem joined_dep (way : Int) (a b : S) : dep (joined way a b) = max (dep a) (dep b) + 1 := by
  unfold joined
  split
  · show max (dep b) (dep a) + 1 = _
    rw [Nat.max_comm]
  · rfl
theorem joined_ok {way : Int} {a b : S} (ha : Ok a) (hb : Ok b) : Ok (joined way a b) := by
  unfold joined
  split
  · exact ⟨hb, ha⟩
  · exact ⟨ha, hb⟩
theorem stepP_pl (seed : Int) {n : Nat} {p : List S} (c : Int) (h : Pl n p) : Pl (n + 1) (stepP seed p c) := by
  obtain ⟨hl, ho⟩ := h
  have hd : ∀ s ∈ p, dep s ≤ deps p := deps_le.mp (Nat.le_refl _)
  have e0 : p = [] → deps p = 0 := fun e => by rw [e] <;> rfl
  have pos : 0 < p.length → 1 ≤ deps p := fun hp => Nat.le_trans (dep_pos _) (hd _ (mem_last hp))
  have push : ∀ s : S, dep s ≤ max 1 (deps p) → Ok s → Pl (n + 1) (p ++ [s]) := fun s h1 h2 => by
    refine ⟨?_, fun t ht => ?_⟩
    · have : deps (p ++ [s]) ≤ max 1 (deps p) := deps_le.mpr fun t ht => by
        rcases List.mem_append.mp ht with ht | ht
        · exact Nat.le_trans (hd t ht) (Nat.le_max_right _ _)
        · rw [List.mem_singleton.mp ht]; exact h1
      rw [List.length_append, List.length_singleton]
      by_cases z : 0 < p.length
      · have := pos z
        omega
      · have := e0 (List.eq_nil_of_length_eq_zero (by omega))
        omega
    · rcases List.mem_append.mp ht with ht | ht
      · exact ho t ht
      · rw [List.mem_singleton.mp ht]; exact h2
  unfold stepP
  split
  · exact push _ (Nat.le_max_left _ _) trivial
  · split
    · rename_i z
      have r0 : 0 ≤ c / 10 % (p.length : Int) := Int.emod_nonneg _ (by omega)
      have r1 : c / 10 % (p.length : Int) < p.length := Int.emod_lt_of_pos _ (by omega)
      have m := mem_getD (p := p) (i := (c / 10 % (p.length : Int)).toNat) (by omega)
      exact push _ (Nat.le_trans (hd _ m) (Nat.le_max_right _ _)) (ho _ m)
    · split
      · rename_i z
        have hp := pos z.2
        have m := mem_last z.2
        refine ⟨?_, fun t ht => ?_⟩
        · have : deps (p.dropLast ++ [.bin .thn (p.getLastD .fls) .fls]) ≤ deps p + 1 := deps_le.mpr fun t ht => by
            rcases List.mem_append.mp ht with ht | ht
            · exact Nat.le_succ_of_le (hd t (List.dropLast_subset _ ht))
            · rw [List.mem_singleton.mp ht]
              show max (dep _) 1 + 1 ≤ _
              have := hd _ m
              omega
          rw [List.length_append, List.length_dropLast, List.length_singleton]
          omega
        · rcases List.mem_append.mp ht with ht | ht
          · exact ho t (List.dropLast_subset _ ht)
          · rw [List.mem_singleton.mp ht]
            exact ⟨ho _ m, trivial⟩
      · split
        · rename_i z
          have m1 := mem_last (p := p) (by omega)
          have m2 := mem_getD (p := p) (i := p.length - 2) (by omega)
          refine ⟨?_, fun t ht => ?_⟩
          · have : deps (p.take (p.length - 2) ++ [joined (c / 10) (p.getD (p.length - 2) .fls) (p.getLastD .fls)]) ≤ deps p + 1 := deps_le.mpr fun t ht => by
              rcases List.mem_append.mp ht with ht | ht
              · exact Nat.le_succ_of_le (hd t (List.mem_of_mem_take ht))
              · rw [List.mem_singleton.mp ht, joined_dep]
                have q1 := hd _ m1
                have q2 := hd _ m2
                omega
            rw [List.length_append, List.length_take, List.length_singleton]
            omega
          · rcases List.mem_append.mp ht with ht | ht
            · exact ho t (List.mem_of_mem_take ht)
            · rw [List.mem_singleton.mp ht]
              exact joined_ok (ho _ m2) (ho _ m1)
        · exact push _ (Nat.le_max_left _ _) (nameBy_ok _ _)
theorem fold_pl (seed : Int) : ∀ (cs : List Int) (n : Nat) (p : List S), Pl n p → Pl (n + cs.length) (cs.foldl (stepP seed) p)
  | [], n, p, h => h
  | c :: cs, n, p, h => by
    have q := fold_pl seed cs (n + 1) (stepP seed p c) (stepP_pl seed c h)
    have e : n + (c :: cs).length = n + 1 + cs.length := by
      rw [List.length_cons]; omega
    rw [e]
    exact q
theorem pileOf_pl (seed : Int) (cs : List Int) : Pl cs.length (pileOf seed cs) := by
  have h := fold_pl seed cs 0 [] ⟨Nat.zero_le _, fun _ h => absurd h (by simp)⟩
  rw [Nat.zero_add] at h
  exact h
theorem fT_pl {n : Nat} {p : List S} (hl : 1 < p.length) (h : Pl n p) : Pl n (fT p) := by
  obtain ⟨h1, ho⟩ := h
  have hd : ∀ s ∈ p, dep s ≤ deps p := deps_le.mp (Nat.le_refl _)
  have m1 := mem_last (p := p) (by omega)
  have m2 := mem_getD (p := p) (i := p.length - 2) (by omega)
  refine ⟨?_, fun t ht => ?_⟩
  · have : deps (fT p) ≤ deps p + 1 := deps_le.mpr fun t ht => by
      rcases List.mem_append.mp ht with ht | ht
      · exact Nat.le_succ_of_le (hd t (List.mem_of_mem_take ht))
      · rw [List.mem_singleton.mp ht]
        show max _ _ + 1 ≤ _
        have q1 := hd _ m1
        have q2 := hd _ m2
        omega
    rw [fT_len hl]
    omega
  · rcases List.mem_append.mp ht with ht | ht
    · exact ho t (List.mem_of_mem_take ht)
    · rw [List.mem_singleton.mp ht]
      exact ⟨ho _ m2, ho _ m1⟩
theorem thens_pl {n : Nat} {p : List S} (h : Pl n p) : ∀ k : Nat, k < p.length → Pl n (thens k p)
  | 0, _ => h
  | k + 1, hk => fT_pl (by rw [thens_len p k (by omega)]; omega) (thens_pl h k (by omega))
theorem stBy_ok (cs : List Int) (seed : Int) : Ok (stBy cs seed) ∧ dep (stBy cs seed) ≤ max 1 cs.length := by
  unfold stBy
  by_cases hp : 0 < (pileOf seed cs).length
  · have q := thens_pl (pileOf_pl seed cs) ((pileOf seed cs).length - 1) (by omega)
    have l := thens_len (pileOf seed cs) ((pileOf seed cs).length - 1) (by omega)
    simp only
    split
    · rename_i e
      rw [e] at l
      simp at l
      omega
    · rename_i s r e
      rw [e] at q
      obtain ⟨q1, q2⟩ := q
      refine ⟨q2 s List.mem_cons_self, ?_⟩
      have : dep s ≤ deps (s :: r) := Nat.le_max_left _ _
      rw [List.length_cons] at q1
      omega
  · have e : pileOf seed cs = [] := List.eq_nil_of_length_eq_zero (by omega)
    rw [e]
    exact ⟨nameBy_ok _ _, Nat.le_max_left _ _⟩
/-! ### what == takes -/
theorem nm_strOk {w : Str} (h : NmOk w) : PyData.strOk w = true := by
  unfold PyData.strOk
  rw [← Array.all_toList, List.all_eq_true]
  intro c hc
  have := (h.2.2 c hc).2
  exact decide_eq_true (by omega)
theorem op_strOk (o : Op) : PyData.strOk o.word = true := by cases o <;> decide +kernel
theorem enc_lay : ∀ s : S, Ok s → (enc s).canLay0 = true
  | .nm w, h => by
    have z := nm_strOk h
    show PyData.canLay0 (.tuple [.str "name", .str w]) = true
    simp only [PyData.canLay0, PyData.canLayAll0, z, Bool.and_true]
    decide +kernel
  | .fls, _ => by decide +kernel
  | .bin o a b, h => by
    have z := op_strOk o
    show PyData.canLay0 (.tuple [.str o.word, enc a, enc b]) = true
    simp only [PyData.canLay0, PyData.canLayAll0, z, enc_lay a h.1, enc_lay b h.2, Bool.and_true]
theorem enc_depth : ∀ s : S, (enc s).depth ≤ dep s
  | .nm _ => Nat.le_refl _
  | .fls => Nat.le_refl _
  | .bin o a b => by
    have ha := enc_depth a
    have hb := enc_depth b
    show PyData.depth (.tuple [.str o.word, enc a, enc b]) ≤ max (dep a) (dep b) + 1
    simp only [PyData.depth, PyData.depthAll]
    omega
theorem enc_shaped {s : S} (h : Ok s) (hd : dep s ≤ 64) : SeqAt.shaped (enc s) = true := by
  unfold SeqAt.shaped
  rw [enc_lay s h, decide_eq_true (Nat.le_trans (enc_depth s) hd)] <;> rfl
theorem encs_lay : ∀ p : List S, (∀ s ∈ p, Ok s) → PyData.canLayAll0 (p.map enc) = true
  | [], _ => rfl
  | s :: r, h => by
    show (PyData.canLay0 (enc s) && PyData.canLayAll0 (r.map enc)) = true
    rw [enc_lay s (h s List.mem_cons_self), encs_lay r fun t ht => h t (List.mem_cons_of_mem _ ht)] <;> rfl
theorem encs_depth : ∀ p : List S, PyData.depthAll (p.map enc) ≤ deps p
  | [] => Nat.le_refl _
  | s :: r => by
    have h1 := enc_depth s
    have h2 := encs_depth r
    show max (PyData.depth (enc s)) (PyData.depthAll (r.map enc)) ≤ max (dep s) (deps r)
    omega
theorem encs_shaped {p : List S} (h : ∀ s ∈ p, Ok s) (hd : deps p ≤ 63) : SeqAt.shaped (.list (p.map enc)) = true := by
  unfold SeqAt.shaped
  have e1 : PyData.canLay0 (.list (p.map enc)) = true := encs_lay p h
  have e2 : PyData.depth (.list (p.map enc)) ≤ 64 := by
    have := encs_depth p
    show PyData.depthAll (p.map enc) + 1 ≤ 64
    omega
  rw [e1, decide_eq_true e2] <;> rfl
theorem eqv_nil (xs : List PyData) : PyData.eqv (.list xs) (.list []) = xs.isEmpty := by
  cases xs <;> rfl
end LM
namespace DL
open PySem PySem.Spec PyProof.Rows L2

section
variable {X : Cx} {tb : List Addr} {W : WX'} {ds es : List Sl} {d e f : PyData} {a b : Expr} {pos pos' pos1 p px py : Pos} {x y : Str}
theorem ItemD.is {g : PyData} (h : ItemD X tb d e f) (q : f = g) : ItemD X tb d e g := q ▸ h
theorem CmpD.is {op : CmpOp} {k l : Bool} (h : CmpD X tb op d e k) (q : k = l) : CmpD X tb op d e l := q ▸ h
/-! ### a, b = a pair -/
theorem sd_unpack (i j : Nat) {kk : Nat} {d1 d2 : PyData} (h : PEd X tb a ds (.tuple [d1, d2])) (hc : X.calm = true) (hN : X.N.Nodup) (hi : X.N[i]? = some x := by rfl) (hj : X.N[j]? = some y := by rfl) (hx : locB X.env.scope x = true := by rfl) (hy : locB X.env.scope y = true := by rfl)
    (hfx : X.fn x = true ∨ X.env.scope.names.lookup x = some .local := by first | exact .inl rfl | exact .inr rfl) (hfy : X.fn y = true ∨ X.env.scope.names.lookup y = some .local := by first | exact .inl rfl | exact .inr rfl)
    (h1 : (assignEach [.Name x px, .Name y py] X.env).length = 2 := by rfl) (h2 : (assignEach [.Name x px, .Name y py] X.env).findIdx? (·.1) = none := by rfl)
    (h3 : (assignEach [.Name x px, .Name y py] X.env).map (·.2) = assign (.Name x px) X.env :: (assignEach [.Name y py] X.env).map (·.2) := by rfl) (h4 : (assignEach [.Name y py] X.env).map (·.2) = assign (.Name y py) X.env :: (assignEach [] X.env).map (·.2) := by rfl)
    (hs : swapsWithSole [.Tuple [.Name x px, .Name y py] kk pos1] a pos.line X.env = pure false := by rfl) (hw : swappedStores [.Tuple [.Name x px, .Name y py] kk pos1] a X.env = pure none := by rfl)
    (h5 : (assignEach [.Tuple [.Name x px, .Name y py] kk pos1] X.env).map (·.2) = [assign (.Tuple [.Name x px, .Name y py] kk pos1) X.env] := by rfl) :
    PSd X tb W (.Assign [.Tuple [.Name x px, .Name y py] kk pos1] a pos) ds (.nx ((ds.set i (.dat d1)).set j (.dat d2))) :=
  let ⟨_, p1, q1⟩ := h; ⟨_, ps_asg p1 (pg_tup hc (pgs_cons (pg_name hN hi (locB_ok hx) hfx) (pgs_cons (pg_name hN hj (locB_ok hy) hfy) pgs_nil h4) h3) h1 h2) hs hw h5, fun Hd0 H0 Hd H σ D S z => q1 Hd H σ S.env _ fun v Hd1 H1 g dv => by
    cases dv with
    | @tup A vs _ k1 k2 =>
      cases k2 with
      | cons m1 m2 =>
        cases m2 with
        | cons m3 m4 =>
          cases m4
          have S1 := (S.up g).set (i := i) (s := .dat d1) m1 fun _ z => nomatch z
          have S2 := S1.set (i := j) (s := .dat d2) m3 fun _ z => nomatch z
          exact ⟨A, _, rfl, st_sub g.h.s k1, rfl, _, _, rfl, _, _, rfl, rfl, z _ Hd1 H1 S2 g.d⟩⟩
/-! ### x += e, whole numbers -/
theorem sd_augAdd (i : Nat) {m n : Int} (h : PEd X tb a ds (.int n)) (hd : ds[i]? = some (.dat (.int m))) (hN : X.N.Nodup) (hi : X.N[i]? = some x := by rfl) (hx : locB X.env.scope x = true := by rfl) (hf : X.fn x = true ∨ X.env.scope.names.lookup x = some .local := by first | exact .inl rfl | exact .inr rfl) :
    PSd X tb W (.AugAssign (.Name x pos') .Add a pos) ds (.nx (ds.set i (.dat (.int (m + n))))) :=
  let ⟨_, p1, q1⟩ := h; ⟨_, ps_aug hN hi (locB_ok hx) p1 ip_add hf, fun Hd0 H0 Hd H σ D S z => by
    obtain ⟨v, e1, e2⟩ := S.env.dat hd
    cases e2
    refine ⟨.int m, e1, q1 Hd H σ S.env _ fun v Hd1 H1 g dv => ?_⟩
    cases dv
    exact ⟨m, n, rfl, rfl, z _ Hd1 H1 ((S.up g).set (i := i) (s := .dat (.int (m + n))) (.int _) fun _ z => nomatch z) g.d⟩⟩
/-! ### f-strings -/
theorem ed_fmt {z : Str} (h : PEd X tb a ds (.str z)) (hl : z.length ≤ 16000000) : PEd X tb (.FormattedValue a (-1) none pos) ds (.str z) := let ⟨_, p1, q1⟩ := h; ⟨_, pe_fmt p1, fun Hd H σ E Q k => q1 Hd H σ E _ fun v Hd1 H1 g dv => by
  cases dv
  exact .inl ⟨z, rfl, Nat.le_trans hl (by decide), k _ Hd1 H1 g (.str z)⟩⟩
theorem ed_fmtI {i : Int} (h : PEd X tb a ds (.int i)) (hl : i.natAbs.log2 < 1920) : PEd X tb (.FormattedValue a (-1) none pos) ds (.str (toString i)) := let ⟨_, p1, q1⟩ := h; ⟨_, pe_fmt p1, fun Hd H σ E Q k => q1 Hd H σ E _ fun v Hd1 H1 g dv => by
  cases dv
  exact .inr ⟨i, rfl, hl, k _ Hd1 H1 g (.str _)⟩⟩
inductive PJd (X : Cx) (tb : List Addr) (ds : List Sl) : List Expr → Str → Str → Prop where
  | nil (acc : Str) : PJd X tb ds [] acc acc
  | cons {a : Expr} {z acc out : Str} {r : List Expr} (h : PEd X tb a ds (.str z)) (hl : (acc ++ z).length ≤ 16000000) (k : PJd X tb ds r (acc ++ z) out) : PJd X tb ds (a :: r) acc out
theorem pjd_ts : ∀ {es : List Expr} {acc out : Str}, PJd X tb ds es acc out → ∃ ts, PJ X es ts ∧ ∀ (Hd H : Hp) (σ : L2.St), Env X.K tb Hd H σ ds → ∀ Q : Str → Hp → Prop, (∀ Hd' H', Gr Hd H Hd' H' → Q out H') → tJs ts acc σ H Q
  | _, _, _, .nil acc => ⟨[], .nil, fun Hd H σ E Q q => q Hd H (Gr.refl E.dh)⟩
  | _, _, _, .cons h hl k => by
    obtain ⟨t, p1, q1⟩ := h
    obtain ⟨ts, p2, q2⟩ := pjd_ts k
    refine ⟨t :: ts, .cons p1 p2, fun Hd H σ E Q q => q1 Hd H σ E _ fun v Hd1 H1 g dv => ?_⟩
    cases dv
    exact ⟨_, rfl, Nat.le_trans hl (by decide), q2 Hd1 H1 σ (E.up g) Q fun Hd2 H2 g2 => q Hd2 H2 (g.trans g2)⟩
theorem ed_fs {v1 v2 : Expr} {r : List Expr} {out : Str} (h : PJd X tb ds (v1 :: v2 :: r) Str.empty out) : PEd X tb (.JoinedStr (v1 :: v2 :: r) pos) ds (.str out) := by
  obtain ⟨ts, p1, q1⟩ := pjd_ts h
  exact ⟨_, pe_joined p1, fun Hd H σ E Q q => q1 Hd H σ E _ fun Hd1 H1 g => q _ Hd1 H1 g (.str out)⟩
/-! ### a dict of the module with text keys -/
theorem ix_kd {A : Addr} {es : Array DictEntry} {n : Nat} (D : KDict X.K X.w A es n) : IxR X (fun x y H Q => ∃ (z : Str) (u0 : Value) (v0 : V), x = .ref A ∧ y = .str z ∧ PySem.W.nsIn X.K A z = some (some u0) ∧ RelV v0 u0 ∧ Q v0 H) := by
  intro value slice pins s σ H x y v u Q I rx ry h hs
  have ex : v = .ref A := by
    obtain ⟨z, u0, v0, e1, _⟩ := h
    subst e1
    exact rx
  subst ex
  exact tail_any (kd_type D I) PySem.F.slot_dict_getitem.lookup (op_item_kd D pins s σ H x y _ u Q I rx ry h) hs
/-- SIGNS[word] -/
theorem ed_kdGet {A : Addr} {z : Str} {u : Value} {v : V} {xs : Array DictEntry} {n : Nat} (D : KDict X.K X.w A xs n) (hm : X.mg x = some (.ref A)) (hv : PySem.W.nsIn X.K A z = some (some u)) (r : RelV v u) (hd : ∀ Hd, Dp X.K Hd v d) (ha : PEd X tb a ds (.str z)) (hg : Gl X x := by rfl) (hdb : (x == ("__debug__" : Str)) = false := by decide) (hs : PlainIx a := by exact fun _ _ => rfl) :
    PEd X tb (.Subscript (.Name x px) a pos) ds d :=
  let ⟨_, p1, q1⟩ := ha; ⟨_, pe_ix (ix_kd D) (pe_glob (v := .ref A) hg hm rfl hdb) p1 hs, fun Hd H σ E Q k => q1 Hd H σ E _ fun w Hd1 H1 g dw => by
    cases dw
    exact ⟨z, u, v, rfl, rfl, hv, r, k v Hd1 H1 g (hd Hd1)⟩⟩
/-- TABLE.get(key): there or not -/
theorem ed_kdGetM {A : Addr} {z : Str} {u : Option Value} {v : V} {xs : Array DictEntry} {n : Nat} {apos : Pos} (D : KDict X.K X.w A xs n) (hm : X.mg x = some (.ref A)) (hv : PySem.W.nsIn X.K A z = some u) (r : RelV v (u.getD .none)) (hd : ∀ Hd, Dp X.K Hd v d) (ha : PEd X tb a ds (.str z)) (hg : Gl X x := by rfl) (hdb : (x == ("__debug__" : Str)) = false := by decide)
    (hbase : attributeBase (.Name x px) "get" X.env (eval (.Name x px) X.env) = eval (.Name x px) X.env := by rfl)
    (hfew : ((backTo pos (starEach [a] X.env)).all (fun x => !x.1) && (backToKw pos (keywordEach [] X.env)).all (fun x => x.1.isSome)
      && decide (([a] : List Expr).length + ([] : List Keyword).length + (if ([] : List Keyword).isEmpty then 0 else 1) < 30)) = true := by rfl)
    (hline : (apos.endLine == pos.line) = true := by rfl) (htrees : backTo pos (starEach [a] X.env) = [(false, eval a X.env)] := by rfl) :
    PEd X tb (.Call (.Attribute (.Name x px) "get" apos) [a] [] pos) ds d := by
  obtain ⟨t, p1, q1⟩ := ha
  refine ⟨fun σ H Q => t σ H fun w H1 => w = .str z ∧ Q v H1, ⟨fun pins s σ H Q I h => ?_⟩, fun Hd H σ E Q k => q1 Hd H σ E _ fun w Hd1 H1 g dw => by
    cases dw
    exact ⟨rfl, k v Hd1 H1 g (hd Hd1)⟩⟩
  refine wpAny_Call_method hbase hfew hline PySem.F.plainAttrs_dict PySem.F.slot_dict_get PySem.F.type_dict_get (ld_glob I hg hm ?_ hdb)
  refine ⟨kd_type D I, fun b q => ?_, ?_⟩
  · cases q
    exact ⟨_, I.kIn _ _ D.at_, rfl⟩
  rw [htrees]
  refine Calls.callWith_builtin rfl (Calls.evalArgs_plain (Calls.spliced_cons (thn (p1.run pins s σ H _ I h) fun iv s2 ⟨y, H2, I2, ry, ey, q2⟩ => Calls.spliced_nil ?_)))
  subst ey
  obtain ⟨tk, rfl⟩ := ry
  refine call_meetsIn PySem.F.slot_dict_get (kd_type D I2) PySem.F.entry_dict_get (PySem.F.args_dict_get_2 _ _) (meets_dict_get (PySem.strKind X.prog X.w) A (PySem.strKind_is X.prog X.w z tk) D.low) ⟨_, PySem.W.mapOf_K (prog := X.prog) I2.kIn D.at_ D.lit, ?_⟩
  refine ⟨v, H2, I2.tok _, ?_, q2⟩
  rw [PySem.W.find_K D.at_ hv]
  exact r
end
end DL
namespace DL
open PySem PySem.Spec PyProof.Rows L2

/-! ### what raises -/
def PXd (X : Cx) (tb : List Addr) (W : WX') (e : Expr) (ds : List Sl) (c : Value) : Prop := ∃ t, PE X e t ∧ ∀ (Hd H : Hp) (σ : L2.St), Env X.K tb Hd H σ ds → ∀ Q : VK, (∀ Hd' H', Gr Hd H Hd' H' → (∀ P ∈ tb, GxR.TabG H' P) → W c none σ H') → t σ H Q
section
variable {X : Cx} {tb : List Addr} {W : WX'} {ds es : List Sl} {d e f : PyData} {a b : Expr} {pos pos' pos1 p px py : Pos} {x y : Str} {c : Value} {tg : Expr} {args : List Expr} {fs : List PyData}
theorem pg_nev : PG X tg (fun _ _ _ _ => False) := ⟨fun _ _ _ _ _ _ _ _ _ h => h.elim⟩
/-- the exception class at C of the program's own, over ValueError -/
structure ExC (X : Cx) (x : Str) (C : Addr) : Prop where
  q : PySem.W.excIn X.K C [.type "ValueError", .type "Exception", .type "BaseException", .type "object"] "ValueError.__new__" = true
  g : X.mg x = some (.ref C)
  k : PySem.W.keepIn X.K (.ref C) = true
  s : PySem.W.subIn X.K (.ref C) (.type "BaseException") = some true
  t : PySem.W.typeIn X.K (.ref C) = some (.type "type")
theorem sd_raise {C : Addr} (T : ExC X x C) (hc : X.calm = true) (tk : Takes X W) (h : PEd X tb a ds d) (hg : Gl X x := by rfl) (hs : starEach [a] X.env = (false, eval a X.env) :: starEach [] X.env := by rfl) (hdb : (x == ("__debug__" : Str)) = false := by decide) :
    PSd X tb W (.Raise (some (.Call (.Name x p) [a] [] pos')) none pos) ds (.ex (.ref C)) :=
  let ⟨_, p1, q1⟩ := h; ⟨_, ps_raise hc tk (SkE.pmk_own1 PySem.F.excBase_ValueError T.q T.g T.k (raises_own T.s T.t) hg p1 hs hdb), fun Hd0 H0 Hd H σ D S z => q1 Hd H σ S.env _ fun v Hd' H' g dv => z σ Hd' H' (S.gr.trans g) (S.env.up g).tb⟩
theorem sd_retX (h : PXd X tb W a ds c) : PSd X tb W (.Return (some a) pos) ds (.ex c) := let ⟨_, p1, q1⟩ := h; ⟨_, ps_ret p1, fun Hd0 H0 Hd H σ D S z => q1 Hd H σ S.env _ fun Hd' H' g t => z σ Hd' H' (S.gr.trans g) t⟩
theorem sd_asgX (h : PXd X tb W a ds c) (hs : swapsWithSole [tg] a pos.line X.env = pure false := by rfl) (hw : swappedStores [tg] a X.env = pure none := by rfl) (h1 : (assignEach [tg] X.env).map (·.2) = [assign tg X.env] := by rfl) : PSd X tb W (.Assign [tg] a pos) ds (.ex c) :=
  let ⟨_, p1, q1⟩ := h; ⟨_, ps_asg p1 pg_nev hs hw h1, fun Hd0 H0 Hd H σ D S z => q1 Hd H σ S.env _ fun Hd' H' g t => z σ Hd' H' (S.gr.trans g) t⟩
/-- the first of a display's, of a call's arguments raises -/
theorem xd_tup1 {k : Nat} (h : PXd X tb W a ds c) (hs : starEach [a] X.env = (false, eval a X.env) :: starEach [] X.env := by rfl) : PXd X tb W (.Tuple [a] k pos) ds c :=
  let ⟨_, p1, q1⟩ := h; ⟨_, pe_tup (pa_cons p1 pa_nil hs), fun Hd H σ E Q z => q1 Hd H σ E _ z⟩
end
/-! ### defs that may raise -/
/-- called with data ds it hands back d (R), or raises c (Rx) -/
def spX (K : PySem.W.Frag) (tb : List Addr) (n : Nat) (R : List PyData → PyData → Prop) (Rx : List PyData → Value → Prop) : Sp := fun vs H Q E => ∃ (Hd : Hp) (ds : List PyData), vs.length = n ∧ DH Hd H ∧ (∀ P ∈ tb, GxR.TabG H P) ∧ DpAll K Hd vs ds ∧
  ((∃ d, R ds d ∧ ∀ v Hd' H', Gr Hd H Hd' H' → (∀ P ∈ tb, GxR.TabG H' P) → Dp K Hd' v d → Q v H') ∨ ∃ c, Rx ds c ∧ ∀ Hd' H', Gr Hd H Hd' H' → (∀ P ∈ tb, GxR.TabG H' P) → E c none H')
section
variable {P : Program} {w : World} {K : PySem.W.Frag} {mg : Str → Option Value} {base : Heap} {x qual : Str} {params : Arguments} {body : List Stmt} {scope : Scope} {f : Addr} {fd : FuncData} {tb : List Addr}
theorem sd_noOwn {N : List Str} {ds : List PyData} {i : Nat} {xs : List PyData} (e1 : (sd N ds)[i]? = some (.own xs)) : False := by
  unfold sd at e1
  by_cases hi : i < ds.length
  · rw [List.getElem?_append_left (by rw [List.length_map]; exact hi), List.getElem?_map] at e1
    cases q : ds[i]? with
    | none =>
      rw [q] at e1
      cases e1
    | some d =>
      rw [q] at e1
      cases e1
  · rw [List.getElem?_append_right (by rw [List.length_map]; omega), List.length_map] at e1
    obtain ⟨h1, h2⟩ := List.getElem?_eq_some_iff.mp e1
    rw [List.getElem_replicate] at h2
    cases h2
theorem fnx_ok {N ps : List Str} {k : Nat} {R : List PyData → PyData → Prop} {Rx : List PyData → Value → Prop} (F : FunD K x qual params body scope [] [] f fd) (S : FnScope N ps scope) (hlen : ps.length ≤ N.length)
    (hb : ∀ (ds : List PyData) (d : PyData), R ds d → ∀ (A : Around) (outer : List PySem.Env) (s : Shared) (H : Hp) (E : XK), Room k (A.deeper (envOfC qual scope s.heap.objs.size f fd.code)) →
      PBd (cxOf (L2.CX P w) P w K mg base N qual scope f fd.code A outer s H E) tb (fun c d _ H => E c d H) body (sd N ds) (.rt d))
    (hx : ∀ (ds : List PyData) (c : Value), Rx ds c → ∀ (A : Around) (outer : List PySem.Env) (s : Shared) (H : Hp) (E : XK), Room k (A.deeper (envOfC qual scope s.heap.objs.size f fd.code)) →
      PBd (cxOf (L2.CX P w) P w K mg base N qual scope f fd.code A outer s H E) tb (fun c d _ H => E c d H) body (sd N ds) (.ex c)) : FnOk P w K mg base (L2.CX P w) (k + 1) f fd ps (spX K tb ps.length R Rx) := by
  refine fok F S (fun vs H Q E h => ?_) fun A outer s H vs Q E hr h => ?_
  · obtain ⟨_, _, h, _⟩ := h
    exact h
  · obtain ⟨Hd, ds, hl, D, ht, hv, hh⟩ := h
    have St : State K tb Hd H Hd H (L2.start N vs) (sd N ds) := ⟨start_env (by rw [hl]; exact hlen) D ht hv, Gr.refl D, fun i xs a e1 _ => (sd_noOwn e1).elim⟩
    rcases hh with ⟨d, hR, q⟩ | ⟨c, hR, q⟩
    · obtain ⟨t, p, r⟩ := hb ds d hR A outer s H E hr
      exact ⟨t, p, r Hd H Hd H _ _ St fun v Hd' H' g ht' dv => q v Hd' H' g ht' dv⟩
    · obtain ⟨t, p, r⟩ := hx ds c hR A outer s H E hr
      exact ⟨t, p, r Hd H Hd H _ _ St fun _ Hd' H' g ht' => q Hd' H' g ht'⟩
structure FnX (P : Program) (w : World) (K : PySem.W.Frag) (mg : Str → Option Value) (base : Heap) (tb : List Addr) (x : Str) (ps : List Str) (k : Nat) (R : List PyData → PyData → Prop) (Rx : List PyData → Value → Prop) : Prop where
  ex : ∃ (f : Addr) (fd : FuncData), FnOk P w K mg base (L2.CX P w) k f fd ps (spX K tb ps.length R Rx) ∧ mg x = some (.ref f) ∧ PySem.W.keepIn K (.ref f) = true ∧ Binds K fd ps []
end
section
variable {X : Cx} {tb : List Addr} {W : WX'} {ds es : List Sl} {d e f : PyData} {a b : Expr} {pos p : Pos} {x : Str} {args : List Expr} {fs : List PyData} {ps : List Str} {k : Nat} {R : List PyData → PyData → Prop} {Rx : List PyData → Value → Prop} {c : Value}
/-- it hands back -/
theorem ed_callX (G : FnX X.prog X.w X.K X.mg X.base tb x ps k R Rx) (hr : Room k X.A) (ha : PAd X tb (a :: args) ds fs) (hR : R fs d) (hl : fs.length = ps.length := by rfl) (hg : Gl X x := by rfl) (hdb : (x == ("__debug__" : Str)) = false := by decide)
    (he : starEach (a :: args) X.env = (false, eval a X.env) :: starEach args X.env := by rfl) (hpl : (backTo pos (starEach args X.env)).any (·.1) = false := by rfl) : PEd X tb (.Call (.Name x p) (a :: args) [] pos) ds d := by
  obtain ⟨fa, fd, F, hm, hk, hb⟩ := G.ex
  obtain ⟨t, p1, q1⟩ := ha
  refine ⟨_, pe_call F hr hg hm hk hb .nil (passL (X := X)) p1 hdb he hpl, fun Hd H σ E Q z => q1 Hd H σ E _ fun vs Hd1 H1 g dv => ?_⟩
  have E1 := E.up g
  exact ⟨Hd1, fs, by rw [List.append_nil, dpa_len dv]; exact hl, g.h, E1.tb, by rw [List.append_nil]; exact dv, .inl ⟨d, hR, fun v Hd2 H2 g2 _ dv2 => z v Hd2 H2 (g.trans g2) dv2⟩⟩
/-- it raises -/
theorem xd_call {E1 : XK} (G : FnX X.prog X.w X.K X.mg X.base tb x ps k R Rx) (hr : Room k X.A) (tk : Takes X (fun c d _ H => E1 c d H)) (ha : PAd X tb (a :: args) ds fs) (hR : Rx fs c) (hl : fs.length = ps.length := by rfl) (hg : Gl X x := by rfl) (hdb : (x == ("__debug__" : Str)) = false := by decide)
    (he : starEach (a :: args) X.env = (false, eval a X.env) :: starEach args X.env := by rfl) (hpl : (backTo pos (starEach args X.env)).any (·.1) = false := by rfl) : PXd X tb (fun c d _ H => E1 c d H) (.Call (.Name x p) (a :: args) [] pos) ds c := by
  obtain ⟨fa, fd, F, hm, hk, hb⟩ := G.ex
  obtain ⟨t, p1, q1⟩ := ha
  refine ⟨_, pe_call (E := E1) F hr hg hm hk hb .nil (passes_call tk fun _ _ _ _ h => h) p1 hdb he hpl, fun Hd H σ E Q z => q1 Hd H σ E _ fun vs Hd1 H1 g dv => ?_⟩
  have E2 := E.up g
  exact ⟨Hd1, fs, by rw [List.append_nil, dpa_len dv]; exact hl, g.h, E2.tb, by rw [List.append_nil]; exact dv, .inr ⟨c, hR, fun Hd2 H2 g2 t2 => z Hd2 H2 (g.trans g2) t2⟩⟩
/-- .. within a try's body: the wish knows the slots -/
theorem xd_callS (G : FnX X.prog X.w X.K X.mg X.base tb x ps k R Rx) (hr : Room k X.A) (tk : Takes X W) (ha : PAd X tb (a :: args) ds fs) (hR : Rx fs c) (hl : fs.length = ps.length := by rfl) (hg : Gl X x := by rfl) (hdb : (x == ("__debug__" : Str)) = false := by decide)
    (he : starEach (a :: args) X.env = (false, eval a X.env) :: starEach args X.env := by rfl) (hpl : (backTo pos (starEach args X.env)).any (·.1) = false := by rfl) : PXd X tb W (.Call (.Name x p) (a :: args) [] pos) ds c := by
  obtain ⟨fa, fd, F, hm, hk, hb⟩ := G.ex
  obtain ⟨t, p1, q1⟩ := ha
  refine ⟨_, pe_callS F hr hg hm hk hb (fun σ => passAt tk σ) p1 hdb he hpl, fun Hd H σ E Q z => q1 Hd H σ E _ fun vs Hd1 H1 g dv => ?_⟩
  have E2 := E.up g
  exact ⟨Hd1, fs, by rw [dpa_len dv]; exact hl, g.h, E2.tb, dv, .inr ⟨c, hR, fun Hd2 H2 g2 t2 => z Hd2 H2 (g.trans g2) t2⟩⟩
end
end DL
/-! RM: statements as texts, in plain Lean (lists of signs). -/
namespace RM
open PySem L2 DL LM
def low (c : Nat) : Bool := decide (97 ≤ c) && decide (c ≤ 122)
def Op.sgn : Op → Nat
  | .and => 38
  | .or => 124
  | .thn => 62
def wrL : S → List Nat
  | .nm w => w.cps.toList
  | .fls => [35]
  | .bin o a b => 40 :: (wrL a ++ (32 :: Op.sgn o :: 32 :: (wrL b ++ [41])))
def ofL (l : List Nat) : Str := ⟨l.toArray⟩
theorem ofL_list (l : List Nat) : (ofL l).cps.toList = l := rfl
theorem ofL_len (l : List Nat) : (ofL l).length = l.length := by rw [str_len, ofL_list]
theorem ext_list {x y : Str} (h : x.cps.toList = y.cps.toList) : x = y := by
  obtain ⟨⟨x⟩⟩ := x
  obtain ⟨⟨y⟩⟩ := y
  have e : x = y := h
  rw [e]
def wr (s : S) : Str := ofL (wrL s)
def opOf (l : List Nat) : Option Op := if l = [32, 38, 32] then some .and else if l = [32, 124, 32] then some .or else if l = [32, 62, 32] then some .thn else none
/-- the length of the run of letters ahead -/
def runL : List Nat → Nat
  | [] => 0
  | c :: r => if low c = true then runL r + 1 else 0
theorem runL_le : ∀ l : List Nat, runL l ≤ l.length
  | [] => Nat.le_refl _
  | c :: r => by
    unfold runL
    split
    · exact Nat.succ_le_succ (runL_le r)
    · exact Nat.zero_le _
theorem runL_low : ∀ (l : List Nat) (i : Nat), i < runL l → ∃ c, l[i]? = some c ∧ low c = true
  | [], i, h => absurd h (Nat.not_lt_zero _)
  | c :: r, i, h => by
    unfold runL at h
    by_cases q : low c = true
    · rw [if_pos q] at h
      cases i with
      | zero => exact ⟨c, rfl, q⟩
      | succ i => exact runL_low r i (by omega)
    · rw [if_neg q] at h
      exact absurd h (Nat.not_lt_zero _)
theorem runL_end : ∀ (l : List Nat), (∃ c, l[runL l]? = some c ∧ low c = false) ∨ l.length ≤ runL l
  | [] => .inr (Nat.le_refl _)
  | c :: r => by
    unfold runL
    by_cases q : low c = true
    · rw [if_pos q]
      rcases runL_end r with h | h
      · exact .inl h
      · exact .inr (Nat.succ_le_succ h)
    · rw [if_neg q]
      exact .inl ⟨c, rfl, by simpa using q⟩
/-- the statement at the list's head, no more than room deep, and how many signs it takes -/
def parse : Nat → List Nat → Option (S × Nat)
  | 0, _ => none
  | room + 1, r =>
    if r.take 1 = [40] then
      (parse room (r.drop 1)).bind fun p => (opOf (((r.drop 1).drop p.2).take 3)).bind fun o =>
        (parse room ((r.drop 1).drop (p.2 + 3))).bind fun q =>
          if (((r.drop 1).drop (p.2 + 3)).drop q.2).take 1 = [41] then some (.bin o p.1 q.1, p.2 + q.2 + 5) else none
    else if r.take 1 = [35] then some (.fls, 1)
    else if 1 ≤ runL r ∧ runL r ≤ 8 then some (.nm (ofL (r.take (runL r))), runL r) else none
theorem parse_le : ∀ (room : Nat) (r : List Nat) (s : S) (n : Nat), parse room r = some (s, n) → n ≤ r.length ∧ 1 ≤ n
  | 0, _, _, _, h => by cases h
  | room + 1, r, s, n, h => by
    unfold parse at h
    split at h
    · rename_i h1
      obtain ⟨p, e1, h⟩ := Option.bind_eq_some_iff.mp h
      obtain ⟨o, e2, h⟩ := Option.bind_eq_some_iff.mp h
      obtain ⟨q, e3, h⟩ := Option.bind_eq_some_iff.mp h
      split at h
      · rename_i h4
        obtain ⟨a1, a2⟩ := p
        obtain ⟨b1, b2⟩ := q
        have l1 : a2 ≤ (r.drop 1).length := (parse_le room _ a1 a2 e1).1
        have l2 : b2 ≤ ((r.drop 1).drop (a2 + 3)).length := (parse_le room _ b1 b2 e3).1
        have l4 : 1 ≤ (((r.drop 1).drop (a2 + 3)).drop b2).length := by
          have := congrArg List.length h4
          rw [List.length_take, List.length_singleton] at this
          have z : 1 ≤ (List.drop (b1, b2).snd (List.drop ((a1, a2).snd + 3) (List.drop 1 r))).length := by omega
          exact z
        have e5 : a2 + b2 + 5 = n := congrArg Prod.snd (Option.some.inj h)
        rw [List.length_drop, List.length_drop, List.length_drop] at l4
        omega
      · cases h
    · split at h
      · rename_i h2
        cases h
        have := congrArg List.length h2
        rw [List.length_take, List.length_singleton] at this
        omega
      · split at h
        · rename_i h3
          cases h
          exact ⟨runL_le r, h3.1⟩
        · cases h
theorem take_len {l : List Nat} {k n : Nat} (h : (l.take k).length = n) : n ≤ l.length := by
  rw [List.length_take] at h
  omega
theorem opOf_len {l : List Nat} {o : Op} (h : opOf l = some o) : l = [32, Op.sgn o, 32] := by
  unfold opOf at h
  split at h
  · cases h; assumption
  · split at h
    · cases h; assumption
    · split at h
      · cases h; assumption
      · cases h
theorem opOf_sgn (o : Op) : opOf [32, Op.sgn o, 32] = some o := by cases o <;> rfl
/-- what follows a statement's text starts with no letter -/
def Stops (t : List Nat) : Prop := ∀ c, t.head? = some c → low c = false
theorem runL_app : ∀ (l t : List Nat), (∀ c ∈ l, low c = true) → Stops t → runL (l ++ t) = l.length
  | [], [], _, _ => rfl
  | [], c :: r, _, h => by
    have q := h c rfl
    show runL (c :: r) = 0
    unfold runL
    rw [if_neg (by rw [q]; exact Bool.false_ne_true)]
  | c :: l, t, h1, h2 => by
    have q := h1 c List.mem_cons_self
    show runL (c :: (l ++ t)) = _
    unfold runL
    rw [if_pos q, runL_app l t (fun d hd => h1 d (List.mem_cons_of_mem _ hd)) h2] <;> rfl
theorem nm_low {w : Str} (h : NmOk w) : ∀ c ∈ w.cps.toList, low c = true := fun c hc => by
  have := h.2.2 c hc
  unfold low
  rw [decide_eq_true this.1, decide_eq_true this.2] <;> rfl
theorem wrL_head {s : S} (h : Ok s) : ∃ c r, wrL s = c :: r ∧ (c = 40 ∨ c = 35 ∨ low c = true) := by
  cases s with
  | nm w =>
    cases e : w.cps.toList with
    | nil =>
      have := h.1
      rw [str_len, e] at this
      exact absurd this (by decide)
    | cons c r => exact ⟨c, r, e, .inr (.inr (nm_low h c (by rw [e]; exact List.mem_cons_self)))⟩
  | fls => exact ⟨35, [], rfl, .inr (.inl rfl)⟩
  | bin o a b => exact ⟨40, _, rfl, .inl rfl⟩
theorem parse_wr : ∀ (s : S) (room : Nat) (t : List Nat), Ok s → dep s ≤ room → Stops t → parse room (wrL s ++ t) = some (s, (wrL s).length)
  | s, 0, t, _, hd, _ => by
    have := dep_pos s
    omega
  | .nm w, room + 1, t, h, _, ht => by
    have hl := nm_low h
    have hr := runL_app _ t hl ht
    have h1 := h.1
    have h2 := h.2.1
    rw [str_len] at h1 h2
    have hh : ∀ k, low k = false → (w.cps.toList ++ t).take 1 ≠ [k] := fun k hk e => by
      cases q : w.cps.toList with
      | nil => rw [q] at h1; exact absurd h1 (by decide)
      | cons c r =>
        rw [q] at e
        have e2 : c = k := by simpa using e
        have := hl c (by rw [q]; exact List.mem_cons_self)
        rw [e2, hk] at this
        cases this
    show parse (room + 1) (w.cps.toList ++ t) = _
    unfold parse
    rw [if_neg (hh 40 rfl), if_neg (hh 35 rfl), hr, if_pos ⟨h1, h2⟩, List.take_left]
    exact congrArg some (Prod.ext (congrArg S.nm (ext_list rfl)) rfl)
  | .fls, room + 1, t, _, _, _ => rfl
  | .bin o a b, room + 1, t, h, hd, ht => by
    have hd' : max (dep a) (dep b) + 1 ≤ room + 1 := hd
    have ea := parse_wr a room (32 :: Op.sgn o :: 32 :: (wrL b ++ 41 :: t)) h.1 (by omega) (fun c hc => by
      have : c = 32 := by simpa using hc.symm
      rw [this] <;> rfl)
    have eb := parse_wr b room (41 :: t) h.2 (by omega) (fun c hc => by
      have : c = 41 := by simpa using hc.symm
      rw [this] <;> rfl)
    have e0 : wrL (.bin o a b) ++ t = 40 :: (wrL a ++ (32 :: Op.sgn o :: 32 :: (wrL b ++ 41 :: t))) := by
      show 40 :: (wrL a ++ (32 :: Op.sgn o :: 32 :: (wrL b ++ [41]))) ++ t = _
      simp
    rw [e0]
    unfold parse
    rw [if_pos (show List.take 1 (40 :: (wrL a ++ (32 :: Op.sgn o :: 32 :: (wrL b ++ 41 :: t)))) = [40] from rfl)]
    show (parse room (wrL a ++ (32 :: Op.sgn o :: 32 :: (wrL b ++ 41 :: t)))).bind _ = _
    rw [ea, Option.bind_some]
    show (opOf (((wrL a ++ (32 :: Op.sgn o :: 32 :: (wrL b ++ 41 :: t))).drop (wrL a).length).take 3)).bind _ = _
    rw [List.drop_left]
    show (opOf [32, Op.sgn o, 32]).bind _ = _
    rw [opOf_sgn, Option.bind_some]
    have e3 : (wrL a ++ (32 :: Op.sgn o :: 32 :: (wrL b ++ 41 :: t))).drop ((wrL a).length + 3) = wrL b ++ 41 :: t := by
      rw [← List.drop_drop, List.drop_left] <;> rfl
    show (parse room ((wrL a ++ (32 :: Op.sgn o :: 32 :: (wrL b ++ 41 :: t))).drop ((wrL a).length + 3))).bind _ = _
    rw [e3, eb, Option.bind_some]
    show (if (((wrL a ++ (32 :: Op.sgn o :: 32 :: (wrL b ++ 41 :: t))).drop ((wrL a).length + 3)).drop (wrL b).length).take 1 = [41] then _ else _) = _
    rw [e3, List.drop_left, if_pos (show List.take 1 (41 :: t) = [41] from rfl)]
    refine congrArg some (Prod.ext rfl ?_)
    show (wrL a).length + (wrL b).length + 5 = (40 :: (wrL a ++ (32 :: Op.sgn o :: 32 :: (wrL b ++ [41])))).length
    simp
    omega
/-! ### how long a text may be: the length and five are added up -/
def uN (s : S) : Nat := (wrL s).length + 5
theorem uN_bin (o : Op) (a b : S) : uN (.bin o a b) = uN a + uN b := by
  unfold uN
  show (40 :: (wrL a ++ (32 :: Op.sgn o :: 32 :: (wrL b ++ [41])))).length + 5 = _
  simp
  omega
def us : List S → Nat
  | [] => 0
  | s :: r => uN s + us r
theorem us_app : ∀ p q : List S, us (p ++ q) = us p + us q
  | [], q => (Nat.zero_add _).symm
  | s :: p, q => by
    show uN s + us (p ++ q) = _
    rw [us_app p q]
    show _ = uN s + us p + us q
    omega
theorem us_mem : ∀ {p : List S} {s : S}, s ∈ p → uN s ≤ us p
  | t :: p, s, h => by
    show uN s ≤ uN t + us p
    rcases List.mem_cons.mp h with rfl | h
    · omega
    · have := us_mem h
      omega
theorem nm_u {w : Str} (h : NmOk w) : uN (.nm w) ≤ 13 := by
  have := h.2.1
  rw [str_len] at this
  show w.cps.toList.length + 5 ≤ 13
  omega
theorem us_last {p : List S} (h : 0 < p.length) : us p = us p.dropLast + uN (p.getLastD .fls) := by
  obtain ⟨q, x, rfl⟩ : ∃ q x, p = q ++ [x] := ⟨p.dropLast, p.getLast (List.ne_nil_of_length_pos h), (List.dropLast_concat_getLast _).symm⟩
  rw [us_app]
  simp
  rfl
theorem us_two {p : List S} (h : 1 < p.length) : us p = us (p.take (p.length - 2)) + (uN (p.getD (p.length - 2) .fls) + uN (p.getLastD .fls)) := by
  have e := us_last (p := p) (by omega)
  have e1 : p.dropLast = p.take (p.length - 2) ++ [p.getD (p.length - 2) .fls] := by
    rw [List.dropLast_eq_take, show p.length - 1 = p.length - 2 + 1 by omega, List.take_add_one, List.getD_eq_getElem?_getD, List.getElem?_eq_getElem (by omega)] <;> rfl
  rw [e, e1, us_app]
  show _ + (uN _ + 0) + _ = _
  omega
theorem joined_u (way : Int) (a b : S) : uN (joined way a b) = uN a + uN b := by
  unfold joined
  split
  · rw [uN_bin]; omega
  · rw [uN_bin]
theorem stepP_u (seed : Int) (p : List S) (c : Int) {n : Nat} (h : us p ≤ 13 * n) (hn : 1 ≤ n) : us (stepP seed p c) ≤ 13 * (2 * n) := by
  unfold stepP
  split
  · rw [us_app]
    show _ + (6 + 0) ≤ _
    omega
  · split
    · rename_i z
      have r0 : 0 ≤ c / 10 % (p.length : Int) := Int.emod_nonneg _ (by omega)
      have r1 : c / 10 % (p.length : Int) < p.length := Int.emod_lt_of_pos _ (by omega)
      have m := us_mem (mem_getD (p := p) (i := (c / 10 % (p.length : Int)).toNat) (by omega))
      rw [us_app]
      show _ + (uN _ + 0) ≤ _
      omega
    · split
      · rename_i z
        have e := us_last (p := p) z.2
        rw [us_app]
        show _ + (uN _ + 0) ≤ _
        rw [uN_bin]
        show _ + (uN _ + 6 + 0) ≤ _
        omega
      · split
        · rename_i z
          have e := us_two (p := p) (by omega)
          rw [us_app]
          show _ + (uN _ + 0) ≤ _
          rw [joined_u]
          omega
        · have q := nm_u (nameBy_ok seed (c / 10 % 4))
          rw [us_app]
          show _ + (uN _ + 0) ≤ _
          omega
theorem fold_u (seed : Int) : ∀ (cs : List Int) (p : List S) (n : Nat), us p ≤ 13 * n → 1 ≤ n → us (cs.foldl (stepP seed) p) ≤ 13 * (n * 2 ^ cs.length)
  | [], p, n, h, _ => by simpa using h
  | c :: cs, p, n, h, hn => by
    have q := fold_u seed cs (stepP seed p c) (2 * n) (stepP_u seed p c h hn) (by omega)
    have e : 2 * n * 2 ^ cs.length = n * 2 ^ (c :: cs).length := by
      rw [List.length_cons, Nat.pow_succ, Nat.mul_comm 2 n, Nat.mul_assoc, Nat.mul_comm 2]
    rw [e] at q
    exact q
theorem fT_u {p : List S} (h : 1 < p.length) : us (fT p) = us p := by
  unfold fT
  rw [us_app, us_two h]
  show _ + (uN _ + 0) = _
  rw [uN_bin]
  omega
theorem thens_u (p : List S) : ∀ n : Nat, n < p.length → us (thens n p) = us p
  | 0, _ => rfl
  | n + 1, h => by
    have l := thens_len p n (by omega)
    show us (fT (thens n p)) = _
    rw [fT_u (by omega), thens_u p n (by omega)]
theorem stBy_u (cs : List Int) (seed : Int) : uN (stBy cs seed) ≤ 13 * 2 ^ cs.length := by
  have q := fold_u seed cs [] 1 (Nat.zero_le _) (Nat.le_refl _)
  rw [Nat.one_mul] at q
  have q : us (pileOf seed cs) ≤ 13 * 2 ^ cs.length := q
  have h1 : 1 ≤ 2 ^ cs.length := Nat.one_le_two_pow
  unfold stBy
  by_cases hp : 0 < (pileOf seed cs).length
  · have l := thens_len (pileOf seed cs) ((pileOf seed cs).length - 1) (by omega)
    have e := thens_u (pileOf seed cs) ((pileOf seed cs).length - 1) (by omega)
    simp only
    split
    · rename_i e2
      rw [e2] at l
      simp at l
      omega
    · rename_i s r e2
      rw [e2] at e
      have : uN s ≤ us (s :: r) := us_mem List.mem_cons_self
      omega
  · have e : pileOf seed cs = [] := List.eq_nil_of_length_eq_zero (by omega)
    rw [e]
    have := nm_u (nameBy_ok seed 0)
    show uN (.nm (nameBy seed 0)) ≤ _
    omega
end RM
namespace DL
open PySem PySem.Spec PyProof.Rows L2
/-- the written pairs of a display, texts -/
inductive PPd (X : Cx) : List (Option Expr) → List Expr → List (Str × Str) → Prop where
  | nil : PPd X [] [] []
  | cons {k v : Str} {i j : Nat} {p q : Pos} {ks : List (Option Expr)} {vs : List Expr} {r : List (Str × Str)} (h : PPd X ks vs r) : PPd X (some (.Constant (.str k) i p) :: ks) (.Constant (.str v) j q :: vs) ((k, v) :: r)
theorem ppd_ts {X : Cx} {pos : Pos} : ∀ {ks : List (Option Expr)} {vs : List Expr} {r : List (Str × Str)}, PPd X ks vs r → ∃ trs, PPs X pos ks vs trs ∧ ∀ (σ : L2.St) (H : Hp) (Q : List (V × V) → Hp → Prop), Q (r.map fun p => (V.str p.1, V.str p.2)) H → tPairs trs σ H Q
  | _, _, _, .nil => ⟨[], pps_nil, fun _ _ _ q => q⟩
  | _, _, _, .cons h => by
    obtain ⟨trs, p, q⟩ := ppd_ts (pos := pos) h
    exact ⟨_, pps_cons pe_str pe_str p, fun σ H Q z => q σ H _ z⟩
theorem ppd_all {X : Cx} : ∀ {ks : List (Option Expr)} {vs : List Expr} {r : List (Str × Str)}, PPd X ks vs r → ks.all (·.isSome) = true ∧ ks.length = vs.length ∧ ks.length = r.length
  | _, _, _, .nil => ⟨rfl, rfl, rfl⟩
  | _, _, _, .cons h => by
    obtain ⟨h1, h2, h3⟩ := ppd_all h
    exact ⟨by rw [List.all_cons, h1] <;> rfl, congrArg (· + 1) h2, congrArg (· + 1) h3⟩
def keyed (r : List (Str × Str)) : List (Key × V) := r.map fun p => (Sum.inr p.1, V.str p.2)
section
variable {X : Cx} {tb : List Addr} {W : WX'} {ds es : List Sl} {d e f : PyData} {a b : Expr} {pos pos' p : Pos}
/-- {written}[key] -/
theorem ed_dispGet {ks : List (Option Expr)} {vs : List Expr} {r : List (Str × Str)} {z v : Str} {k : Nat} (hr : Room k X.A) (h : PPd X ks vs r) (ha : PEd X tb a ds (.str z)) (hv : valV (mergeK [] (keyed r)) (Sum.inr z) = some (.str v)) (h0 : ks ≠ [] := by exact fun z => nomatch z) (h15 : ks.length ≤ 15 := by decide) (hs : NoSl a := by exact fun _ _ => rfl) :
    PEd X tb (.Subscript (.Dict ks vs pos') a pos) ds (.str v) := by
  obtain ⟨trs, p1, q1⟩ := ppd_ts (pos := pos') h
  obtain ⟨l1, l2, l3⟩ := ppd_all h
  obtain ⟨t, p2, q2⟩ := ha
  refine ⟨_, pe_dget (hu_of hr) (pe_disp p1 l1 l2 h0 h15) p2 hs, fun Hd H σ E Q q => ?_⟩
  intro c hc
  refine q1 σ _ _ ⟨upd_same, keyed r, ?_, ?_, ?_⟩
  · unfold keyed
    rw [List.map_map] <;> rfl
  · unfold keyed
    rw [List.length_map, ← l3]
    exact h15
  · rw [upd_upd]
    have g := Gr.newOut (o := .dK (mergeK [] (keyed r))) E.dh hc
    refine q2 Hd _ σ (E.up g) _ fun w Hd1 H1 g1 dw => ?_
    cases dw
    exact ⟨c, .str v, rfl, hv ▸ DGet.k (k := Sum.inr z) (g1.e.k c _ upd_same fun _ z => nomatch z), q _ Hd1 H1 (g.trans g1) (.str v)⟩
end
end DL
/-! RN: a name's signs; what the program's is_name tells. -/
namespace RM
open PySem PySem.Spec PyProof.Rows L2 DL LM GxR
theorem lt_one (a b : Nat) : decide (([a] : List Nat) < [b]) = decide (a < b) := by
  refine decide_eq_decide.mpr ⟨fun h => ?_, fun h => ?_⟩
  · rcases List.cons_lt_cons_iff.mp h with h | ⟨_, h⟩
    · exact h
    · exact absurd h (by simp)
  · exact List.cons_lt_cons_iff.mpr (.inl h)
theorem not_lt_le (a b : Nat) : (!decide (a < b)) = decide (b ≤ a) := by
  by_cases h : a < b
  · rw [decide_eq_true h, decide_eq_false (by omega)] <;> rfl
  · rw [decide_eq_false h, decide_eq_true (by omega)] <;> rfl
/-- 'a' <= x <= 'z' -/
theorem elt_low {prog : Program} {w : World} {scope : Scope} {x : Str} {i j : Nat} {p1 p2 p3 p4 : Pos} (hk : scope.kind = .function) (hl : scope.names.lookup x = some .local) (hd : (x == ("__debug__" : Str)) = false := by decide)
    (hm : lastMarks [.LtE, .LtE] [.Name x p2, .Constant (.str "z") j p3] = false := by with_unfolding_all rfl) : EltP prog w scope x (.Compare (.Constant (.str "a") i p1) [.LtE, .LtE] [.Name x p2, .Constant (.str "z") j p3] p4) low := by
  intro cenv A' E' c t s₂ m₂ hs hn hx
  refine Compare_chain (Calls.Constant_str (chain_link (wpAny_Name (wpAny_loadName_local (by rw [hs]; exact hk) (show cenv.scope.names.lookup x = some .local by rw [hs]; exact hl) hn hx ?_) hd))) hm
  refine PySem.P.le_str ?_
  refine wpAny_truthy_bool ?_
  have e1 : (!decide ((⟨#[c]⟩ : Str).cps.toList < ("a" : Str).cps.toList)) = decide (97 ≤ c) := by
    show (!decide (([c] : List Nat) < [97])) = _
    rw [lt_one, not_lt_le]
  rw [e1]
  by_cases h : 97 ≤ c
  · rw [decide_eq_true h, if_pos rfl]
    refine chain_last (Calls.Constant_str (PySem.P.le_str ?_))
    have e2 : (!decide (("z" : Str).cps.toList < (⟨#[c]⟩ : Str).cps.toList)) = decide (c ≤ 122) := by
      show (!decide (([122] : List Nat) < [c])) = _
      rw [lt_one, not_lt_le]
    rw [e2]
    refine ⟨?_, keeps_tok _ _⟩
    unfold low
    rw [decide_eq_true h] <;> rfl
  · rw [decide_eq_false h, if_neg Bool.false_ne_true]
    refine ⟨?_, keeps_tok _ _⟩
    unfold low
    rw [decide_eq_false h] <;> rfl
def isNm (z : Str) : Bool := (decide (1 ≤ z.length) && decide (z.length ≤ 8)) && z.cps.toList.all low
def isNmD : PyData → Bool
  | .str z => isNm z
  | _ => false
theorem isNm_ok {z : Str} : isNm z = true ↔ NmOk z := by
  unfold isNm NmOk
  rw [Bool.and_eq_true, Bool.and_eq_true, decide_eq_true_eq, decide_eq_true_eq, List.all_eq_true, and_assoc]
  refine and_congr_right fun _ => and_congr_right fun _ => forall_congr' fun c => imp_congr_right fun _ => ?_
  unfold low
  rw [Bool.and_eq_true, decide_eq_true_eq, decide_eq_true_eq]
/-! ### the signs and words -/
def sgnS : Op → Str
  | .and => "&"
  | .or => "|"
  | .thn => ">"
theorem sgnS_list (o : Op) : (sgnS o).cps.toList = [Op.sgn o] := by cases o <;> rfl
theorem word_ne (o : Op) : ¬ o.word = "name" ∧ ¬ o.word = "false" := by cases o <;> decide +kernel
theorem wr_bin (o : Op) (a b : S) : (((((Str.empty ++ "(" ++ wr a) ++ " ") ++ sgnS o) ++ " ") ++ wr b) ++ ")" = wr (.bin o a b) := by
  refine ext_list ?_
  simp only [str_app, sgnS_list]
  show [] ++ [40] ++ wrL a ++ [32] ++ [Op.sgn o] ++ [32] ++ wrL b ++ [41] = 40 :: (wrL a ++ (32 :: Op.sgn o :: 32 :: (wrL b ++ [41])))
  simp
theorem wr_bin2 (o : Op) (a b : S) : (((((("(" : Str) ++ wr a) ++ " ") ++ sgnS o) ++ " ") ++ wr b) ++ ")" = wr (.bin o a b) := by
  refine ext_list ?_
  simp only [str_app, sgnS_list]
  show [40] ++ wrL a ++ [32] ++ [Op.sgn o] ++ [32] ++ wrL b ++ [41] = 40 :: (wrL a ++ (32 :: Op.sgn o :: 32 :: (wrL b ++ [41])))
  simp
theorem wr_len (s : S) : (wr s).length = (wrL s).length := ofL_len _
theorem wr_nm (w : Str) : wr (.nm w) = w := ext_list rfl
theorem uN_eq (s : S) : uN s = (wr s).length + 5 := by
  rw [wr_len] <;> rfl
theorem sgnS_len (o : Op) : (sgnS o).length = 1 := by cases o <;> rfl
end RM
/-! RP: reading a text, in plain Lean. -/
namespace RM
open PySem PySem.Spec PyProof.Rows L2 DL LM GxR
theorem cut_nn (z : Str) (i j : Nat) : cutS z (some (i : Int)) (some (j : Int)) = ofL ((z.cps.toList.drop i).take (j - i)) := ext_list (by rw [cutS_cut, cut_nat, ofL_list])
theorem cut_1 (z : Str) (i : Nat) : cutS z (some (i : Int)) (some ((i : Int) + 1)) = ofL ((z.cps.toList.drop i).take 1) := by
  rw [show ((i : Int) + 1) = ((i + 1 : Nat) : Int) from rfl, cut_nn, show i + 1 - i = 1 by omega]
theorem cut_3 (z : Str) (i : Nat) : cutS z (some (i : Int)) (some ((i : Int) + 3)) = ofL ((z.cps.toList.drop i).take 3) := by
  rw [show ((i : Int) + 3) = ((i + 3 : Nat) : Int) from rfl, cut_nn, show i + 3 - i = 3 by omega]
theorem ofL_inj {l m : List Nat} (h : ofL l = ofL m) : l = m := by
  have := congrArg (fun z : Str => z.cps.toList) h
  exact this
theorem isNm_ofL (l : List Nat) : isNm (ofL l) = ((decide (1 ≤ l.length) && decide (l.length ≤ 8)) && l.all low) := by
  unfold isNm
  rw [ofL_len, ofL_list]
theorem isNm_one (c : Nat) : isNm (ofL [c]) = low c := by
  rw [isNm_ofL]
  show (true && (low c && true)) = low c
  cases low c <;> rfl
theorem isNm_nil : isNm (ofL []) = false := rfl
theorem drop_at {α : Type} {l : List α} {i : Nat} {c : α} (h : l[i]? = some c) : (l.drop i).take 1 = [c] := by
  obtain ⟨h1, h2⟩ := List.getElem?_eq_some_iff.mp h
  rw [List.drop_eq_getElem_cons h1, h2] <;> rfl
theorem run_on {l : List Nat} {st i : Nat} (h : i < runL (l.drop st)) : isNm (ofL ((l.drop (st + i)).take 1)) = true := by
  obtain ⟨c, h1, h2⟩ := runL_low _ i h
  rw [List.getElem?_drop] at h1
  rw [drop_at h1, isNm_one, h2]
theorem run_off (l : List Nat) (st : Nat) : isNm (ofL ((l.drop (st + runL (l.drop st))).take 1)) = false := by
  rcases runL_end (l.drop st) with ⟨c, h1, h2⟩ | h
  · rw [List.getElem?_drop] at h1
    rw [drop_at h1, isNm_one, h2]
  · rw [List.length_drop] at h
    rw [List.drop_eq_nil_of_le (by omega)]
    exact isNm_nil
theorem all_of_get {l : List Nat} (h : ∀ i, i < l.length → ∃ c, l[i]? = some c ∧ low c = true) : l.all low = true := by
  rw [List.all_eq_true]
  intro c hc
  obtain ⟨i, hi, e⟩ := List.mem_iff_getElem.mp hc
  obtain ⟨d, e1, e2⟩ := h i hi
  rw [List.getElem?_eq_getElem hi, e] at e1
  cases e1
  exact e2
theorem run_isNm (r : List Nat) : isNm (ofL (r.take (runL r))) = (decide (1 ≤ runL r) && decide (runL r ≤ 8)) := by
  have l := runL_le r
  have e : (r.take (runL r)).all low = true := all_of_get fun i hi => by
    rw [List.length_take] at hi
    obtain ⟨c, e1, e2⟩ := runL_low r i (by omega)
    exact ⟨c, by rw [List.getElem?_take, if_pos (by omega), e1], e2⟩
  rw [isNm_ofL, e, List.length_take, Nat.min_eq_left l, Bool.and_true]
/-- read in the way of the program's functions -/
theorem parse_zero (r : List Nat) : parse 0 r = none := rfl
theorem parse_br {room : Nat} {l : List Nat} {st n : Nat} {s : S} (h1 : (l.drop st).take 1 = [40]) (h : parse (room + 1) (l.drop st) = some (s, n)) :
    ∃ o a b na nb, s = .bin o a b ∧ n = na + nb + 5 ∧ parse room (l.drop (st + 1)) = some (a, na) ∧ (l.drop (st + 1 + na)).take 3 = [32, Op.sgn o, 32] ∧ parse room (l.drop (st + 1 + na + 3)) = some (b, nb) ∧ (l.drop (st + 1 + na + 3 + nb)).take 1 = [41] := by
  unfold parse at h
  rw [if_pos h1] at h
  obtain ⟨⟨a, na⟩, e1, h⟩ := Option.bind_eq_some_iff.mp h
  obtain ⟨o, e2, h⟩ := Option.bind_eq_some_iff.mp h
  obtain ⟨⟨b, nb⟩, e3, h⟩ := Option.bind_eq_some_iff.mp h
  split at h
  · rename_i h4
    cases h
    rw [List.drop_drop] at e1
    have e2 := opOf_len e2
    rw [List.drop_drop, List.drop_drop] at e2
    rw [List.drop_drop, List.drop_drop] at e3
    rw [List.drop_drop, List.drop_drop, List.drop_drop] at h4
    refine ⟨o, a, b, na, nb, rfl, rfl, e1, ?_, ?_, ?_⟩
    · rw [show st + 1 + na = st + (1 + na) by omega]; exact e2
    · rw [show st + 1 + na + 3 = st + (1 + (na + 3)) by omega]; exact e3
    · rw [show st + 1 + na + 3 + nb = st + (1 + (na + 3 + nb)) by omega]; exact h4
  · cases h
theorem parse_fls {room : Nat} {l : List Nat} {st n : Nat} {s : S} (h0 : ¬ (l.drop st).take 1 = [40]) (h1 : (l.drop st).take 1 = [35]) (h : parse (room + 1) (l.drop st) = some (s, n)) : s = .fls ∧ n = 1 := by
  unfold parse at h
  rw [if_neg h0, if_pos h1] at h
  cases h
  exact ⟨rfl, rfl⟩
theorem parse_nm {room : Nat} {l : List Nat} {st n : Nat} {s : S} (h0 : ¬ (l.drop st).take 1 = [40]) (h1 : ¬ (l.drop st).take 1 = [35]) (h : parse (room + 1) (l.drop st) = some (s, n)) :
    1 ≤ runL (l.drop st) ∧ runL (l.drop st) ≤ 8 ∧ s = .nm (ofL ((l.drop st).take (runL (l.drop st)))) ∧ n = runL (l.drop st) := by
  unfold parse at h
  rw [if_neg h0, if_neg h1] at h
  split at h
  · rename_i h2
    cases h
    exact ⟨h2.1, h2.2, rfl, rfl⟩
  · cases h
end RM
namespace K4
open PySem PySem.Spec PyProof.Rows L2 DL LM
local macro_rules | `(tactic| walk_at "side") => `(tactic| first | assumption | decide | omega | (simp; done) | (simp; omega))
local macro_rules | `(tactic| walk_at "bin") => `(tactic| first | exact bin_add | exact bin_sub | exact bin_mul (by walk_at "side") | exact bin_fdiv (by walk_at "side") | exact bin_mod (by walk_at "side") | exact bin_catm (by walk_at "side") | exact bin_cat (by walk_at "side") | exact bin_addS (by walk_at "side"))
local macro_rules | `(tactic| walk_at "cmp") => `(tactic| first | exact cmp_lt | exact cmp_le | exact cmp_gt | exact cmp_ge | exact cmp_eqI | exact cmp_neI | exact cmp_eqS | exact cmp_neS | exact cmp_eqB | exact cmp_neB | exact cmp_isN | exact cmp_notN)
local macro_rules | `(tactic| walk_at "slc") => `(tactic| first | exact slc_lm | exact slc_l | exact slc_s (by walk_at "side"))
local macro_rules | `(tactic| walk_at "len") => `(tactic| first | exact len_lm | exact len_l rfl | exact len_t rfl | exact len_s (by walk_at "side"))
local macro_rules | `(tactic| walk_at "room") => `(tactic| exact Room.mono (by assumption) (by decide))
def topS (i : Nat) : Stmt := PySem.Challenge.pw_showtree_k04_texts_refused.main.body.getD i (.Pass ⟨0, 0, 0, 0⟩)
abbrev FnP (K : PySem.W.Frag) (x : Str) (st : Stmt) (f : Addr) (fd : FuncData) : Prop := FunD K x x (defArgs st) (defBody st) (defScope st) [] [] f fd
abbrev sName : Stmt := topS 18
abbrev nName : List Str := ["_law_seed", "_law_k", "_law_letters", "_law_size", "_law_word", "_law_j", "_law_spot", "_law_sign"]
theorem scName : FnScope nName ["_law_seed", "_law_k"] (defScope sName) := ⟨rfl, rfl, rfl, by decide +kernel, rfl, by decide +kernel, by decide +kernel⟩
section
variable {P : Program} {w : World} {K : PySem.W.Frag} {mg : Str → Option Value} {base : Heap} {f : Addr} {fd : FuncData} {tb : List Addr} {k : Nat}
def rName (ds : List PyData) (d : PyData) : Prop := ∃ (seed k : Int), ds = [.int seed, .int k] ∧ 0 ≤ k ∧ k < 1000 ∧ d = .str (nameBy seed k)
theorem ok_name (F : FnP K "_law_name_by" sName f fd) (mr : mg "range" = none) : FnOk P w K mg base CX0 (k + 1) f fd ["_law_seed", "_law_k"] (spD K tb 2 rName) := by
  refine fn_ok F scName (by decide) ?_
  rintro ds d ⟨seed, i, rfl, hi0, hi1, rfl⟩ A outer s H E hr
  have nd := scName.nd
  have hs := sizeN_lo seed
  have hp := spotN_lo seed
  refine (bd_cons (sd_set 2 ed_str nd)
    (bd_cons (sd_set 3 ((ed_bin ed_int (ed_bin (ed_var 0) ed_int (by walk_at "bin")) (by walk_at "bin")).is (g := .int (sizeN seed)) rfl) nd) ?_))
  have hw : (wordParts seed).map PyData.str = (List.range (sizeN seed).toNat).map fun (j : Nat) => PyData.str (oneS (letAt (sgnIx seed j))) := by
    unfold wordParts
    rw [List.map_map] <;> rfl
  refine (bd_cons (sd_set 4 ((ed_join (ys := wordParts seed) ed_str (((ed_lcY 5 (List.range (sizeN seed).toNat) (fun (j : Nat) => .int (0 + (j : Int))) (fun (j : Nat) => .str (oneS (letAt (sgnIx seed j)))) rfl nd (id_rng1 mr (ed_var 3) ?_ ?_) ?_
    (blkOk_by (N := nName) (sc := defScope sName) (by decide +kernel)) (fun _ _ _ _ _ => pg_name nd rfl (Or.inl rfl)) ?_)).is ?_) ?_).is (g := .str (word0 seed)) rfl) nd) ?_)
  · omega
  · omega
  · rw [List.length_range]; omega
  · intro j hj s' H' C cl fp
    have hj := List.mem_range.mp hj
    refine (ed_item (ed_var 2) (ed_bin (ed_bin (ed_bin (ed_bin (ed_var 0) ed_int (by walk_at "bin")) (ed_bin ed_int (ed_var 5) (by walk_at "bin")) (by walk_at "bin")) (ed_bin (ed_var 5) (ed_var 5) (by walk_at "bin")) (by walk_at "bin")) ed_int (by walk_at "bin")) (item_so (by decide +kernel) (Int.emod_nonneg _ (by decide)) (Int.emod_lt_of_pos _ (by decide)))).is ?_
    rw [Int.zero_add]
    rfl
  · rw [hw]
  · have e : (wordParts seed).length = (sizeN seed).toNat := by
      unfold wordParts
      rw [List.length_map, List.length_range]
    have e2 : (wordParts seed).map (fun x => x.length) = (List.range (sizeN seed).toNat).map fun _ => 1 := by
      unfold wordParts
      rw [List.map_map] <;> rfl
    rw [e, e2, List.map_const', List.length_range, List.sum_replicate_nat, show ("" : Str).length = 0 from rfl]
    omega
  have lw := word0_len seed
  refine (bd_cons (sd_set 6 ((ed_bin (ed_bin (ed_var 0) ed_int (by walk_at "bin")) (ed_var 3) (bin_mod (by omega))).is (g := .int (spotN seed)) rfl) nd) ?_)
  have hx : (word0 seed).cps.toList.getD (spotN seed).toNat 0 = letAt (sgnIx seed (spotN seed).toNat) := by
    rw [word0_list, List.getD_eq_getElem?_getD, List.getElem?_map, List.getElem?_range (by omega)] <;> rfl
  have m26 : 0 ≤ sgnIx seed (spotN seed).toNat ∧ sgnIx seed (spotN seed).toNat < 26 := ⟨Int.emod_nonneg _ (by decide), Int.emod_lt_of_pos _ (by decide)⟩
  have ho : Builtin.Str.occurrences letters ⟨#[(word0 seed).cps.toList.getD (spotN seed).toNat 0]⟩ 0 letters.length 1 = [(sgnIx seed (spotN seed).toNat).toNat] := by
    rw [hx]
    exact let_occ _ (by omega)
  refine (bd_cons (sd_set 7 ((ed_item (ed_var 2) (ed_bin (ed_bin (ed_index (ed_var 2) (ed_item (ed_var 4) (ed_var 6) (item_so (z := word0 seed) (by omega) hp.1 (by omega))) ho) (ed_bin (ed_var 1) (ed_bin ed_int (ed_bin (ed_bin (ed_var 0) ed_int (by walk_at "bin")) ed_int (by walk_at "bin")) (by walk_at "bin")) (by walk_at "bin")) (by walk_at "bin")) ed_int (by walk_at "bin")) (item_so (by decide +kernel) (Int.emod_nonneg _ (by decide)) (Int.emod_lt_of_pos _ (by decide)))).is (g := .str (signN seed i)) ?_) nd) ?_)
  · rw [Int.toNat_of_nonneg m26.1]
    rfl
  have hc : nameBy seed i = if (decide (i = 2) && (decide (seed / 13312 % 2 = 1) && decide (sizeN seed < 8))) = true then word0 seed ++ signN seed i
      else cutS (word0 seed) none (some (spotN seed)) ++ signN seed i ++ cutS (word0 seed) (some (spotN seed + 1)) none := by
    unfold nameBy
    simp only [Bool.and_eq_true, decide_eq_true_eq]
  have l1 : (cutS (word0 seed) none (some (spotN seed))).length ≤ 8 := by
    rw [str_len, cutS_cut]
    refine Nat.le_trans (List.length_take_le' _ _) ?_
    rw [List.length_drop, ← str_len]
    omega
  have l2 : (cutS (word0 seed) (some (spotN seed + 1)) none).length ≤ 8 := by
    rw [str_len, cutS_cut]
    refine Nat.le_trans (List.length_take_le' _ _) ?_
    rw [List.length_drop, ← str_len]
    omega
  have l3 := signN_len seed i
  refine (bd_if (PWd.pt (wd_and2 (td_cmpD (ed_var 1) ed_int (by walk_at "cmp")) fun hw => (wd_and2 (td_cmpD (ed_bin (ed_bin (ed_var 0) ed_int (by walk_at "bin")) ed_int (by walk_at "bin")) ed_int (by walk_at "cmp")) fun hw => (wd_and1 (td_cmpD (ed_var 3) ed_int (by walk_at "cmp")))))) (fun h =>
    (bd_left ((sd_ret (ed_bin (ed_var 4) (ed_var 7) (bin_addS (by rw [lw, l3]; omega)))).is ?_))) rfl fun h =>
    (bd_left ((sd_ret (ed_bin (ed_bin (ed_slc (ed_var 4) od_none (od_some (ed_var 6)) (slc_s (by omega))) (ed_var 7) (bin_addS ?_)) (ed_slc (ed_var 4) (od_some (ed_bin (ed_var 6) ed_int (by walk_at "bin"))) od_none (slc_s (by omega))) (bin_addS ?_))).is ?_)))
  · rw [hc, if_pos h] <;> rfl
  · exact Nat.le_trans (Nat.add_le_add l1 (Nat.le_of_eq l3)) (by decide)
  · rw [app_len]
    exact Nat.le_trans (Nat.add_le_add (Nat.add_le_add l1 (Nat.le_of_eq l3)) l2) (by decide)
  · rw [hc, if_neg (by rw [h]; exact Bool.false_ne_true)] <;> rfl
end
end K4
namespace K4
open PySem PySem.Spec PyProof.Rows L2 DL LM RM
local macro_rules | `(tactic| walk_at "side") => `(tactic| first | assumption | decide | omega | (simp; done) | (simp; omega))
local macro_rules | `(tactic| walk_at "bin") => `(tactic| first | exact bin_add | exact bin_sub | exact bin_mul (by walk_at "side") | exact bin_fdiv (by walk_at "side") | exact bin_mod (by walk_at "side") | exact bin_catm (by walk_at "side") | exact bin_cat (by walk_at "side") | exact bin_addS (by walk_at "side"))
local macro_rules | `(tactic| walk_at "cmp") => `(tactic| first | exact cmp_lt | exact cmp_le | exact cmp_gt | exact cmp_ge | exact cmp_eqI | exact cmp_neI | exact cmp_eqS | exact cmp_neS | exact cmp_eqB | exact cmp_neB | exact cmp_isN | exact cmp_notN)
local macro_rules | `(tactic| walk_at "slc") => `(tactic| first | exact slc_lm | exact slc_l | exact slc_s (by walk_at "side"))
local macro_rules | `(tactic| walk_at "len") => `(tactic| first | exact len_lm | exact len_l rfl | exact len_t rfl | exact len_s (by walk_at "side"))
local macro_rules | `(tactic| walk_at "room") => `(tactic| exact Room.mono (by assumption) (by decide))

abbrev sCell : Stmt := topS 17
theorem scCell : FnScope ["_law_script", "_law_k"] ["_law_script", "_law_k"] (defScope sCell) := ⟨rfl, rfl, rfl, by decide +kernel, rfl, by decide +kernel, by decide +kernel⟩
section
variable {P : Program} {w : World} {K : PySem.W.Frag} {mg : Str → Option Value} {base : Heap} {f : Addr} {fd : FuncData} {tb : List Addr} {k : Nat} {Rx : List PyData → Value → Prop}
def rCell (ds : List PyData) (d : PyData) : Prop := ∃ (ns : List Int) (k : Nat), ds = [.list (ns.map .int), .int k] ∧ d = .int (ns.getD k 0)
theorem ok_cell (F : FnP K "_law_cell_at" sCell f fd) (ml : mg "len" = none) : FnOk P w K mg base CX0 (k + 1) f fd ["_law_script", "_law_k"] (spD K tb 2 rCell) := by
  refine fn_ok F scCell (by decide) ?_
  rintro ds d ⟨ns, i, rfl, rfl⟩ A outer s H E hr
  refine bd_if (td_cmp op_lt rv_lt (ed_var 1) (ed_lenL ml (ed_var 0))) (fun h => bd_one (sd_ret (ed_ixL (ed_var 0) (ed_var 1) ?_))) rfl (fun h => bd_one ((sd_ret ed_int).is ?_))
  · have h1 := of_decide_eq_true h
    rw [List.length_map] at h1
    have h2 : i < ns.length := by omega
    refine atI_nat ?_
    rw [List.getElem?_map, List.getD_eq_getElem?_getD, List.getElem?_eq_getElem h2] <;> rfl
  · have h1 := of_decide_eq_false h
    rw [List.length_map] at h1
    have h2 : ns.length ≤ i := by omega
    rw [List.getD_eq_getElem?_getD, List.getElem?_eq_none h2] <;> rfl
end
end K4
namespace K4
open PySem PySem.Spec PyProof.Rows L2 DL LM
local macro_rules | `(tactic| walk_at "side") => `(tactic| first | assumption | decide | omega | (simp; done) | (simp; omega))
local macro_rules | `(tactic| walk_at "bin") => `(tactic| first | exact bin_add | exact bin_sub | exact bin_mul (by walk_at "side") | exact bin_fdiv (by walk_at "side") | exact bin_mod (by walk_at "side") | exact bin_catm (by walk_at "side") | exact bin_cat (by walk_at "side") | exact bin_addS (by walk_at "side"))
local macro_rules | `(tactic| walk_at "cmp") => `(tactic| first | exact cmp_lt | exact cmp_le | exact cmp_gt | exact cmp_ge | exact cmp_eqI | exact cmp_neI | exact cmp_eqS | exact cmp_neS | exact cmp_eqB | exact cmp_neB | exact cmp_isN | exact cmp_notN)
local macro_rules | `(tactic| walk_at "slc") => `(tactic| first | exact slc_lm | exact slc_l | exact slc_s (by walk_at "side"))
local macro_rules | `(tactic| walk_at "len") => `(tactic| first | exact len_lm | exact len_l rfl | exact len_t rfl | exact len_s (by walk_at "side"))
local macro_rules | `(tactic| walk_at "room") => `(tactic| exact Room.mono (by assumption) (by decide))

abbrev sJoined : Stmt := topS 19
abbrev sStep : Stmt := topS 20
abbrev sStBy : Stmt := topS 21
abbrev nJoined : List Str := ["_law_way", "_law_one", "_law_other"]
theorem scJoined : FnScope nJoined ["_law_way", "_law_one", "_law_other"] (defScope sJoined) := ⟨rfl, rfl, rfl, by decide +kernel, rfl, by decide +kernel, by decide +kernel⟩
abbrev nStep : List Str := ["_law_pile", "_law_cell", "_law_seed", "_law_way", "_law_rest"]
theorem scStep : FnScope nStep ["_law_pile", "_law_cell", "_law_seed"] (defScope sStep) := ⟨rfl, rfl, rfl, by decide +kernel, rfl, by decide +kernel, by decide +kernel⟩
abbrev nStBy : List Str := ["_law_cells", "_law_seed", "_law_pile", "_law_cell"]
theorem scStBy : FnScope nStBy ["_law_cells", "_law_seed"] (defScope sStBy) := ⟨rfl, rfl, rfl, by decide +kernel, rfl, by decide +kernel, by decide +kernel⟩
section
variable {P : Program} {w : World} {K : PySem.W.Frag} {mg : Str → Option Value} {base : Heap} {f : Addr} {fd : FuncData} {tb : List Addr} {k : Nat}
def rJoined (ds : List PyData) (d : PyData) : Prop := ∃ (way : Int) (one other : S), ds = [.int way, enc one, enc other] ∧ d = enc (joined way one other)
theorem ok_joined (F : FnP K "_law_joined" sJoined f fd) : FnOk P w K mg base CX0 (k + 1) f fd ["_law_way", "_law_one", "_law_other"] (spD K tb 3 rJoined) := by
  refine fn_ok F scJoined (by decide) ?_
  rintro ds d ⟨way, one, other, rfl, rfl⟩ A outer s H E hr
  have e0 : 0 ≤ way % 4 := Int.emod_nonneg _ (by decide)
  have e1 : way % 4 < 4 := Int.emod_lt_of_pos _ (by decide)
  refine (bd_if (td_cmpD (ed_bin (ed_bin (ed_var 0) ed_int (by walk_at "bin")) ed_int (by walk_at "bin")) ed_int (by walk_at "cmp")) (fun h =>
    (bd_left ((sd_ret (ed_tup (ad_cons (ed_item (ed_lst (ad_cons ed_str (ad_cons ed_str (ad_cons ed_str (ad_cons ed_str ad_nil)))) (by decide)) (ed_bin (ed_var 0) ed_int (by walk_at "bin")) (item_lo e0 e1)) (ad_cons (ed_var 2) (ad_cons (ed_var 1) ad_nil))) (by walk_at "side"))).is ?_))) rfl fun h =>
  (bd_left ((sd_ret (ed_tup (ad_cons (ed_item (ed_lst (ad_cons ed_str (ad_cons ed_str (ad_cons ed_str (ad_cons ed_str ad_nil)))) (by decide)) (ed_bin (ed_var 0) ed_int (by walk_at "bin")) (item_lo e0 e1)) (ad_cons (ed_var 1) (ad_cons (ed_var 2) ad_nil))) (by walk_at "side"))).is ?_)))
  · rw [op_item]
    unfold joined
    rw [if_pos (of_decide_eq_true h)] <;> rfl
  · rw [op_item]
    unfold joined
    rw [if_neg (of_decide_eq_false h)] <;> rfl
def rStep (ds : List PyData) (d : PyData) : Prop := ∃ (pile : List S) (cell seed : Int), ds = [.list (pile.map enc), .int cell, .int seed] ∧ pile.length ≤ 1000 ∧ d = .list ((stepP seed pile cell).map enc)
theorem ok_step {kn kj : Nat} (F : FnP K "_law_step" sStep f fd) (GN : FnG P w K mg base tb "_law_name_by" ["_law_seed", "_law_k"] kn rName) (GJ : FnG P w K mg base tb "_law_joined" ["_law_way", "_law_one", "_law_other"] kj rJoined)
    (ml : mg "len" = none) (h1 : kn ≤ k) (h2 : kj ≤ k) : FnOk P w K mg base CX0 (k + 1) f fd ["_law_pile", "_law_cell", "_law_seed"] (spD K tb 3 rStep) := by
  refine fn_ok F scStep (by decide) ?_
  rintro ds d ⟨pile, cell, seed, rfl, hl, rfl⟩ A outer s H E hr
  have nd := scStep.nd
  refine (bd_cons (sd_set 3 (ed_bin (ed_var 1) ed_int (by walk_at "bin")) nd)
    (bd_cons (sd_set 4 (ed_bin (ed_var 1) ed_int (by walk_at "bin")) nd) ?_))
  unfold stepP
  refine (bd_if (td_cmpD (ed_var 3) ed_int (by walk_at "cmp")) (fun h => ?_) rfl fun h => ?_)
  · have h := of_decide_eq_true h
    rw [if_pos h]
    exact bd_left (sd_ret (ed_bin (ed_var 0) ((ed_lst (ad_cons (ed_tup (ad_cons ed_str ad_nil) (by decide)) ad_nil) (by decide)).is (g := .list (([S.fls] : List S).map enc)) rfl) (bin_catm (by simp; omega))))
  have n1 := of_decide_eq_false h
  rw [if_neg n1]
  refine (bd_if (PWd.pt (wd_and2 (td_cmpD (ed_var 3) ed_int (by walk_at "cmp")) fun hw => (wd_and1 (td_cmpD (ed_len ml (ed_var 0) (by walk_at "len")) ed_int (by walk_at "cmp"))))) (fun h => ?_) rfl fun h => ?_)
  · simp only [Bool.and_eq_true, decide_eq_true_eq] at h
    have hp : 0 < pile.length := by omega
    rw [if_pos ⟨h.1, hp⟩]
    have r0 : 0 ≤ cell / 10 % (pile.length : Int) := Int.emod_nonneg _ (by omega)
    have r1 : cell / 10 % (pile.length : Int) < pile.length := Int.emod_lt_of_pos _ (by omega)
    exact bd_left (sd_ret (ed_bin (ed_var 0) ((ed_lst (ad_cons (ed_item (ed_var 0) (ed_bin (ed_var 4) (ed_len ml (ed_var 0) (by walk_at "len")) (bin_mod (by omega))) (item_lm (atI_pos .fls r0 r1))) ad_nil) (by simp)).is (g := .list (([pile.getD (cell / 10 % (pile.length : Int)).toNat .fls] : List S).map enc)) rfl) (bin_catm (by simp; omega))))
  have n2 : ¬ (cell % 10 = 5 ∧ 0 < pile.length) := fun z => by
    rw [decide_eq_true z.1, decide_eq_true (show (0 : Int) < pile.length by omega)] at h
    cases h
  rw [if_neg n2]
  refine (bd_if (PWd.pt (wd_and2 (td_cmpD (ed_var 3) ed_int (by walk_at "cmp")) fun hw => (wd_and1 (td_cmpD (ed_len ml (ed_var 0) (by walk_at "len")) ed_int (by walk_at "cmp"))))) (fun h => ?_) rfl fun h => ?_)
  · simp only [Bool.and_eq_true, decide_eq_true_eq] at h
    have hp : 0 < pile.length := by omega
    rw [if_pos ⟨h.1, hp⟩]
    exact bd_left (sd_ret (ed_bin ((ed_slc (ed_var 0) od_none (od_some (ed_neg ed_int)) slc_lm).is (g := .list (pile.dropLast.map enc)) (by rw [cut_init])) ((ed_lst (ad_cons (ed_tup (ad_cons ed_str (ad_cons (ed_item (ed_var 0) (ed_neg ed_int) (item_lm (getLastD_last hp))) (ad_cons (ed_tup (ad_cons ed_str ad_nil) (by decide)) ad_nil))) (by simp)) ad_nil) (by simp)).is (g := .list (([S.bin .thn (pile.getLastD .fls) .fls] : List S).map enc)) rfl) (bin_catm (by simp; omega))))
  have n3 : ¬ (cell % 10 = 6 ∧ 0 < pile.length) := fun z => by
    rw [decide_eq_true z.1, decide_eq_true (show (0 : Int) < pile.length by omega)] at h
    cases h
  rw [if_neg n3]
  refine (bd_if (PWd.pt (wd_and2 (td_cmpD (ed_var 3) ed_int (by walk_at "cmp")) fun hw => (wd_and1 (td_cmpD (ed_len ml (ed_var 0) (by walk_at "len")) ed_int (by walk_at "cmp"))))) (fun h => ?_) rfl fun h => ?_)
  · simp only [Bool.and_eq_true, decide_eq_true_eq] at h
    have hp : 1 < pile.length := by omega
    rw [if_pos ⟨h.1, hp⟩]
    exact bd_left (sd_ret (ed_bin ((ed_slc (ed_var 0) od_none (od_some (ed_neg ed_int)) slc_lm).is (g := .list ((pile.take (pile.length - 2)).map enc)) (by rw [cut_init2]))
      ((ed_lst (ad_cons (ed_call GJ (hr.mono h2) (ad_cons (ed_var 4) (ad_cons (ed_item (ed_var 0) (ed_neg ed_int) (item_lm (atI_two hp))) (ad_cons (ed_item (ed_var 0) (ed_neg ed_int) (item_lm (getLastD_last (by omega)))) ad_nil))) ⟨_, _, _, rfl, rfl⟩) ad_nil) (by simp)).is (g := .list (([joined (cell / 10) (pile.getD (pile.length - 2) .fls) (pile.getLastD .fls)] : List S).map enc)) rfl) (bin_catm (by simp; omega))))
  have n4 : ¬ (6 < cell % 10 ∧ 1 < pile.length) := fun z => by
    rw [decide_eq_true z.1, decide_eq_true (show (1 : Int) < pile.length by omega)] at h
    cases h
  rw [if_neg n4]
  have c0 : 0 ≤ cell / 10 % 4 := Int.emod_nonneg _ (by decide)
  have c1 : cell / 10 % 4 < 4 := Int.emod_lt_of_pos _ (by decide)
  exact bd_left (sd_ret (ed_bin (ed_var 0) ((ed_lst (ad_cons (ed_tup (ad_cons ed_str (ad_cons (ed_call GN (hr.mono h1) (ad_cons (ed_var 2) (ad_cons (ed_bin (ed_var 4) ed_int (by walk_at "bin")) ad_nil)) ⟨_, _, rfl, c0, by omega, rfl⟩) ad_nil)) (by simp)) ad_nil) (by simp)).is (g := .list (([S.nm (nameBy seed (cell / 10 % 4))] : List S).map enc)) rfl) (bin_catm (by simp; omega))))
end
end K4
namespace K4
open PySem PySem.Spec PyProof.Rows L2 DL LM
local macro_rules | `(tactic| walk_at "side") => `(tactic| first | assumption | decide | omega | (simp; done) | (simp; omega))
local macro_rules | `(tactic| walk_at "bin") => `(tactic| first | exact bin_add | exact bin_sub | exact bin_mul (by walk_at "side") | exact bin_fdiv (by walk_at "side") | exact bin_mod (by walk_at "side") | exact bin_catm (by walk_at "side") | exact bin_cat (by walk_at "side") | exact bin_addS (by walk_at "side"))
local macro_rules | `(tactic| walk_at "cmp") => `(tactic| first | exact cmp_lt | exact cmp_le | exact cmp_gt | exact cmp_ge | exact cmp_eqI | exact cmp_neI | exact cmp_eqS | exact cmp_neS | exact cmp_eqB | exact cmp_neB | exact cmp_isN | exact cmp_notN)
local macro_rules | `(tactic| walk_at "slc") => `(tactic| first | exact slc_lm | exact slc_l | exact slc_s (by walk_at "side"))
local macro_rules | `(tactic| walk_at "len") => `(tactic| first | exact len_lm | exact len_l rfl | exact len_t rfl | exact len_s (by walk_at "side"))
local macro_rules | `(tactic| walk_at "room") => `(tactic| exact Room.mono (by assumption) (by decide))

section
variable {P : Program} {w : World} {K : PySem.W.Frag} {mg : Str → Option Value} {base : Heap} {f : Addr} {fd : FuncData} {tb : List Addr} {k : Nat}
def rStBy (ds : List PyData) (d : PyData) : Prop := ∃ (cells : List Int) (seed : Int), ds = [.list (cells.map .int), .int seed] ∧ cells.length ≤ 60 ∧ d = enc (stBy cells seed)
theorem ok_stBy {kn ks : Nat} (F : FnP K "_law_statement_by" sStBy f fd) (GN : FnG P w K mg base tb "_law_name_by" ["_law_seed", "_law_k"] kn rName) (GS : FnG P w K mg base tb "_law_step" ["_law_pile", "_law_cell", "_law_seed"] ks rStep)
    (ml : mg "len" = none) (h1 : kn ≤ k) (h2 : ks ≤ k) : FnOk P w K mg base CX0 (k + 1) f fd ["_law_cells", "_law_seed"] (spD K tb 2 rStBy) := by
  refine fn_ok F scStBy (by decide) ?_
  rintro ds d ⟨cells, seed, rfl, hl, rfl⟩ A outer s H E hr
  have nd := scStBy.nd
  have pl := pileOf_pl seed cells
  have plen := pileOf_len seed cells
  refine bd_cons (sd_set 2 ((ed_lst ad_nil (by decide)).is (g := .list (([] : List S).map enc)) rfl) nd) ?_
  -- the cells, one by one
  refine bd_cons (es := [.dat (.list (cells.map .int)), .dat (.int seed), .dat (.list ((pileOf seed cells).map enc)), .no]) ?_ ?_
  · refine (sd_for (items := cells.map .int) 3 (fun i => [.dat (.list (cells.map .int)), .dat (.int seed), .dat (.list (((cells.take i).foldl (stepP seed) []).map enc)), .no]) PassesOwn.never rfl (id_list (ed_var 0)) nd rfl (fun i d e => ?_)).is ?_
    · rw [List.getElem?_map] at e
      cases q : cells[i]? with
      | none =>
        rw [q] at e
        cases e
      | some c =>
        rw [q] at e
        cases e
        have hi := (List.getElem?_eq_some_iff.mp q).1
        have tk : cells.take (i + 1) = cells.take i ++ [c] := by rw [List.take_add_one, q] <;> rfl
        have ln := fold_len seed (cells.take i) []
        rw [List.length_nil, List.length_take] at ln
        rw [tk, List.foldl_append]
        exact bd_wk (bd_cons (sd_set 2 (ed_call GS (hr.mono h2) (ad_cons (ed_var 2) (ad_cons (ed_var 3) (ad_cons (ed_var 1) ad_nil))) ⟨_, _, _, rfl, by omega, rfl⟩) nd) bd_nil) (.same _ (.same _ (.same _ (.no _ .nil))))
    · rw [List.length_map, List.take_length]
      rfl
  -- thens from the right
  generalize hp : pileOf seed cells = p at pl plen
  refine bd_cons (es := [.dat (.list (cells.map .int)), .dat (.int seed), .dat (.list ((thens (p.length - 1) p).map enc)), .no]) ?_ ?_
  · refine sd_while (p.length - 1) (fun i => [.dat (.list (cells.map .int)), .dat (.int seed), .dat (.list ((thens i p).map enc)), .no]) PassesOwn.never rfl (fun i hi => ⟨?_, ?_⟩) ?_
    · have l := thens_len p i (by omega)
      exact (td_cmpD (ed_len ml (ed_var 2) (by walk_at "len")) ed_int (by walk_at "cmp")).is (decide_eq_true (by omega))
    · have l := thens_len p i (by omega)
      refine (bd_cons (sd_set 2 (ed_bin ((ed_slc (ed_var 2) od_none (od_some (ed_neg ed_int)) slc_lm).is (g := .list (((thens i p).take ((thens i p).length - 2)).map enc)) (by rw [cut_init2])) ((ed_lst (ad_cons (ed_tup (ad_cons ed_str (ad_cons (ed_item (ed_var 2) (ed_neg ed_int) (item_lm (atI_two (by omega)))) (ad_cons (ed_item (ed_var 2) (ed_neg ed_int) (item_lm (getLastD_last (by omega)))) ad_nil))) (by simp)) ad_nil) (by simp)).is (g := .list (([S.bin .thn ((thens i p).getD ((thens i p).length - 2) .fls) ((thens i p).getLastD .fls)] : List S).map enc)) rfl) (bin_catm (by simp; omega))) nd)
        bd_nil).is ?_
      rfl
    · refine (td_cmpD (ed_len ml (ed_var 2) (by walk_at "len")) ed_int (by walk_at "cmp")).is (decide_eq_false ?_)
      by_cases h : 0 < p.length
      · have l := thens_len p (p.length - 1) (by omega)
        omega
      · have e : p = [] := List.eq_nil_of_length_eq_zero (by omega)
        rw [e]
        decide
  have qs : Pl cells.length (thens (p.length - 1) p) := by
    by_cases h : 0 < p.length
    · exact thens_pl pl _ (by omega)
    · have e : p = [] := List.eq_nil_of_length_eq_zero (by omega)
      rw [e] at pl ⊢
      exact pl
  have ll : (thens (p.length - 1) p).length ≤ 1 := by
    by_cases h : 0 < p.length
    · have l := thens_len p (p.length - 1) (by omega)
      omega
    · have e : p = [] := List.eq_nil_of_length_eq_zero (by omega)
      rw [e]
      decide
  have es : stBy cells seed = match thens (p.length - 1) p with
      | [] => .nm (nameBy seed 0)
      | s :: _ => s := by
    unfold stBy
    rw [hp] <;> rfl
  rw [es]
  generalize thens (p.length - 1) p = q at qs ll
  refine (bd_if (td_cmpD (ed_var 2) (ed_lst ad_nil (by decide)) (cmp_eqD hr (encs_shaped qs.2 (by have := qs.1; omega)) (by decide))) (fun h =>
    (bd_left ((sd_ret (ed_tup (ad_cons ed_str (ad_cons (ed_call GN (hr.mono h1) (ad_cons (ed_var 1) (ad_cons ed_int ad_nil)) ⟨_, _, rfl, by decide, by decide, rfl⟩) ad_nil)) (by simp))).is ?_))) rfl fun h => ?_)
  · rw [eqv_nil] at h
    cases q with
    | nil => rfl
    | cons s r => cases h
  · rw [eqv_nil] at h
    cases q with
    | nil => cases h
    | cons s r => exact bd_left (sd_ret (ed_item (ed_var 2) ed_int (item_l (xs := enc s :: r.map enc) (f := enc s) (atI_nat (j := 0) rfl))))
end
end K4
namespace K4
open PySem PySem.Spec PyProof.Rows L2 DL LM RM
local macro_rules | `(tactic| walk_at "side") => `(tactic| first | assumption | decide | omega | (simp; done) | (simp; omega))
local macro_rules | `(tactic| walk_at "bin") => `(tactic| first | exact bin_add | exact bin_sub | exact bin_mul (by walk_at "side") | exact bin_fdiv (by walk_at "side") | exact bin_mod (by walk_at "side") | exact bin_catm (by walk_at "side") | exact bin_cat (by walk_at "side") | exact bin_addS (by walk_at "side"))
local macro_rules | `(tactic| walk_at "cmp") => `(tactic| first | exact cmp_lt | exact cmp_le | exact cmp_gt | exact cmp_ge | exact cmp_eqI | exact cmp_neI | exact cmp_eqS | exact cmp_neS | exact cmp_eqB | exact cmp_neB | exact cmp_isN | exact cmp_notN)
local macro_rules | `(tactic| walk_at "slc") => `(tactic| first | exact slc_lm | exact slc_l | exact slc_s (by walk_at "side"))
local macro_rules | `(tactic| walk_at "len") => `(tactic| first | exact len_lm | exact len_l rfl | exact len_t rfl | exact len_s (by walk_at "side"))
local macro_rules | `(tactic| walk_at "room") => `(tactic| exact Room.mono (by assumption) (by decide))

abbrev sIsNm : Stmt := topS 8
theorem scIsNm : FnScope ["thing"] ["thing"] (defScope sIsNm) := ⟨rfl, rfl, rfl, by decide +kernel, rfl, by decide +kernel, by decide +kernel⟩
section
variable {P : Program} {w : World} {K : PySem.W.Frag} {mg : Str → Option Value} {base : Heap} {f : Addr} {fd : FuncData} {tb : List Addr} {k : Nat}
def szD : PyData → Prop
  | .str z => z.length ≤ 16000000
  | _ => True
def rIsNm (ds : List PyData) (d : PyData) : Prop := ∃ e : PyData, ds = [e] ∧ szD e ∧ d = .bool (isNmD e)
theorem ok_isNm {C Pt : Addr} (F : FnP K "is_name" sIsNm f fd) (hP : Pt ∈ tb) (TB : GxR.TabB base mg C Pt) (hcode : fd.code = .ref C) (ml : mg "len" = none) (mi : mg "isinstance" = none) (ms : mg "str" = none) (ma : mg "all" = none) (mL : ∃ t, mg "LONGEST_NAME" = some (.int 8 t)) :
    FnOk P w K mg base CX0 (k + 1) f fd ["thing"] (spD K tb 1 rIsNm) := by
  refine fn_ok F scIsNm (by decide) ?_
  rintro ds d ⟨e, rfl, hz, rfl⟩ A outer s H E hr
  have other : (tyD e == "str") = false → isNmD e = false → kitB (tyD e) "str" = some false → PBd (cxOf CX0 P w K mg base ["thing"] "is_name" (defScope sIsNm) f fd.code A outer s H E).nox tb W0 (defBody sIsNm) (sd ["thing"] [e]) (.rt (.bool (isNmD e))) := fun h1 h2 h3 => by
    rw [h2]
    exact (bd_if (PWd.pt (wd_ort (td_not (td_val (ed_isi (T := "str") h3 mi ms (ed_var 0)))))) (fun h => bd_left (sd_ret ed_bl)) rfl fun h => nomatch h)
  cases e with
  | str z =>
    have hz' : z.length ≤ 16000000 := hz
    refine (bd_if (PWd.pt (wd_or2 (td_not (td_val (ed_isi (T := "str") (k := true) (d := .str z) (by show kitB "str" "str" = some true; decide +kernel) mi ms (ed_var 0)))) fun hw => (wd_or1 (td_not (td_chain ed_int (ed_len ml (ed_var 0) (by walk_at "len")) (ed_gInt mL) (by walk_at "cmp") (by walk_at "cmp")))))) (fun h => bd_left ((sd_ret ed_bl).is ?_)) rfl fun h => ?_)
    · show Out.rt (.bool false) = .rt (.bool (isNm z))
      have h' : (decide ((1 : Int) ≤ (z.length : Int)) && decide ((z.length : Int) ≤ 8)) = false := by
        rw [Bool.not_true, Bool.false_or] at h
        revert h
        cases (decide ((1 : Int) ≤ (z.length : Int)) && decide ((z.length : Int) ≤ 8)) <;> intro h
        · rfl
        · cases h
      have e1 : decide ((1 : Int) ≤ (z.length : Int)) = decide (1 ≤ z.length) := decide_eq_decide.mpr (by omega)
      have e2 : decide ((z.length : Int) ≤ 8) = decide (z.length ≤ 8) := decide_eq_decide.mpr (by omega)
      rw [e1, e2] at h'
      unfold isNm
      rw [h'] <;> rfl
    · have h' : (decide ((1 : Int) ≤ (z.length : Int)) && decide ((z.length : Int) ≤ 8)) = true := by simpa using h
      have e1 : decide ((1 : Int) ≤ (z.length : Int)) = decide (1 ≤ z.length) := decide_eq_decide.mpr (by omega)
      have e2 : decide ((z.length : Int) ≤ 8) = decide (z.length ≤ 8) := decide_eq_decide.mpr (by omega)
      rw [e1, e2] at h'
      refine bd_left ((sd_ret (ed_allS hP hr ma TB hcode ⟨rfl, rfl, by decide +kernel, rfl, rfl, fun y hy e => absurd e (by revert y; decide +kernel)⟩ (ed_var 0) (elt_low rfl rfl))).is ?_)
      show _ = Out.rt (.bool (isNm z))
      unfold isNm
      rw [h'] <;> rfl
  | none => exact other rfl rfl (by decide +kernel)
  | bool b => exact other rfl rfl (by show kitB "bool" "str" = some false; decide +kernel)
  | int b => exact other rfl rfl (by show kitB "int" "str" = some false; decide +kernel)
  | list b => exact other rfl rfl (by show kitB "list" "str" = some false; decide +kernel)
  | tuple b => exact other rfl rfl (by show kitB "tuple" "str" = some false; decide +kernel)
  | dict b => exact other rfl rfl (by show kitB "dict" "str" = some false; decide +kernel)
end
end K4
namespace K4
open PySem PySem.Spec PyProof.Rows L2 DL LM RM
local macro_rules | `(tactic| walk_at "side") => `(tactic| first | assumption | decide | omega | (simp; done) | (simp; omega))
local macro_rules | `(tactic| walk_at "bin") => `(tactic| first | exact bin_add | exact bin_sub | exact bin_mul (by walk_at "side") | exact bin_fdiv (by walk_at "side") | exact bin_mod (by walk_at "side") | exact bin_catm (by walk_at "side") | exact bin_cat (by walk_at "side") | exact bin_addS (by walk_at "side"))
local macro_rules | `(tactic| walk_at "cmp") => `(tactic| first | exact cmp_lt | exact cmp_le | exact cmp_gt | exact cmp_ge | exact cmp_eqI | exact cmp_neI | exact cmp_eqS | exact cmp_neS | exact cmp_eqB | exact cmp_neB | exact cmp_isN | exact cmp_notN)
local macro_rules | `(tactic| walk_at "slc") => `(tactic| first | exact slc_lm | exact slc_l | exact slc_s (by walk_at "side"))
local macro_rules | `(tactic| walk_at "len") => `(tactic| first | exact len_lm | exact len_l rfl | exact len_t rfl | exact len_s (by walk_at "side"))
local macro_rules | `(tactic| walk_at "room") => `(tactic| exact Room.mono (by assumption) (by decide))

abbrev sLWritten : Stmt := topS 22
abbrev nLWritten : List Str := ["_law_statement", "_law_sign"]
theorem scLWritten : FnScope nLWritten ["_law_statement"] (defScope sLWritten) := ⟨rfl, rfl, rfl, by decide +kernel, rfl, by decide +kernel, by decide +kernel⟩
section
variable {P : Program} {w : World} {K : PySem.W.Frag} {mg : Str → Option Value} {base : Heap} {f : Addr} {fd : FuncData} {tb : List Addr} {k : Nat}
def rWr (n : Nat) (ds : List PyData) (d : PyData) : Prop := ∃ s : S, ds = [enc s] ∧ Ok s ∧ dep s ≤ n ∧ uN s ≤ 8000000 ∧ d = .str (wr s)
/-- the law's own -/
theorem ok_lwritten {n : Nat} (F : FnP K "_law_written" sLWritten f fd) (G : FnG P w K mg base tb "_law_written" ["_law_statement"] k (rWr n)) : FnOk P w K mg base CX0 (k + 1) f fd ["_law_statement"] (spD K tb 1 (rWr (n + 1))) := by
  refine fn_ok F scLWritten (by decide) ?_
  rintro ds d ⟨s, rfl, hok, hd, hu, rfl⟩ A outer s' H E hr
  have nd := scLWritten.nd
  cases s with
  | nm v =>
    refine (bd_if ((td_cmpD (ed_item (d := enc (.nm v)) (f := .str "name") (ed_var 0) ed_int (item_t (atI_nat (j := 0) rfl))) ed_str (by walk_at "cmp")).is (decide_eq_true rfl)) (fun h =>
      (bd_left ((sd_ret (ed_item (d := enc (.nm v)) (f := .str v) (ed_var 0) ed_int (item_t (atI_nat (j := 1) rfl)))).is ?_))) rfl fun h => nomatch h)
    rw [wr_nm]
  | fls =>
    refine (bd_if ((td_cmpD (ed_item (d := enc .fls) (f := .str "false") (ed_var 0) ed_int (item_t (atI_nat (j := 0) rfl))) ed_str (by walk_at "cmp")).is (decide_eq_false (by decide +kernel))) (fun h => nomatch h) rfl fun h => ?_)
    exact (bd_if ((td_cmpD (ed_item (d := enc .fls) (f := .str "false") (ed_var 0) ed_int (item_t (atI_nat (j := 0) rfl))) ed_str (by walk_at "cmp")).is (decide_eq_true rfl)) (fun h => (bd_left ((sd_ret ed_str).is rfl))) rfl fun h => nomatch h)
  | bin o a b =>
    have hd' : max (dep a) (dep b) + 1 ≤ n + 1 := hd
    have hu' := hu
    rw [uN_bin] at hu'
    have la := uN_eq a
    have lb := uN_eq b
    have lo := sgnS_len o
    refine (bd_if ((td_cmpD (ed_item (d := enc (.bin o a b)) (f := .str o.word) (ed_var 0) ed_int (item_t (atI_nat (j := 0) rfl))) ed_str (by walk_at "cmp")).is (decide_eq_false (word_ne o).1)) (fun h => nomatch h) rfl fun h => ?_)
    refine (bd_if ((td_cmpD (ed_item (d := enc (.bin o a b)) (f := .str o.word) (ed_var 0) ed_int (item_t (atI_nat (j := 0) rfl))) ed_str (by walk_at "cmp")).is (decide_eq_false (word_ne o).2)) (fun h => nomatch h) rfl fun h => ?_)
    refine (bd_cons (sd_set 1 (ed_dispGet (v := sgnS o) hr (.cons (.cons (.cons .nil))) (ed_item (d := enc (.bin o a b)) (f := .str o.word) (ed_var 0) ed_int (item_t (atI_nat (j := 0) rfl))) (by cases o <;> decide +kernel)) nd) ?_)
    have l1 : ∀ x y : Str, (x ++ y).length = x.length + y.length := app_len
    have e1 : ("(" : Str).length = 1 := rfl
    have e2 : (" " : Str).length = 1 := rfl
    have e3 : (")" : Str).length = 1 := rfl
    exact bd_left (sd_ret ((ed_bin (ed_bin (ed_bin (ed_bin (ed_bin (ed_bin ed_str
      (ed_call G hr (ad_cons (ed_item (d := enc (.bin o a b)) (f := enc a) (ed_var 0) ed_int (item_t (atI_nat (j := 1) rfl))) ad_nil) ⟨a, rfl, hok.1, by omega, by omega, rfl⟩) (bin_addS (by omega)))
      ed_str (bin_addS (by rw [l1]; omega))) (ed_var 1) (bin_addS (by rw [l1, l1]; omega))) ed_str (bin_addS (by rw [l1, l1, l1]; omega)))
      (ed_call G hr (ad_cons (ed_item (d := enc (.bin o a b)) (f := enc b) (ed_var 0) ed_int (item_t (atI_nat (j := 2) rfl))) ad_nil) ⟨b, rfl, hok.2, by omega, by omega, rfl⟩) (bin_addS (by rw [l1, l1, l1, l1]; omega)))
      ed_str (bin_addS (by rw [l1, l1, l1, l1, l1]; omega))).is (congrArg PyData.str (wr_bin2 o a b))))
theorem lwr_all (F : FnP K "_law_written" sLWritten f fd) (hm : mg "_law_written" = some (.ref f)) (hk : PySem.W.keepIn K (.ref f) = true) (hb : Binds K fd ["_law_statement"] []) : ∀ n : Nat, FnG P w K mg base tb "_law_written" ["_law_statement"] (n + 1) (rWr n)
  | 0 => ⟨f, fd, (fn_ok (k := 0) F scLWritten (by decide) fun ds d h => by
      obtain ⟨s, _, _, hd, _⟩ := h
      have := dep_pos s
      omega), hm, hk, hb⟩
  | n + 1 => ⟨f, fd, ok_lwritten F (lwr_all F hm hk hb n), hm, hk, hb⟩
end
end K4
namespace K4
open PySem PySem.Spec PyProof.Rows L2 DL LM RM
local macro_rules | `(tactic| walk_at "side") => `(tactic| first | assumption | decide | omega | (simp; done) | (simp; omega))
local macro_rules | `(tactic| walk_at "bin") => `(tactic| first | exact bin_add | exact bin_sub | exact bin_mul (by walk_at "side") | exact bin_fdiv (by walk_at "side") | exact bin_mod (by walk_at "side") | exact bin_catm (by walk_at "side") | exact bin_cat (by walk_at "side") | exact bin_addS (by walk_at "side"))
local macro_rules | `(tactic| walk_at "cmp") => `(tactic| first | exact cmp_lt | exact cmp_le | exact cmp_gt | exact cmp_ge | exact cmp_eqI | exact cmp_neI | exact cmp_eqS | exact cmp_neS | exact cmp_eqB | exact cmp_neB | exact cmp_isN | exact cmp_notN)
local macro_rules | `(tactic| walk_at "slc") => `(tactic| first | exact slc_lm | exact slc_l | exact slc_s (by walk_at "side"))
local macro_rules | `(tactic| walk_at "len") => `(tactic| first | exact len_lm | exact len_l rfl | exact len_t rfl | exact len_s (by walk_at "side"))
local macro_rules | `(tactic| walk_at "room") => `(tactic| exact Room.mono (by assumption) (by decide))

abbrev sRead : Stmt := topS 12
abbrev sReadAt : Stmt := topS 13
abbrev sReadJo : Stmt := topS 14
abbrev sReadNm : Stmt := topS 15
abbrev nRead : List Str := ["text", "statement", "end"]
abbrev nReadAt : List Str := ["text", "start", "room", "sign"]
abbrev nReadJo : List Str := ["text", "start", "room", "first", "joint", "word", "second", "end"]
abbrev nReadNm : List Str := ["text", "start", "end"]
theorem scRead : FnScope nRead ["text"] (defScope sRead) := ⟨rfl, rfl, rfl, by decide +kernel, rfl, by decide +kernel, by decide +kernel⟩
theorem scReadAt : FnScope nReadAt ["text", "start", "room"] (defScope sReadAt) := ⟨rfl, rfl, rfl, by decide +kernel, rfl, by decide +kernel, by decide +kernel⟩
theorem scReadJo : FnScope nReadJo ["text", "start", "room"] (defScope sReadJo) := ⟨rfl, rfl, rfl, by decide +kernel, rfl, by decide +kernel, by decide +kernel⟩
theorem scReadNm : FnScope nReadNm ["text", "start"] (defScope sReadNm) := ⟨rfl, rfl, rfl, by decide +kernel, rfl, by decide +kernel, by decide +kernel⟩
section
variable {P : Program} {w : World} {K : PySem.W.Frag} {mg : Str → Option Value} {base : Heap} {f : Addr} {fd : FuncData} {tb : List Addr} {k : Nat} {Rx Ry Rz : List PyData → Value → Prop}
/-- the raising side of a def -/
def HX (P : Program) (w : World) (K : PySem.W.Frag) (mg : Str → Option Value) (base : Heap) (tb : List Addr) (k : Nat) (x : Str) (st : Stmt) (N : List Str) (f : Addr) (fd : FuncData) (Rx : List PyData → Value → Prop) : Prop :=
  ∀ (ds : List PyData) (c : Value), Rx ds c → ∀ (A : Around) (outer : List PySem.Env) (s : Shared) (H : Hp) (E : XK), Room k (A.deeper (envOfC x (defScope st) s.heap.objs.size f fd.code)) →
    PBd (cxOf (L2.CX P w) P w K mg base N x (defScope st) f fd.code A outer s H E) tb (fun c d _ H => E c d H) (defBody st) (sd N ds) (.ex c)
def rNm (ds : List PyData) (d : PyData) : Prop := ∃ (z : Str) (st n : Nat), ds = [.str z, .int st] ∧ z.length ≤ 8000000 ∧ n = runL (z.cps.toList.drop st) ∧ 1 ≤ n ∧ n ≤ 8 ∧ d = .tuple [enc (.nm (ofL ((z.cps.toList.drop st).take n))), .int (st + n : Nat)]
theorem ok_readNm {kn : Nat} (F : FnP K "read_name" sReadNm f fd) (G : FnG P w K mg base tb "is_name" ["thing"] kn rIsNm) (h1 : kn ≤ k) (hx : HX P w K mg base tb k "read_name" sReadNm nReadNm f fd Rx) :
    FnOk P w K mg base (L2.CX P w) (k + 1) f fd ["text", "start"] (spX K tb 2 rNm Rx) := by
  refine fnx_ok F scReadNm (by decide) ?_ hx
  rintro ds d ⟨z, st, n, rfl, hz, hn, n1, n8, rfl⟩ A outer s H E hr
  have nd := scReadNm.nd
  have sz : ∀ l : List Nat, l.length ≤ z.cps.toList.length → szD (.str (ofL l)) := fun l hl => by
    show (ofL l).length ≤ 16000000
    rw [ofL_len]
    rw [str_len] at hz
    omega
  refine bd_cons (sd_set 2 (ed_var 1) nd) ?_
  refine bd_cons (es := [.dat (.str z), .dat (.int st), .dat (.int (st + n : Nat))]) ?_ ?_
  · refine sd_while n (fun i => [.dat (.str z), .dat (.int st), .dat (.int (st + i : Nat))]) (passes_of rfl) rfl (fun i hi => ⟨?_, ?_⟩) ?_
    · rw [hn] at hi
      refine td_val (ed_call G (hr.mono h1) (ad_cons (ed_slc (ed_var 0) (od_some (ed_var 2)) (od_some (ed_bin (ed_var 2) ed_int (by walk_at "bin"))) (slc_s (by omega))) ad_nil) ⟨_, rfl, ?_, ?_⟩)
      · rw [cut_1]
        refine sz _ ?_
        rw [List.length_take, List.length_drop]
        omega
      · rw [cut_1]
        exact (congrArg PyData.bool (run_on hi)).symm
    · exact (bd_cons (sd_augAdd 2 ed_int rfl nd) bd_nil).is rfl
    · refine td_val (ed_call G (hr.mono h1) (ad_cons (ed_slc (ed_var 0) (od_some (ed_var 2)) (od_some (ed_bin (ed_var 2) ed_int (by walk_at "bin"))) (slc_s (by omega))) ad_nil) ⟨_, rfl, ?_, ?_⟩)
      · rw [cut_1]
        refine sz _ ?_
        rw [List.length_take, List.length_drop]
        omega
      · rw [cut_1, hn]
        exact (congrArg PyData.bool (run_off _ _)).symm
  have ec : cutS z (some (st : Int)) (some ((st + n : Nat) : Int)) = ofL ((z.cps.toList.drop st).take n) := by
    rw [cut_nn, show st + n - st = n by omega]
  refine (bd_if (k := false) (td_not (k := true) (td_val (ed_call G (hr.mono h1) (ad_cons (ed_slc (ed_var 0) (od_some (ed_var 1)) (od_some (ed_var 2)) (slc_s (by omega))) ad_nil) ⟨_, rfl, ?_, ?_⟩))) (fun h => nomatch h) rfl fun h => ?_)
  · rw [ec]
    refine sz _ ?_
    rw [List.length_take, List.length_drop]
    omega
  · rw [ec]
    have := run_isNm (z.cps.toList.drop st)
    rw [← hn, decide_eq_true n1, decide_eq_true n8] at this
    exact (congrArg PyData.bool this).symm
  · exact bd_left ((sd_ret (ed_tup (ad_cons (ed_tup (ad_cons ed_str (ad_cons (ed_slc (ed_var 0) (od_some (ed_var 1)) (od_some (ed_var 2)) (slc_s (by omega))) ad_nil)) (by simp)) (ad_cons (ed_var 2) ad_nil)) (by simp))).is (by rw [ec] <;> rfl))
def rAt (room : Nat) (ds : List PyData) (d : PyData) : Prop := ∃ (z : Str) (st n : Nat) (s : S), ds = [.str z, .int st, .int room] ∧ z.length ≤ 8000000 ∧ parse room (z.cps.toList.drop st) = some (s, n) ∧ d = .tuple [enc s, .int (st + n : Nat)]
def rJo (room : Nat) (ds : List PyData) (d : PyData) : Prop := ∃ (z : Str) (st n : Nat) (s : S), ds = [.str z, .int st, .int room] ∧ z.length ≤ 8000000 ∧ (z.cps.toList.drop st).take 1 = [40] ∧ parse room (z.cps.toList.drop st) = some (s, n) ∧ d = .tuple [enc s, .int (st + n : Nat)]
theorem ofL_is {l : List Nat} {c : Nat} : (ofL l = ofL [c]) ↔ l = [c] := ⟨ofL_inj, fun h => by rw [h]⟩
theorem ok_readAt {room kj kn : Nat} (F : FnP K "read_at" sReadAt f fd) (GJ : FnX P w K mg base tb "read_joined" ["text", "start", "room"] kj (rJo (room + 1)) Ry) (GN : FnX P w K mg base tb "read_name" ["text", "start"] kn rNm Rz) (h1 : kj ≤ k) (h2 : kn ≤ k)
    (hx : HX P w K mg base tb k "read_at" sReadAt nReadAt f fd Rx) :
    FnOk P w K mg base (L2.CX P w) (k + 1) f fd ["text", "start", "room"] (spX K tb 3 (rAt (room + 1)) Rx) := by
  refine fnx_ok F scReadAt (by decide) ?_ hx
  rintro ds d ⟨z, st, n, s, rfl, hz, hp, rfl⟩ A outer s' H E hr
  have nd := scReadAt.nd
  refine (bd_if ((td_cmpD (ed_var 2) ed_int (by walk_at "cmp")).is (decide_eq_false (by omega))) (fun h => nomatch h) rfl fun h => ?_)
  refine (bd_cons (sd_set 3 ((ed_slc (ed_var 0) (od_some (ed_var 1)) (od_some (ed_bin (ed_var 1) ed_int (by walk_at "bin"))) (slc_s (by omega))).is (congrArg PyData.str (cut_1 z st))) nd) ?_)
  refine (bd_if (td_cmpD (ed_var 3) ed_str (by walk_at "cmp")) (fun h => ?_) rfl fun h => ?_)
  · have h := ofL_is.mp (show ofL _ = ofL [40] from of_decide_eq_true h)
    exact (bd_left (sd_ret (ed_callX GJ (hr.mono h1) (ad_cons (ed_var 0) (ad_cons (ed_var 1) (ad_cons (ed_var 2) ad_nil))) ⟨z, st, n, s, rfl, hz, h, hp, rfl⟩)))
  have n1 : ¬ (z.cps.toList.drop st).take 1 = [40] := fun e => of_decide_eq_false h (show ofL _ = ofL [40] from ofL_is.mpr e)
  refine (bd_if (td_cmpD (ed_var 3) ed_str (by walk_at "cmp")) (fun h => ?_) rfl fun h => ?_)
  · have h := ofL_is.mp (show ofL _ = ofL [35] from of_decide_eq_true h)
    obtain ⟨rfl, rfl⟩ := parse_fls n1 h hp
    exact (bd_left ((sd_ret (ed_tup (ad_cons (ed_tup (ad_cons ed_str ad_nil) (by decide)) (ad_cons (ed_bin (ed_var 1) ed_int (by walk_at "bin")) ad_nil)) (by simp))).is rfl))
  have n2 : ¬ (z.cps.toList.drop st).take 1 = [35] := fun e => of_decide_eq_false h (show ofL _ = ofL [35] from ofL_is.mpr e)
  obtain ⟨a1, a2, rfl, rfl⟩ := parse_nm n1 n2 hp
  exact (bd_left (sd_ret (ed_callX GN (hr.mono h2) (ad_cons (ed_var 0) (ad_cons (ed_var 1) ad_nil)) ⟨z, st, _, rfl, hz, rfl, a1, a2, rfl⟩)))
/-- the module's table WORDS: what is there -/
structure Wordy (w : World) (K : PySem.W.Frag) (mg : Str → Option Value) : Prop where
  ex : ∃ (A : Addr) (es : Array DictEntry) (n : Nat), mg "WORDS" = some (.ref A) ∧ KDict K w A es n ∧ ∀ o : Op, ∃ u, PySem.W.nsIn K A (ofL [32, Op.sgn o, 32]) = some (some u) ∧ RelV (.str o.word) u
theorem e_room (room : Nat) : ((room + 1 : Nat) : Int) - 1 = (room : Int) := by omega
theorem ok_readJo {room ka : Nat} (F : FnP K "read_joined" sReadJo f fd) (G : FnX P w K mg base tb "read_at" ["text", "start", "room"] ka (rAt room) Ry) (T : Wordy w K mg) (mJ : ∃ t, mg "JOINT_LENGTH" = some (.int 3 t)) (h1 : ka ≤ k)
    (hx : HX P w K mg base tb k "read_joined" sReadJo nReadJo f fd Rx) :
    FnOk P w K mg base (L2.CX P w) (k + 1) f fd ["text", "start", "room"] (spX K tb 3 (rJo (room + 1)) Rx) := by
  obtain ⟨A0, es, n0, hS, hK, hV⟩ := T.ex
  refine fnx_ok F scReadJo (by decide) ?_ hx
  rintro ds d ⟨z, st, n, s, rfl, hz, hb, hp, rfl⟩ A outer s' H E hr
  have nd := scReadJo.nd
  obtain ⟨o, a, b, na, nb, rfl, rfl, e1, e2, e3, e4⟩ := parse_br hb hp
  obtain ⟨u, v1, v2⟩ := hV o
  refine (bd_cons (sd_unpack 3 4 (d1 := enc a) (d2 := .int (st + 1 + na : Nat)) (ed_callX G (hr.mono h1) (ad_cons (ed_var 0) (ad_cons (ed_bin (ed_var 1) ed_int (by walk_at "bin")) (ad_cons (ed_bin (ed_var 2) ed_int (by walk_at "bin")) ad_nil))) ⟨z, st + 1, na, a, by rw [e_room] <;> rfl, hz, e1, rfl⟩) rfl nd) ?_)
  refine (bd_cons (sd_set 5 (ed_kdGetM (d := .str o.word) hK hS v1 v2 (fun _ => .str _) ((ed_slc (ed_var 0) (od_some (ed_var 4)) (od_some (ed_bin (ed_var 4) (ed_gInt mJ) (by walk_at "bin"))) (slc_s (by omega))).is (congrArg PyData.str ((cut_3 z (st + 1 + na)).trans (congrArg ofL e2))))) nd) ?_)
  refine (bd_if (k := false) ((td_cmpD (ed_var 5) ed_non (by walk_at "cmp")).is rfl) (fun h => nomatch h) rfl fun h => ?_)
  refine (bd_cons (sd_unpack 6 7 (d1 := enc b) (d2 := .int (st + 1 + na + 3 + nb : Nat)) (ed_callX G (hr.mono h1) (ad_cons (ed_var 0) (ad_cons (ed_bin (ed_var 4) (ed_gInt mJ) (by walk_at "bin")) (ad_cons (ed_bin (ed_var 2) ed_int (by walk_at "bin")) ad_nil))) ⟨z, st + 1 + na + 3, nb, b, by rw [e_room] <;> rfl, hz, e3, rfl⟩) rfl nd) ?_)
  refine (bd_if (k := false) ((td_cmpD ((ed_slc (ed_var 0) (od_some (ed_var 7)) (od_some (ed_bin (ed_var 7) ed_int (by walk_at "bin"))) (slc_s (by omega))).is (congrArg PyData.str ((cut_1 z (st + 1 + na + 3 + nb)).trans (congrArg ofL e4)))) ed_str cmp_neS).is (by rw [decide_eq_true (show ofL [41] = (")" : Str) from rfl)] <;> rfl)) (fun h => nomatch h) rfl fun h => ?_)
  refine (bd_left ((sd_ret (ed_tup (ad_cons (ed_tup (ad_cons (ed_var 5) (ad_cons (ed_var 3) (ad_cons (ed_var 6) ad_nil))) (by simp)) (ad_cons (ed_bin (ed_var 7) ed_int (by walk_at "bin")) ad_nil)) (by simp))).is ?_))
  have e5 : ((st + 1 + na + 3 + nb : Nat) : Int) + 1 = ((st + (na + nb + 5) : Nat) : Int) := by omega
  rw [e5] <;> rfl
def rRead (ds : List PyData) (d : PyData) : Prop := ∃ (z : Str) (s : S), ds = [.str z] ∧ z.length ≤ 8000000 ∧ parse 30 z.cps.toList = some (s, z.length) ∧ d = enc s
theorem ok_read {ka : Nat} (F : FnP K "read" sRead f fd) (G : FnX P w K mg base tb "read_at" ["text", "start", "room"] ka (rAt 30) Ry) (ml : mg "len" = none) (mD : ∃ t, mg "DEEPEST" = some (.int 30 t)) (h1 : ka ≤ k)
    (hx : HX P w K mg base tb k "read" sRead nRead f fd Rx) : FnOk P w K mg base (L2.CX P w) (k + 1) f fd ["text"] (spX K tb 1 rRead Rx) := by
  refine fnx_ok F scRead (by decide) ?_ hx
  rintro ds d ⟨z, s, rfl, hz, hp, rfl⟩ A outer s' H E hr
  have nd := scRead.nd
  refine (bd_cons (sd_unpack 1 2 (d1 := enc s) (d2 := .int (0 + z.length : Nat)) (ed_callX G (hr.mono h1) (ad_cons (ed_var 0) (ad_cons ed_int (ad_cons (ed_gInt mD) ad_nil))) ⟨z, 0, z.length, s, rfl, hz, hp, rfl⟩) rfl nd) ?_)
  refine (bd_if ((td_cmpD (ed_var 2) (ed_len ml (ed_var 0) (len_s (by omega))) (by walk_at "cmp")).is (decide_eq_false (by omega))) (fun h => nomatch h) rfl fun h => ?_)
  exact (bd_left (sd_ret (ed_var 1)))
end
end K4
/-! DL16: the law's entry. -/
namespace DL
open PySem PySem.Spec PyProof.Rows L2
def noTab (H : Hp) : Hp := fun b => match H b with
  | some (.tbl _) => none
  | o => o
theorem noTab_dh (H : Hp) : DH (noTab H) H := by
  refine ⟨fun a o e => ?_, fun a ps e => ?_⟩
  · unfold noTab at e
    split at e
    · cases e
    · exact e
  · unfold noTab at e
    split at e
    · cases e
    · rename_i h
      exact h ps e
theorem noTab_at {H : Hp} {a : Addr} {o : HO} (h : H a = some o) (n : ∀ ps, o ≠ .tbl ps) : noTab H a = some o := by
  unfold noTab
  rw [h]
  cases o <;> first | rfl | exact absurd rfl (n _)
theorem sp_entry {K : PySem.W.Frag} {tb : List Addr} {R : List PyData → PyData → Prop} {H : Hp} {a : Addr} {ns : List Int} (hT : ∀ p ∈ tb, H p = some (.tbl #[])) (hS : SqL K H a (ns.map V.int)) (hR : R [.list (ns.map .int)] (.bool true)) :
    spD K tb 1 R [.ref a] H (fun v _ => v = .bl true) fun _ _ _ => False := by
  refine ⟨noTab H, [.list (ns.map .int)], .bool true, rfl, noTab_dh H, fun p hp => ⟨#[], hT p hp, ?_⟩, .cons (.lst (xs := ns.map V.int) ?_ (dpa_ints ns)) .nil, hR, fun v Hd' H' g ht dv => ?_⟩
  · exact trivial
  · rcases hS with h | h
    · refine .inl ?_
      rcases h with h | ⟨o, h⟩
      · exact .inl (noTab_at h fun _ z => nomatch z)
      · exact .inr ⟨o, noTab_at h fun _ z => nomatch z⟩
    · exact .inr h
  · cases dv
    rfl
end DL
/-! DL17: a text among texts; a list's index. -/
namespace DL
open PySem PySem.Spec PyProof.Rows L2
section
variable {X : Cx} {tb : List Addr} {W : WX'} {ds es : List Sl} {d e f : PyData} {a b : Expr} {pos p : Pos} {K : PySem.W.Frag}
theorem strs_flat : ∀ ys : List Str, (ys.map V.str).all flatV = true
  | [] => rfl
  | y :: r => strs_flat r
theorem inV_strs {z : Str} : ∀ ys : List Str, inV (.str z) (ys.map V.str) = decide (z ∈ ys)
  | [] => rfl
  | y :: r => by
    show (eqV (.str y) (.str z) || inV (.str z) (r.map V.str)) = _
    rw [inV_strs r]
    have e : eqV (.str y) (.str z) = decide (y = z) := by
      show (y == z) = _
      by_cases h : y = z
      · rw [h, decide_eq_true rfl]; exact beq_self_eq_true z
      · rw [decide_eq_false h]; exact beq_eq_false_iff_ne.mpr h
    rw [e]
    by_cases h : y = z
    · subst h
      simp
    · have h2 : ¬ z = y := fun q => h q.symm
      simp [h, h2]
theorem rv_inStr {neg : Bool} {z : Str} {ys : List Str} : RvD K tb (rIn K neg) (.str z) (.list (ys.map .str)) (.bool (if neg then !decide (z ∈ ys) else decide (z ∈ ys))) := fun Hd H x y D _ dx dy Q q => by
  cases dx
  cases dy with
  | @lst p vs _ k1 k2 =>
    have e := dpa_strs k2
    subst e
    refine ⟨p, _, rfl, .inl (sl_sub D.s k1), rfl, strs_flat ys, ?_⟩
    rw [inV_strs]
    exact q _ Hd H (Gr.refl D) (.bl _)
theorem cmp_inStr {z : Str} {ys : List Str} : CmpD X tb .In (.str z) (.list (ys.map .str)) (decide (z ∈ ys)) := ⟨⟨_, op_in_seq, rv_inStr (neg := false)⟩⟩
theorem cmp_notInStr {z : Str} {ys : List Str} : CmpD X tb .NotIn (.str z) (.list (ys.map .str)) (!decide (z ∈ ys)) := ⟨⟨_, op_notIn_seq, rv_inStr (neg := true)⟩⟩
theorem eqV_str (y z : Str) : eqV (.str y) (.str z) = decide (y = z) := by
  show (y == z) = _
  by_cases h : y = z
  · rw [h, decide_eq_true rfl]; exact beq_self_eq_true z
  · rw [decide_eq_false h]; exact beq_eq_false_iff_ne.mpr h
theorem rm_indexL {z : Str} {ys : List Str} {j : Nat} (hj : ys[j]? = some z) (hn : ∀ m, m < j → ys[m]? ≠ some z) : RmD K (rIndex K) (.list (ys.map .str)) [.str z] (.int (j : Nat)) := fun Hd H x xs D dx dxs Q q => by
  cases dx with
  | @lst p vs _ k1 k2 =>
    have e := dpa_strs k2
    subst e
    cases dxs with
    | cons m1 m2 =>
      cases m2
      cases m1
      refine ⟨p, ys.map V.str, .str z, j, .str z, rfl, rfl, sl_sub D.s k1, rfl, strs_flat ys, by rw [List.getElem?_map, hj] <;> rfl, by rw [eqV_str, decide_eq_true rfl], fun m z' hm hz => ?_, q _ Hd H (Gr.refl D) (.int _)⟩
      rw [List.getElem?_map] at hz
      cases e : ys[m]? with
      | none => rw [e] at hz; cases hz
      | some y =>
        rw [e] at hz
        cases hz
        rw [eqV_str, decide_eq_false fun h => hn m hm (by rw [e, h])]
/-- [texts].index(text), there -/
theorem ed_indexL {z : Str} {ys : List Str} {j : Nat} {apos : Pos} (hb : PEd X tb b ds (.list (ys.map .str))) (ha : PEd X tb a ds (.str z)) (hj : ys[j]? = some z) (hn : ∀ m, m < j → ys[m]? ≠ some z) (hs : starEach [a] X.env = (false, eval a X.env) :: starEach [] X.env := by rfl)
    (hbase : attributeBase b "index" X.env (eval b X.env) = eval b X.env := by rfl)
    (hfew : ((backTo pos (starEach [a] X.env)).all (fun x => !x.1) && (backToKw pos (keywordEach [] X.env)).all (fun x => x.1.isSome)
      && decide ([a].length + ([] : List Keyword).length + (if ([] : List Keyword).isEmpty then 0 else 1) < 30)) = true := by rfl)
    (hline : (apos.endLine == pos.line) = true := by rfl) (hplain : (backTo pos (starEach [] X.env)).any (·.1) = false := by rfl) : PEd X tb (.Call (.Attribute b "index" apos) [a] [] pos) ds (.int (j : Nat)) :=
  ed_bm PySem.F.plainAttrs_list PySem.F.slot_list_index PySem.F.type_list_index mt_index (rm_indexL hj hn) rfl hb (ad_cons ha ad_nil hs) hbase hfew hline hs hplain
theorem eqv_tnil (xs : List PyData) : PyData.eqv (.tuple xs) (.tuple []) = xs.isEmpty := by
  cases xs <;> rfl
end
end DL
/-! RQ: reading a text, the equations. -/
namespace RM
open PySem PySem.Spec PyProof.Rows L2 DL LM GxR
theorem parse_br_eq {room : Nat} {l : List Nat} {st : Nat} (h1 : (l.drop st).take 1 = [40]) : parse (room + 1) (l.drop st) = (parse room (l.drop (st + 1))).bind fun p => (opOf ((l.drop (st + 1 + p.2)).take 3)).bind fun o =>
    (parse room (l.drop (st + 1 + p.2 + 3))).bind fun q => if (l.drop (st + 1 + p.2 + 3 + q.2)).take 1 = [41] then some (.bin o p.1 q.1, p.2 + q.2 + 5) else none := by
  show (if (l.drop st).take 1 = [40] then _ else _) = _
  rw [if_pos h1]
  have e0 : (l.drop st).drop 1 = l.drop (st + 1) := by rw [List.drop_drop]
  rw [e0]
  cases parse room (l.drop (st + 1)) with
  | none => rfl
  | some p =>
    rw [Option.bind_some, Option.bind_some, List.drop_drop]
    cases opOf ((l.drop (st + 1 + p.2)).take 3) with
    | none => rfl
    | some o =>
      rw [Option.bind_some, Option.bind_some, List.drop_drop]
      have e3 : l.drop (st + 1 + (p.2 + 3)) = l.drop (st + 1 + p.2 + 3) := rfl
      rw [e3]
      cases parse room (l.drop (st + 1 + p.2 + 3)) with
      | none => rfl
      | some q => rw [Option.bind_some, Option.bind_some, List.drop_drop]
theorem parse_fls_eq {room : Nat} {l : List Nat} {st : Nat} (h1 : (l.drop st).take 1 = [35]) : parse (room + 1) (l.drop st) = some (.fls, 1) := by
  show (if (l.drop st).take 1 = [40] then _ else _) = _
  rw [if_neg (by rw [h1]; decide), if_pos h1]
theorem parse_nm_eq {room : Nat} {l : List Nat} {st : Nat} (h0 : ¬ (l.drop st).take 1 = [40]) (h1 : ¬ (l.drop st).take 1 = [35]) : parse (room + 1) (l.drop st) = if 1 ≤ runL (l.drop st) ∧ runL (l.drop st) ≤ 8 then some (.nm (ofL ((l.drop st).take (runL (l.drop st)))), runL (l.drop st)) else none := by
  show (if (l.drop st).take 1 = [40] then _ else _) = _
  rw [if_neg h0, if_neg h1]
theorem let_mem (c : Nat) : decide (c ∈ ("abcdefghijklmnopqrstuvwxyz" : Str).cps.toList) = low c := by
  have e : ("abcdefghijklmnopqrstuvwxyz" : Str).cps.toList = (List.range 26).map (· + 97) := by decide +kernel
  rw [e]
  unfold low
  rw [← Bool.decide_and]
  refine decide_eq_decide.mpr ⟨fun h => ?_, fun h => ?_⟩
  · obtain ⟨j, hj, e⟩ := List.mem_map.mp h
    have := List.mem_range.mp hj
    omega
  · exact List.mem_map.mpr ⟨c - 97, List.mem_range.mpr (by omega), by omega⟩
/-- what is read is made of names alone, no deeper than the room -/
theorem parse_ok : ∀ (room : Nat) (r : List Nat) (s : S) (n : Nat), parse room r = some (s, n) → Ok s ∧ dep s ≤ room
  | 0, _, _, _, h => by cases h
  | room + 1, r, s, n, h => by
    have e : r = r.drop 0 := rfl
    rw [e] at h
    by_cases h1 : (r.drop 0).take 1 = [40]
    · rw [parse_br_eq h1] at h
      obtain ⟨p, e1, h⟩ := Option.bind_eq_some_iff.mp h
      obtain ⟨o, e2, h⟩ := Option.bind_eq_some_iff.mp h
      obtain ⟨q, e3, h⟩ := Option.bind_eq_some_iff.mp h
      split at h
      · cases h
        obtain ⟨a1, a2⟩ := parse_ok room _ p.1 p.2 e1
        obtain ⟨b1, b2⟩ := parse_ok room _ q.1 q.2 e3
        refine ⟨⟨a1, b1⟩, ?_⟩
        show max (dep p.1) (dep q.1) + 1 ≤ room + 1
        omega
      · cases h
    · by_cases h2 : (r.drop 0).take 1 = [35]
      · rw [parse_fls_eq h2] at h
        cases h
        exact ⟨trivial, Nat.succ_le_succ (Nat.zero_le _)⟩
      · rw [parse_nm_eq h1 h2] at h
        split at h
        · rename_i h3
          cases h
          refine ⟨isNm_ok.mp ?_, Nat.succ_le_succ (Nat.zero_le _)⟩
          rw [run_isNm, decide_eq_true h3.1, decide_eq_true h3.2] <;> rfl
        · cases h
def lrOf (o : Option (S × Nat)) (st : Nat) : PyData := match o with
  | some (s, n) => .tuple [enc s, .int (st + n : Nat)]
  | none => .tuple []
theorem lr_shaped {room : Nat} {r : List Nat} (h : room ≤ 60) (st : Nat) : SeqAt.shaped (lrOf (parse room r) st) = true := by
  cases e : parse room r with
  | none =>
    show SeqAt.shaped (.tuple []) = true
    decide +kernel
  | some p =>
    obtain ⟨s, n⟩ := p
    obtain ⟨h1, h2⟩ := parse_ok room r s n e
    have h3 := enc_lay s h1
    have h4 := enc_depth s
    show SeqAt.shaped (.tuple [enc s, .int (st + n : Nat)]) = true
    unfold SeqAt.shaped
    have e1 : PyData.canLay0 (.tuple [enc s, .int (st + n : Nat)]) = true := by
      simp only [PyData.canLay0, PyData.canLayAll0, h3, Bool.and_true]
    have e2 : PyData.depth (.tuple [enc s, .int (st + n : Nat)]) ≤ 64 := by
      simp only [PyData.depth, PyData.depthAll]
      omega
    rw [e1, decide_eq_true e2] <;> rfl
theorem lr_nil (o : Option (S × Nat)) (st : Nat) : PyData.eqv (lrOf o st) (.tuple []) = o.isNone := by
  cases o with
  | none => rfl
  | some p => exact eqv_tnil _
def ops3 : List Str := [" & ", " | ", " > "]
theorem op_in (l : List Nat) : decide (ofL l ∈ ops3) = (opOf l).isSome := by
  have e : ops3 = [ofL [32, 38, 32], ofL [32, 124, 32], ofL [32, 62, 32]] := rfl
  rw [e]
  unfold opOf
  by_cases h1 : l = [32, 38, 32]
  · rw [if_pos h1, h1]; decide +kernel
  rw [if_neg h1]
  by_cases h2 : l = [32, 124, 32]
  · rw [if_pos h2, h2]; decide +kernel
  rw [if_neg h2]
  by_cases h3 : l = [32, 62, 32]
  · rw [if_pos h3, h3]; decide +kernel
  rw [if_neg h3]
  refine decide_eq_false fun h => ?_
  rcases List.mem_cons.mp h with h | h
  · exact h1 (ofL_inj h)
  · rcases List.mem_cons.mp h with h | h
    · exact h2 (ofL_inj h)
    · exact h3 (ofL_inj (List.mem_singleton.mp h))
def opIx : Op → Nat
  | .and => 0
  | .or => 1
  | .thn => 2
theorem op_at {l : List Nat} {o : Op} (h : opOf l = some o) : ops3[opIx o]? = some (ofL l) ∧ ∀ m, m < opIx o → ops3[m]? ≠ some (ofL l) := by
  have e := opOf_len h
  rw [e]
  cases o with
  | and => exact ⟨rfl, fun m hm => absurd hm (Nat.not_lt_zero _)⟩
  | or => exact ⟨rfl, fun m hm => by
      have hm : m < 1 := hm
      have : m = 0 := by omega
      subst this
      decide +kernel⟩
  | thn => exact ⟨rfl, fun m hm => by
      have hm : m < 2 := hm
      have : m = 0 ∨ m = 1 := by omega
      rcases this with rfl | rfl <;> decide +kernel⟩
theorem op_word (o : Op) : ([.str "and", .str "or", .str "then"] : List PyData)[opIx o]? = some (.str o.word) := by cases o <;> rfl
end RM
namespace K4
open PySem PySem.Spec PyProof.Rows L2 DL LM RM
local macro_rules | `(tactic| walk_at "side") => `(tactic| first | assumption | decide | omega | (simp; done) | (simp; omega))
local macro_rules | `(tactic| walk_at "bin") => `(tactic| first | exact bin_add | exact bin_sub | exact bin_mul (by walk_at "side") | exact bin_fdiv (by walk_at "side") | exact bin_mod (by walk_at "side") | exact bin_catm (by walk_at "side") | exact bin_cat (by walk_at "side") | exact bin_addS (by walk_at "side"))
local macro_rules | `(tactic| walk_at "cmp") => `(tactic| first | exact cmp_lt | exact cmp_le | exact cmp_gt | exact cmp_ge | exact cmp_eqI | exact cmp_neI | exact cmp_eqS | exact cmp_neS | exact cmp_eqB | exact cmp_neB | exact cmp_isN | exact cmp_notN)
local macro_rules | `(tactic| walk_at "slc") => `(tactic| first | exact slc_lm | exact slc_l | exact slc_s (by walk_at "side"))
local macro_rules | `(tactic| walk_at "len") => `(tactic| first | exact len_lm | exact len_l rfl | exact len_t rfl | exact len_s (by walk_at "side"))
local macro_rules | `(tactic| walk_at "room") => `(tactic| exact Room.mono (by assumption) (by decide))

abbrev sLRead : Stmt := topS 23
abbrev nLRead : List Str := ["_law_text", "_law_at", "_law_room", "_law_end", "_law_one", "_law_word", "_law_other"]
theorem scLRead : FnScope nLRead ["_law_text", "_law_at", "_law_room"] (defScope sLRead) := ⟨rfl, rfl, rfl, by decide +kernel, rfl, by decide +kernel, by decide +kernel⟩
section
variable {P : Program} {w : World} {K : PySem.W.Frag} {mg : Str → Option Value} {base : Heap} {f : Addr} {fd : FuncData} {tb : List Addr} {k : Nat}
def rLr (room : Nat) (ds : List PyData) (d : PyData) : Prop := ∃ (z : Str) (st : Nat), ds = [.str z, .int st, .int room] ∧ z.length ≤ 8000000 ∧ room ≤ 60 ∧ d = lrOf (parse room (z.cps.toList.drop st)) st
theorem ok_lr0 (F : FnP K "_law_read_at" sLRead f fd) : FnOk P w K mg base CX0 (k + 1) f fd ["_law_text", "_law_at", "_law_room"] (spD K tb 3 (rLr 0)) := by
  refine fn_ok F scLRead (by decide) ?_
  rintro ds d ⟨z, st, rfl, hz, hroom, rfl⟩ A outer s' H E hr
  exact (bd_if (k := true) ((td_cmpD (ed_var 2) ed_int (by walk_at "cmp")).is (decide_eq_true (by decide))) (fun h => (bd_left (sd_ret (ed_tup ad_nil (by decide))))) rfl fun h => nomatch h)
theorem ok_lread {room : Nat} (F : FnP K "_law_read_at" sLRead f fd) (G : FnG P w K mg base tb "_law_read_at" ["_law_text", "_law_at", "_law_room"] k (rLr room)) (ml : mg "len" = none) : FnOk P w K mg base CX0 (k + 1) f fd ["_law_text", "_law_at", "_law_room"] (spD K tb 3 (rLr (room + 1))) := by
  refine fn_ok F scLRead (by decide) ?_
  rintro ds d ⟨z, st, rfl, hz, hroom, rfl⟩ A outer s' H E hr
  have nd := scLRead.nd
  have c1 := cut_1 z st
  refine (bd_if (k := false) ((td_cmpD (ed_var 2) ed_int (by walk_at "cmp")).is (decide_eq_false (by omega))) (fun h => nomatch h) rfl fun h => ?_)
  refine (bd_if (td_cmpD ((ed_slc (ed_var 0) (od_some (ed_var 1)) (od_some (ed_bin (ed_var 1) ed_int (by walk_at "bin"))) (slc_s (by omega))).is (congrArg PyData.str c1)) ed_str (by walk_at "cmp")) (fun h => ?_) rfl fun h => ?_)
  · have h := ofL_is.mp (show ofL _ = ofL [35] from of_decide_eq_true h)
    rw [parse_fls_eq h]
    exact (bd_left ((sd_ret (ed_tup (ad_cons (ed_tup (ad_cons ed_str ad_nil) (by decide)) (ad_cons (ed_bin (ed_var 1) ed_int (by walk_at "bin")) ad_nil)) (by simp))).is rfl))
  have n2 : ¬ (z.cps.toList.drop st).take 1 = [35] := fun e => of_decide_eq_false h (show ofL _ = ofL [35] from ofL_is.mpr e)
  refine (bd_if (td_cmpD ((ed_slc (ed_var 0) (od_some (ed_var 1)) (od_some (ed_bin (ed_var 1) ed_int (by walk_at "bin"))) (slc_s (by omega))).is (congrArg PyData.str c1)) ed_str cmp_neS) (fun h => ?_) rfl fun h => ?_)
  · have n1 : ¬ (z.cps.toList.drop st).take 1 = [40] := fun e => by
      have h2 : (!decide (ofL (List.take 1 (List.drop st z.cps.toList)) = ofL [40])) = true := h
      rw [decide_eq_true (ofL_is.mpr e)] at h2
      cases h2
    rw [parse_nm_eq n1 n2]
    generalize hn : runL (z.cps.toList.drop st) = n
    have nl : n ≤ z.cps.toList.length - st := by
      have := runL_le (z.cps.toList.drop st)
      rw [List.length_drop, hn] at this
      exact this
    have zl := str_len z
    refine bd_cons (sd_set 3 (ed_var 1) nd) ?_
    refine bd_cons (es := [.dat (.str z), .dat (.int st), .dat (.int (room + 1 : Nat)), .dat (.int (st + n : Nat)), .no, .no, .no]) ?_ ?_
    · refine sd_while n (fun i => [.dat (.str z), .dat (.int st), .dat (.int (room + 1 : Nat)), .dat (.int (st + i : Nat)), .no, .no, .no]) PassesOwn.never rfl (fun i hi => ⟨?_, ?_⟩) ?_
      · rw [← hn] at hi
        obtain ⟨c, h1, h2⟩ := runL_low _ i hi
        rw [List.getElem?_drop] at h1
        have hlt := (List.getElem?_eq_some_iff.mp h1).1
        exact PWd.pt (wd_andt ((td_cmpD (ed_var 3) (ed_len ml (ed_var 0) (len_s (by omega))) (by walk_at "cmp")).is (decide_eq_true (by omega))) (wd_and1 ((td_cmpD (ed_item (ed_var 0) (ed_var 3) (item_s (by omega) (atI_nat h1))) ed_str cmp_inS).is ((let_mem c).trans h2))))
      · exact (bd_cons (sd_set 3 (ed_bin (ed_var 3) ed_int (by walk_at "bin")) nd) bd_nil).is rfl
      · rcases runL_end (z.cps.toList.drop st) with ⟨c, h1, h2⟩ | h1
        · rw [hn, List.getElem?_drop] at h1
          have hlt := (List.getElem?_eq_some_iff.mp h1).1
          exact PWd.pt (wd_andt ((td_cmpD (ed_var 3) (ed_len ml (ed_var 0) (len_s (by omega))) (by walk_at "cmp")).is (decide_eq_true (by omega))) (wd_and1 ((td_cmpD (ed_item (ed_var 0) (ed_var 3) (item_s (by omega) (atI_nat h1))) ed_str cmp_inS).is ((let_mem c).trans h2))))
        · rw [hn, List.length_drop] at h1
          exact PWd.pt (wd_andf ((td_cmpD (ed_var 3) (ed_len ml (ed_var 0) (len_s (by omega))) (by walk_at "cmp")).is (decide_eq_false (by omega))))
    refine (bd_if (PWd.pt (wd_or2 (td_cmpD (ed_var 3) (ed_var 1) (by walk_at "cmp")) fun hw => (wd_or1 (td_cmpD (ed_var 3) (ed_bin (ed_var 1) ed_int (by walk_at "bin")) (by walk_at "cmp"))))) (fun h => ?_) rfl fun h => ?_)
    · rw [Bool.or_eq_true, decide_eq_true_eq, decide_eq_true_eq] at h
      rw [if_neg (by omega)]
      exact (bd_left ((sd_ret (ed_tup ad_nil (by decide))).is rfl))
    · rw [Bool.or_eq_false_iff, decide_eq_false_iff_not, decide_eq_false_iff_not] at h
      rw [if_pos (by omega)]
      have ec : cutS z (some (st : Int)) (some ((st + n : Nat) : Int)) = ofL ((z.cps.toList.drop st).take n) := by
        rw [cut_nn, show st + n - st = n by omega]
      exact (bd_left ((sd_ret (ed_tup (ad_cons (ed_tup (ad_cons ed_str (ad_cons (ed_slc (ed_var 0) (od_some (ed_var 1)) (od_some (ed_var 3)) (slc_s (by omega))) ad_nil)) (by simp)) (ad_cons (ed_var 3) ad_nil)) (by simp))).is (by rw [ec] <;> rfl)))
  have h1 : (z.cps.toList.drop st).take 1 = [40] := by
    refine ofL_is.mp (show ofL _ = ("(" : Str) from ?_)
    revert h
    cases q : decide (ofL ((z.cps.toList.drop st).take 1) = ("(" : Str)) with
    | true => exact fun _ => of_decide_eq_true q
    | false => exact fun h => by cases h
  rw [parse_br_eq h1]
  refine bd_cons (sd_set 4 (ed_call G hr (ad_cons (ed_var 0) (ad_cons (ed_bin (ed_var 1) ed_int (by walk_at "bin")) (ad_cons (ed_bin (ed_var 2) ed_int (by walk_at "bin")) ad_nil))) ⟨z, st + 1, by rw [e_room] <;> rfl, hz, by omega, rfl⟩) nd) ?_
  refine (bd_if ((td_cmpD (ed_var 4) (ed_tup ad_nil (by decide)) (cmp_eqD hr (lr_shaped (by omega) _) (by decide +kernel))).is (lr_nil _ _)) (fun h => ?_) rfl fun h => ?_)
  · cases e1 : parse room (z.cps.toList.drop (st + 1)) with
    | none => exact (bd_left ((sd_ret (ed_tup ad_nil (by decide))).is rfl))
    | some p => rw [e1] at h; cases h
  cases e1 : parse room (z.cps.toList.drop (st + 1)) with
  | none => rw [e1] at h; cases h
  | some p =>
  obtain ⟨a, na⟩ := p
  rw [Option.bind_some]
  have c3 := cut_3 z (st + 1 + na)
  have it1 : ItemD (cxOf CX0 P w K mg base nLRead "_law_read_at" (defScope sLRead) f fd.code A outer s' H E).nox tb (.tuple [enc a, .int (st + 1 + na : Nat)]) (.int 1) (.int (st + 1 + na : Nat)) := item_t (atI_nat (j := 1) rfl)
  have it0 : ItemD (cxOf CX0 P w K mg base nLRead "_law_read_at" (defScope sLRead) f fd.code A outer s' H E).nox tb (.tuple [enc a, .int (st + 1 + na : Nat)]) (.int 0) (enc a) := item_t (atI_nat (j := 0) rfl)
  refine bd_cons (sd_set 5 ((ed_slc (ed_var 0) (od_some (ed_item (ed_var 4) ed_int it1)) (od_some (ed_bin (ed_item (ed_var 4) ed_int it1) ed_int (by walk_at "bin"))) (slc_s (by omega))).is (congrArg PyData.str c3)) nd) ?_
  refine (bd_if ((td_cmpD (ed_var 5) ((ed_lst (ad_cons ed_str (ad_cons ed_str (ad_cons ed_str ad_nil))) (by decide)).is (g := .list (ops3.map PyData.str)) rfl) cmp_notInStr).is (by rw [op_in])) (fun h => ?_) rfl fun h => ?_)
  · cases e2 : opOf ((z.cps.toList.drop (st + 1 + na)).take 3) with
    | none => exact (bd_left ((sd_ret (ed_tup ad_nil (by decide))).is rfl))
    | some o => rw [e2] at h; cases h
  cases e2 : opOf ((z.cps.toList.drop (st + 1 + na)).take 3) with
  | none => rw [e2] at h; cases h
  | some o =>
  rw [Option.bind_some]
  obtain ⟨ix1, ix2⟩ := op_at e2
  refine bd_cons (sd_set 6 (ed_call G hr (ad_cons (ed_var 0) (ad_cons (ed_bin (ed_item (ed_var 4) ed_int it1) ed_int (by walk_at "bin")) (ad_cons (ed_bin (ed_var 2) ed_int (by walk_at "bin")) ad_nil))) ⟨z, st + 1 + na + 3, by rw [e_room] <;> rfl, hz, by omega, rfl⟩) nd) ?_
  cases e3 : parse room (z.cps.toList.drop (st + 1 + na + 3)) with
  | none =>
    exact (bd_if (k := true) (PWd.pt (wd_ort ((td_cmpD (ed_var 6) (ed_tup ad_nil (by decide)) (cmp_eqD hr (by show SeqAt.shaped (.tuple []) = true; decide +kernel) (by decide +kernel))).is (lr_nil none _)))) (fun h => (bd_left ((sd_ret (ed_tup ad_nil (by decide))).is rfl))) rfl fun h => nomatch h)
  | some q =>
  obtain ⟨b, nb⟩ := q
  rw [Option.bind_some]
  have sh := lr_shaped (room := room) (r := z.cps.toList.drop (st + 1 + na + 3)) (by omega) (st + 1 + na + 3)
  rw [e3] at sh
  have c4 := cut_1 z (st + 1 + na + 3 + nb)
  have jt1 : ItemD (cxOf CX0 P w K mg base nLRead "_law_read_at" (defScope sLRead) f fd.code A outer s' H E).nox tb (.tuple [enc b, .int (st + 1 + na + 3 + nb : Nat)]) (.int 1) (.int (st + 1 + na + 3 + nb : Nat)) := item_t (atI_nat (j := 1) rfl)
  have jt0 : ItemD (cxOf CX0 P w K mg base nLRead "_law_read_at" (defScope sLRead) f fd.code A outer s' H E).nox tb (.tuple [enc b, .int (st + 1 + na + 3 + nb : Nat)]) (.int 0) (enc b) := item_t (atI_nat (j := 0) rfl)
  refine (bd_if (PWd.pt (wd_orf ((td_cmpD (ed_var 6) (ed_tup ad_nil (by decide)) (cmp_eqD hr sh (by decide +kernel))).is (lr_nil (some (b, nb)) _)) (wd_or1 (td_cmpD ((ed_slc (ed_var 0) (od_some (ed_item (ed_var 6) ed_int jt1)) (od_some (ed_bin (ed_item (ed_var 6) ed_int jt1) ed_int (by walk_at "bin"))) (slc_s (by omega))).is (congrArg PyData.str c4)) ed_str cmp_neS)))) (fun h => ?_) rfl fun h => ?_)
  · have h2 : (!decide (ofL (List.take 1 (List.drop (st + 1 + na + 3 + nb) z.cps.toList)) = ofL [41])) = true := h
    rw [if_neg (fun e => by
      rw [decide_eq_true (ofL_is.mpr e)] at h2
      cases h2)]
    exact (bd_left ((sd_ret (ed_tup ad_nil (by decide))).is rfl))
  · have h4 : (z.cps.toList.drop (st + 1 + na + 3 + nb)).take 1 = [41] := by
      refine ofL_is.mp (show ofL _ = (")" : Str) from ?_)
      revert h
      cases q : decide (ofL ((z.cps.toList.drop (st + 1 + na + 3 + nb)).take 1) = (")" : Str)) with
      | true => exact fun _ => of_decide_eq_true q
      | false => exact fun h => by cases h
    rw [if_pos h4]
    refine (bd_left ((sd_ret (ed_tup (ad_cons (ed_tup (ad_cons (ed_item (ed_lst (ad_cons ed_str (ad_cons ed_str (ad_cons ed_str ad_nil))) (by decide)) (ed_indexL (j := opIx o) ((ed_lst (ad_cons ed_str (ad_cons ed_str (ad_cons ed_str ad_nil))) (by decide)).is (g := .list (ops3.map PyData.str)) rfl) (ed_var 5) ix1 ix2) (by exact item_l (atI_nat (op_word o)))) (ad_cons (ed_item (ed_var 4) ed_int it0) (ad_cons (ed_item (ed_var 6) ed_int jt0) ad_nil))) (by simp)) (ad_cons (ed_bin (ed_item (ed_var 6) ed_int jt1) ed_int (by walk_at "bin")) ad_nil)) (by simp))).is ?_))
    have e5 : ((st + 1 + na + 3 + nb : Nat) : Int) + 1 = ((st + (na + nb + 5) : Nat) : Int) := by omega
    rw [e5] <;> rfl
theorem lr_all (F : FnP K "_law_read_at" sLRead f fd) (hm : mg "_law_read_at" = some (.ref f)) (hb : Binds K fd ["_law_text", "_law_at", "_law_room"] []) (ml : mg "len" = none) : ∀ n : Nat, FnG P w K mg base tb "_law_read_at" ["_law_text", "_law_at", "_law_room"] (n + 1) (rLr n)
  | 0 => ⟨f, fd, ok_lr0 F, hm, F.kp, hb⟩
  | n + 1 => ⟨f, fd, ok_lread F (lr_all F hm hb ml n) ml, hm, F.kp, hb⟩
end
end K4
namespace K4
open PySem PySem.Spec PyProof.Rows L2 DL LM RM
local macro_rules | `(tactic| walk_at "side") => `(tactic| first | assumption | decide | omega | (simp; done) | (simp; omega))
local macro_rules | `(tactic| walk_at "bin") => `(tactic| first | exact bin_add | exact bin_sub | exact bin_mul (by walk_at "side") | exact bin_fdiv (by walk_at "side") | exact bin_mod (by walk_at "side") | exact bin_catm (by walk_at "side") | exact bin_cat (by walk_at "side") | exact bin_addS (by walk_at "side"))
local macro_rules | `(tactic| walk_at "cmp") => `(tactic| first | exact cmp_lt | exact cmp_le | exact cmp_gt | exact cmp_ge | exact cmp_eqI | exact cmp_neI | exact cmp_eqS | exact cmp_neS | exact cmp_eqB | exact cmp_neB | exact cmp_isN | exact cmp_notN)
local macro_rules | `(tactic| walk_at "slc") => `(tactic| first | exact slc_lm | exact slc_l | exact slc_s (by walk_at "side"))
local macro_rules | `(tactic| walk_at "len") => `(tactic| first | exact len_lm | exact len_l rfl | exact len_t rfl | exact len_s (by walk_at "side"))
local macro_rules | `(tactic| walk_at "room") => `(tactic| exact Room.mono (by assumption) (by decide))

abbrev sMend : Stmt := topS 24
abbrev sOdd : Stmt := topS 25
abbrev sDeep : Stmt := topS 26
abbrev nMend : List Str := ["_law_text", "_law_cell", "_law_signs", "_law_sign", "_law_at"]
theorem scMend : FnScope nMend ["_law_text", "_law_cell"] (defScope sMend) := ⟨rfl, rfl, rfl, by decide +kernel, rfl, by decide +kernel, by decide +kernel⟩
abbrev nOdd : List Str := ["_law_cell", "_law_texts"]
theorem scOdd : FnScope nOdd ["_law_cell"] (defScope sOdd) := ⟨rfl, rfl, rfl, by decide +kernel, rfl, by decide +kernel, by decide +kernel⟩
abbrev nDeep : List Str := ["_law_cell", "_law_text", "_law_many", "_law_k"]
theorem scDeep : FnScope nDeep ["_law_cell"] (defScope sDeep) := ⟨rfl, rfl, rfl, by decide +kernel, rfl, by decide +kernel, by decide +kernel⟩
/-! ### what stands written in the program -/
def strOf : Expr → List Str
  | .Constant (.str z) _ _ => [z]
  | .List es _ => es.flatMap fun e => match e with
    | .Constant (.str z) _ _ => [z]
    | _ => []
  | _ => []
def setStr : Stmt → List Str
  | .Assign _ (.BinOp _ _ e _) _ => strOf e
  | .Assign _ e _ => strOf e
  | _ => []
def oddL : List Str := (defBody sOdd).flatMap setStr
theorem oddL_len : oddL.length = 32 := by decide +kernel
theorem oddL_small : ∀ y ∈ oddL, y.length ≤ 40 := by decide +kernel
def mendA : Str := ((setStr ((defBody sMend).getD 0 (.Pass ⟨0, 0, 0, 0⟩))).getD 0 "")
def mendB : Str := ((setStr ((defBody sMend).getD 1 (.Pass ⟨0, 0, 0, 0⟩))).getD 0 "")
theorem mendAB_len : (mendA ++ mendB).length = 96 := by decide +kernel
def mendC : Str := " ()&|>#abxyz\n\t"
theorem mendC_len : mendC.length = 14 := by decide +kernel
def sgnAt (z : Str) (i : Int) : Str := ⟨#[z.cps.toList.getD i.toNat 0]⟩
def mendS (c : Int) : Str := if c / 3 % 2 = 0 then sgnAt mendC (c / 6 % 14) else sgnAt (mendA ++ mendB) (c / 6 % 96)
def mended (z : Str) (c : Int) : Str :=
  if c % 3 = 0 then cutS z none (some (c / 600 % ((z.length : Int) + 1))) ++ mendS c ++ cutS z (some (c / 600 % ((z.length : Int) + 1))) none
  else if c % 3 = 1 then cutS z none (some (c / 600 % ((z.length : Int) + 1))) ++ cutS z (some (c / 600 % ((z.length : Int) + 1) + 1)) none
  else cutS z none (some (c / 600 % ((z.length : Int) + 1))) ++ mendS c ++ cutS z (some (c / 600 % ((z.length : Int) + 1) + 1)) none
theorem cutS_le (z : Str) (l u : Option Int) : (cutS z l u).length ≤ z.length := by
  rw [str_len, str_len, cutS_cut]
  unfold DL.cutD
  rw [List.length_take, List.length_drop]
  omega
theorem mendS_len (c : Int) : (mendS c).length = 1 := by
  unfold mendS
  split <;> rfl
theorem mended_len (z : Str) (c : Int) : (mended z c).length ≤ 2 * z.length + 1 := by
  have h1 := cutS_le z none (some (c / 600 % ((z.length : Int) + 1)))
  have h2 := cutS_le z (some (c / 600 % ((z.length : Int) + 1))) none
  have h3 := cutS_le z (some (c / 600 % ((z.length : Int) + 1) + 1)) none
  have h4 := mendS_len c
  unfold mended
  split
  · rw [app_len, app_len]; omega
  · split
    · rw [app_len]; omega
    · rw [app_len, app_len]; omega
section
variable {P : Program} {w : World} {K : PySem.W.Frag} {mg : Str → Option Value} {base : Heap} {f : Addr} {fd : FuncData} {tb : List Addr} {k : Nat}
def rMend (ds : List PyData) (d : PyData) : Prop := ∃ (z : Str) (c : Int), ds = [.str z, .int c] ∧ z.length ≤ 3000000 ∧ d = .str (mended z c)
theorem ok_mend (F : FnP K "_law_mended" sMend f fd) (ml : mg "len" = none) : FnOk P w K mg base CX0 (k + 1) f fd ["_law_text", "_law_cell"] (spD K tb 2 rMend) := by
  refine fn_ok F scMend (by decide) ?_
  rintro ds d ⟨z, c, rfl, hz, rfl⟩ A outer s' H E hr
  have nd := scMend.nd
  have h1 := cutS_le z none (some (c / 600 % ((z.length : Int) + 1)))
  have h2 := cutS_le z (some (c / 600 % ((z.length : Int) + 1))) none
  have h3 := cutS_le z (some (c / 600 % ((z.length : Int) + 1) + 1)) none
  have h4 := mendS_len c
  have a0 : 0 ≤ c / 6 % 96 := Int.emod_nonneg _ (by decide)
  have a1 : c / 6 % 96 < 96 := Int.emod_lt_of_pos _ (by decide)
  have b0 : 0 ≤ c / 6 % 14 := Int.emod_nonneg _ (by decide)
  have b1 : c / 6 % 14 < 14 := Int.emod_lt_of_pos _ (by decide)
  have l96 := mendAB_len
  have l14 := mendC_len
  refine bd_cons (sd_set 2 (ed_str.is (g := .str mendA) rfl) nd) ?_
  refine bd_cons (sd_set 2 (ed_bin (ed_var 2) (ed_str.is (g := .str mendB) rfl) (bin_addS (by rw [← app_len, l96]; decide))) nd) ?_
  refine bd_cons (sd_set 3 (ed_item (ed_var 2) (ed_bin (ed_bin (ed_var 1) ed_int (by walk_at "bin")) ed_int (by walk_at "bin")) (by exact item_so (by rw [l96]; decide) a0 (by rw [l96]; exact a1))) nd) ?_
  refine bd_cons (es := [.dat (.str z), .dat (.int c), .dat (.str (mendA ++ mendB)), .dat (.str (mendS c)), .no]) ?_ ?_
  · refine sd_if (td_cmpD (ed_bin (ed_bin (ed_var 1) ed_int (by walk_at "bin")) ed_int (by walk_at "bin")) ed_int (by walk_at "cmp")) (fun h => ?_) fun h => ?_
    · have e : mendS c = sgnAt mendC (c / 6 % 14) := if_pos (of_decide_eq_true h)
      rw [e]
      exact (bd_cons (sd_set 3 (ed_item (ed_str.is (g := .str mendC) rfl) (ed_bin (ed_bin (ed_var 1) ed_int (by walk_at "bin")) ed_int (by walk_at "bin")) (by exact item_so (by rw [l14]; decide) b0 (by rw [l14]; exact b1))) nd) bd_nil).is rfl
    · have e : mendS c = sgnAt (mendA ++ mendB) (c / 6 % 96) := if_neg (of_decide_eq_false h)
      rw [e]
      exact bd_nil.is rfl
  refine bd_cons (sd_set 4 (ed_bin (ed_bin (ed_var 1) ed_int (by walk_at "bin")) (ed_bin (ed_len ml (ed_var 0) (len_s (by omega))) ed_int (by walk_at "bin")) (bin_mod (by omega))) nd) ?_
  refine (bd_if (td_cmpD (ed_bin (ed_var 1) ed_int (by walk_at "bin")) ed_int (by walk_at "cmp")) (fun h => ?_) rfl fun h => ?_)
  · have e : mended z c = cutS z none (some (c / 600 % ((z.length : Int) + 1))) ++ mendS c ++ cutS z (some (c / 600 % ((z.length : Int) + 1))) none := if_pos (of_decide_eq_true h)
    rw [e]
    exact (bd_left (sd_ret (ed_bin (ed_bin (ed_slc (ed_var 0) od_none (od_some (ed_var 4)) (slc_s (by omega))) (ed_var 3) (bin_addS (by omega))) (ed_slc (ed_var 0) (od_some (ed_var 4)) od_none (slc_s (by omega))) (bin_addS (by rw [app_len]; omega)))))
  have n1 := of_decide_eq_false h
  refine (bd_if (td_cmpD (ed_bin (ed_var 1) ed_int (by walk_at "bin")) ed_int (by walk_at "cmp")) (fun h => ?_) rfl fun h => ?_)
  · have e : mended z c = cutS z none (some (c / 600 % ((z.length : Int) + 1))) ++ cutS z (some (c / 600 % ((z.length : Int) + 1) + 1)) none := (if_neg n1).trans (if_pos (of_decide_eq_true h))
    rw [e]
    exact (bd_left (sd_ret (ed_bin (ed_slc (ed_var 0) od_none (od_some (ed_var 4)) (slc_s (by omega))) (ed_slc (ed_var 0) (od_some (ed_bin (ed_var 4) ed_int (by walk_at "bin"))) od_none (slc_s (by omega))) (bin_addS (by omega)))))
  · have e : mended z c = cutS z none (some (c / 600 % ((z.length : Int) + 1))) ++ mendS c ++ cutS z (some (c / 600 % ((z.length : Int) + 1) + 1)) none := (if_neg n1).trans (if_neg (of_decide_eq_false h))
    rw [e]
    exact (bd_left (sd_ret (ed_bin (ed_bin (ed_slc (ed_var 0) od_none (od_some (ed_var 4)) (slc_s (by omega))) (ed_var 3) (bin_addS (by omega))) (ed_slc (ed_var 0) (od_some (ed_bin (ed_var 4) ed_int (by walk_at "bin"))) od_none (slc_s (by omega))) (bin_addS (by rw [app_len]; omega)))))
def odd (c : Int) : Str := oddL.getD (c % 32).toNat ""
def rOdd (ds : List PyData) (d : PyData) : Prop := ∃ (c : Int), ds = [.int c] ∧ d = .str (odd c)
theorem ok_odd (F : FnP K "_law_odd" sOdd f fd) : FnOk P w K mg base CX0 (k + 1) f fd ["_law_cell"] (spD K tb 1 rOdd) := by
  refine fn_ok F scOdd (by decide) ?_
  rintro ds d ⟨c, rfl, rfl⟩ A outer s' H E hr
  have nd := scOdd.nd
  have a0 : 0 ≤ c % 32 := Int.emod_nonneg _ (by decide)
  have a1 : c % 32 < 32 := Int.emod_lt_of_pos _ (by decide)
  have l32 := oddL_len
  refine bd_cons (sd_set 1 (ed_lst (ad_cons ed_str (ad_cons ed_str (ad_cons ed_str (ad_cons ed_str (ad_cons ed_str (ad_cons ed_str (ad_cons ed_str (ad_cons ed_str (ad_cons ed_str (ad_cons ed_str (ad_cons ed_str (ad_cons ed_str (ad_cons ed_str ad_nil))))))))))))) (by simp)) nd) ?_
  refine bd_cons (sd_set 1 (ed_bin (ed_var 1) (ed_lst (ad_cons ed_str (ad_cons ed_str (ad_cons ed_str (ad_cons ed_str (ad_cons ed_str (ad_cons ed_str (ad_cons ed_str (ad_cons ed_str (ad_cons ed_str ad_nil))))))))) (by simp)) (bin_cat (by simp))) nd) ?_
  refine bd_cons (sd_set 1 (ed_bin (ed_var 1) (ed_lst (ad_cons ed_str (ad_cons ed_str (ad_cons ed_str (ad_cons ed_str (ad_cons ed_str (ad_cons ed_str (ad_cons ed_str ad_nil))))))) (by simp)) (bin_cat (by simp))) nd) ?_
  refine bd_cons (sd_set 1 ((ed_bin (ed_var 1) (ed_lst (ad_cons ed_str (ad_cons ed_str (ad_cons ed_str ad_nil))) (by simp)) (bin_cat (by simp))).is (g := .list (oddL.map .str)) rfl) nd) ?_
  exact bd_left (sd_ret (ed_item (ed_var 1) (ed_bin (ed_var 0) ed_int (by walk_at "bin")) (by exact item_lm (xs := oddL) (g := PyData.str) (atI_pos (p := oddL) "" a0 (by rw [l32]; exact a1)))))
theorem odd_len (c : Int) : (odd c).length ≤ 40 := by
  unfold odd
  rw [List.getD_eq_getElem?_getD]
  cases e : oddL[(c % 32).toNat]? with
  | none => decide
  | some y => exact oddL_small y (List.mem_of_getElem? e)
/-! ### deep ones -/
def deep0 (c : Int) : Str := (["a", "#", "(a & b)"] : List Str).getD (c % 3).toNat ""
def deepL (i : Int) : Str := (["# | ", ""] : List Str).getD (i % 2).toNat ""
def deepR (i : Int) : Str := ([")", " > b)"] : List Str).getD (i % 2).toNat ""
def deepN (c : Int) : Int := if c / 15 % 4 = 1 then 31 + c / 60 % 170 else 27 + c / 3 % 5
def deepI (c : Int) : Nat → Str
  | 0 => deep0 c
  | i + 1 => ((("(" : Str) ++ deepL (c + (i : Int))) ++ deepI c i) ++ deepR (c + (i : Int))
def deep (c : Int) : Str := deepI c (deepN c).toNat
theorem sm {xs : List Str} {n : Nat} (h : ∀ y ∈ xs, y.length ≤ n) (i : Nat) : (xs.getD i "").length ≤ n := by
  rw [List.getD_eq_getElem?_getD]
  cases e : xs[i]? with
  | none => exact Nat.zero_le _
  | some y => exact h y (List.mem_of_getElem? e)
theorem deep0_len (c : Int) : (deep0 c).length ≤ 8 := sm (by decide +kernel) _
theorem deepL_len (c : Int) : (deepL c).length ≤ 4 := sm (by decide +kernel) _
theorem deepR_len (c : Int) : (deepR c).length ≤ 5 := sm (by decide +kernel) _
theorem deepI_len (c : Int) : ∀ n : Nat, (deepI c n).length ≤ 8 + 10 * n
  | 0 => deep0_len c
  | n + 1 => by
    have h1 := deepI_len c n
    have h2 := deepL_len (c + (n : Int))
    have h3 := deepR_len (c + (n : Int))
    have e : (deepI c (n + 1)).length = 1 + (deepL (c + (n : Int))).length + (deepI c n).length + (deepR (c + (n : Int))).length := by
      show (((("(" : Str) ++ deepL (c + (n : Int))) ++ deepI c n) ++ deepR (c + (n : Int))).length = _
      rw [app_len, app_len, app_len] <;> rfl
    omega
theorem deepN_lo (c : Int) : 27 ≤ deepN c ∧ deepN c ≤ 200 := by
  unfold deepN
  split <;> omega
theorem deep_len (c : Int) : (deep c).length ≤ 3000 := by
  have h := deepI_len c (deepN c).toNat
  have h2 := deepN_lo c
  unfold deep
  omega
def rDeep (ds : List PyData) (d : PyData) : Prop := ∃ (c : Int), ds = [.int c] ∧ d = .str (deep c)
theorem ok_deep (F : FnP K "_law_deep" sDeep f fd) (mr : mg "range" = none) : FnOk P w K mg base CX0 (k + 1) f fd ["_law_cell"] (spD K tb 1 rDeep) := by
  refine fn_ok F scDeep (by decide) ?_
  rintro ds d ⟨c, rfl, rfl⟩ A outer s' H E hr
  have nd := scDeep.nd
  have a0 : 0 ≤ c % 3 := Int.emod_nonneg _ (by decide)
  have a1 : c % 3 < 3 := Int.emod_lt_of_pos _ (by decide)
  have dn := deepN_lo c
  refine bd_cons (sd_set 1 (ed_item ((ed_lst (ad_cons ed_str (ad_cons ed_str (ad_cons ed_str ad_nil))) (by decide)).is (g := .list ((["a", "#", "(a & b)"] : List Str).map .str)) rfl) (ed_bin (ed_var 0) ed_int (by walk_at "bin")) (by exact item_lm (xs := (["a", "#", "(a & b)"] : List Str)) (g := PyData.str) (atI_pos (p := (["a", "#", "(a & b)"] : List Str)) "" a0 a1))) nd) ?_
  refine bd_cons (sd_set 2 (ed_bin ed_int (ed_bin (ed_bin (ed_var 0) ed_int (by walk_at "bin")) ed_int (by walk_at "bin")) (by walk_at "bin")) nd) ?_
  refine bd_cons (es := [.dat (.int c), .dat (.str (deep0 c)), .dat (.int (deepN c)), .no]) ?_ ?_
  · refine sd_if (td_cmpD (ed_bin (ed_bin (ed_var 0) ed_int (by walk_at "bin")) ed_int (by walk_at "bin")) ed_int (by walk_at "cmp")) (fun h => ?_) fun h => ?_
    · have e : deepN c = 31 + c / 60 % 170 := if_pos (of_decide_eq_true h)
      rw [e]
      exact (bd_cons (sd_set 2 (ed_bin ed_int (ed_bin (ed_bin (ed_var 0) ed_int (by walk_at "bin")) ed_int (by walk_at "bin")) (by walk_at "bin")) nd) bd_nil).is rfl
    · have e : deepN c = 27 + c / 3 % 5 := if_neg (of_decide_eq_false h)
      rw [e]
      exact bd_nil.is rfl
  refine bd_cons (es := [.dat (.int c), .dat (.str (deep c)), .dat (.int (deepN c)), .no]) ?_ (bd_left (sd_ret (ed_var 1)))
  refine (sd_for (items := rngD 0 (deepN c).toNat) 3 (fun i => [.dat (.int c), .dat (.str (deepI c i)), .dat (.int (deepN c)), .no]) PassesOwn.never rfl (id_rng1 mr (ed_var 2) (by omega) (by omega)) nd rfl (fun i d e => ?_)).is ?_
  · unfold rngD at e
    rw [List.getElem?_map] at e
    have hi : i < (deepN c).toNat := by
      cases q : (List.range (deepN c).toNat)[i]? with
      | none =>
        rw [q] at e
        cases e
      | some z =>
        have := (List.getElem?_eq_some_iff.mp q).1
        rw [List.length_range] at this
        exact this
    rw [List.getElem?_range hi] at e
    cases e
    have h1 := deepI_len c i
    have h2 := deepL_len (c + (i : Int))
    have h3 := deepR_len (c + (i : Int))
    have m0 : 0 ≤ (c + ((0 : Int) + (i : Int))) % 2 := Int.emod_nonneg _ (by decide)
    have m1 : (c + ((0 : Int) + (i : Int))) % 2 < 2 := Int.emod_lt_of_pos _ (by decide)
    have e0 : (("(" : Str)).length = 1 := rfl
    have it1 : (["# | ", ""] : List Str).getD ((c + ((0 : Int) + (i : Int))) % 2).toNat "" = deepL (c + (i : Int)) := by rw [Int.zero_add] <;> rfl
    have it2 : ([")", " > b)"] : List Str).getD ((c + ((0 : Int) + (i : Int))) % 2).toNat "" = deepR (c + (i : Int)) := by rw [Int.zero_add] <;> rfl
    refine bd_wk (bd_cons (sd_set 1 (ed_bin (ed_bin (ed_bin ed_str (ed_item ((ed_lst (ad_cons ed_str (ad_cons ed_str ad_nil)) (by decide)).is (g := .list ((["# | ", ""] : List Str).map .str)) rfl) (ed_bin (ed_bin (ed_var 0) (ed_var 3) (by walk_at "bin")) ed_int (by walk_at "bin")) (by exact ItemD.is (item_lm (xs := (["# | ", ""] : List Str)) (g := PyData.str) (atI_pos (p := (["# | ", ""] : List Str)) "" m0 m1)) (congrArg PyData.str it1))) (bin_addS (by omega))) (ed_var 1) (bin_addS (by rw [app_len]; omega)))
      (ed_item ((ed_lst (ad_cons ed_str (ad_cons ed_str ad_nil)) (by decide)).is (g := .list (([")", " > b)"] : List Str).map .str)) rfl) (ed_bin (ed_bin (ed_var 0) (ed_var 3) (by walk_at "bin")) ed_int (by walk_at "bin")) (by exact ItemD.is (item_lm (xs := ([")", " > b)"] : List Str)) (g := PyData.str) (atI_pos (p := ([")", " > b)"] : List Str)) "" m0 m1)) (congrArg PyData.str it2))) (bin_addS (by rw [app_len, app_len]; omega))) nd)
      bd_nil) (.same _ (.same _ (.same _ (.no _ .nil))))
  · unfold rngD
    rw [List.length_map, List.length_range] <;> rfl
/-! ### the text that the script makes -/
abbrev sTextBy : Stmt := topS 27
abbrev nTextBy : List Str := ["_law_script", "_law_cell", "_law_text", "_law_k"]
theorem scTextBy : FnScope nTextBy ["_law_script"] (defScope sTextBy) := ⟨rfl, rfl, rfl, by decide +kernel, rfl, by decide +kernel, by decide +kernel⟩
def mendN (ns : List Int) (z : Str) : Nat → Str
  | 0 => z
  | n + 1 => mended (mendN ns z n) (ns.getD (2 + n) 0)
theorem mendN_len (ns : List Int) (z : Str) : ∀ n : Nat, (mendN ns z n).length + 1 ≤ 2 ^ n * (z.length + 1)
  | 0 => by rw [Nat.pow_zero, Nat.one_mul]; exact Nat.le_refl _
  | n + 1 => by
    have h := mendN_len ns z n
    have h2 := mended_len (mendN ns z n) (ns.getD (2 + n) 0)
    show (mended (mendN ns z n) (ns.getD (2 + n) 0)).length + 1 ≤ _
    rw [Nat.pow_succ, Nat.mul_comm (2 ^ n) 2, Nat.mul_assoc]
    omega
def textBy (ns : List Int) : Str :=
  if ns.getD 1 0 % 4 = 1 then odd (ns.getD 1 0 / 4)
  else if ns.getD 1 0 % 6 = 2 then deep (ns.getD 1 0 / 12)
  else mendN ns (wr (stBy (DL.cutD ns (some 6) (some 18)) (ns.getD 0 0))) (ns.getD 1 0 / 12 % 4).toNat
theorem cells12 (ns : List Int) : (DL.cutD ns (some 6) (some 18)).length ≤ 12 := by
  have e2 : DL.cutD ns (some 6) (some 18) = (ns.drop 6).take 12 := cut_nat ns 6 18
  rw [e2, List.length_take]
  omega
theorem st12 (ns : List Int) : Ok (stBy (DL.cutD ns (some 6) (some 18)) (ns.getD 0 0)) ∧ dep (stBy (DL.cutD ns (some 6) (some 18)) (ns.getD 0 0)) ≤ 12 ∧ uN (stBy (DL.cutD ns (some 6) (some 18)) (ns.getD 0 0)) ≤ 53248 := by
  have l := cells12 ns
  obtain ⟨h1, h2⟩ := stBy_ok (DL.cutD ns (some 6) (some 18)) (ns.getD 0 0)
  have u := stBy_u (DL.cutD ns (some 6) (some 18)) (ns.getD 0 0)
  have p : 2 ^ (DL.cutD ns (some 6) (some 18)).length ≤ 2 ^ 12 := Nat.pow_le_pow_right (by decide) l
  refine ⟨h1, ?_, ?_⟩
  · omega
  · have : (2 : Nat) ^ 12 = 4096 := by decide
    omega
theorem mend_len3 (ns : List Int) {n : Nat} (h : n ≤ 3) : (mendN ns (wr (stBy (DL.cutD ns (some 6) (some 18)) (ns.getD 0 0))) n).length ≤ 500000 := by
  have h1 := mendN_len ns (wr (stBy (DL.cutD ns (some 6) (some 18)) (ns.getD 0 0))) n
  have h2 := (st12 ns).2.2
  rw [uN_eq] at h2
  have p : 2 ^ n ≤ 8 := Nat.pow_le_pow_right (n := 2) (by decide) h
  have q := Nat.mul_le_mul_right ((wr (stBy (DL.cutD ns (some 6) (some 18)) (ns.getD 0 0))).length + 1) p
  omega
theorem textBy_len (ns : List Int) : (textBy ns).length ≤ 500000 := by
  unfold textBy
  split
  · have := odd_len (ns.getD 1 0 / 4)
    omega
  · split
    · have := deep_len (ns.getD 1 0 / 12)
      omega
    · exact mend_len3 ns (by omega)
def rTextBy (ds : List PyData) (d : PyData) : Prop := ∃ ns : List Int, ds = [.list (ns.map .int)] ∧ d = .str (textBy ns)
theorem ok_textBy {kc ks kl km ko kd : Nat} (F : FnP K "_law_text_by" sTextBy f fd) (GC : FnG P w K mg base tb "_law_cell_at" ["_law_script", "_law_k"] kc rCell) (GS : FnG P w K mg base tb "_law_statement_by" ["_law_cells", "_law_seed"] ks rStBy) (GL : FnG P w K mg base tb "_law_written" ["_law_statement"] kl (rWr 12))
    (GM : FnG P w K mg base tb "_law_mended" ["_law_text", "_law_cell"] km rMend) (GO : FnG P w K mg base tb "_law_odd" ["_law_cell"] ko rOdd) (GD : FnG P w K mg base tb "_law_deep" ["_law_cell"] kd rDeep) (mr : mg "range" = none) (h1 : kc ≤ k) (h2 : ks ≤ k) (h3 : kl ≤ k) (h4 : km ≤ k) (h5 : ko ≤ k) (h6 : kd ≤ k) :
    FnOk P w K mg base CX0 (k + 1) f fd ["_law_script"] (spD K tb 1 rTextBy) := by
  refine fn_ok F scTextBy (by decide) ?_
  rintro ds d ⟨ns, rfl, rfl⟩ A outer s' H E hr
  have nd := scTextBy.nd
  obtain ⟨s1, s2, s3⟩ := st12 ns
  refine bd_cons (sd_set 1 (ed_call GC (hr.mono h1) (ad_cons (ed_var 0) (ad_cons ed_int ad_nil)) ⟨ns, 1, rfl, rfl⟩) nd) ?_
  unfold textBy
  refine (bd_if (td_cmpD (ed_bin (ed_var 1) ed_int (by walk_at "bin")) ed_int (by walk_at "cmp")) (fun h => ?_) rfl fun h => ?_)
  · rw [if_pos (of_decide_eq_true h)]
    exact (bd_left (sd_ret (ed_call GO (hr.mono h5) (ad_cons (ed_bin (ed_var 1) ed_int (by walk_at "bin")) ad_nil) ⟨_, rfl, rfl⟩)))
  rw [if_neg (of_decide_eq_false h)]
  refine (bd_if (td_cmpD (ed_bin (ed_var 1) ed_int (by walk_at "bin")) ed_int (by walk_at "cmp")) (fun h => ?_) rfl fun h => ?_)
  · rw [if_pos (of_decide_eq_true h)]
    exact (bd_left (sd_ret (ed_call GD (hr.mono h6) (ad_cons (ed_bin (ed_var 1) ed_int (by walk_at "bin")) ad_nil) ⟨_, rfl, rfl⟩)))
  rw [if_neg (of_decide_eq_false h)]
  have m0 : 0 ≤ ns.getD 1 0 / 12 % 4 := Int.emod_nonneg _ (by decide)
  have m1 : ns.getD 1 0 / 12 % 4 < 4 := Int.emod_lt_of_pos _ (by decide)
  refine bd_cons (sd_set 2 (ed_call GL (hr.mono h3) (ad_cons (ed_call GS (hr.mono h2) (ad_cons (ed_slc (ed_var 0) (od_some ed_int) (od_some ed_int) slc_lm) (ad_cons (ed_call GC (hr.mono h1) (ad_cons (ed_var 0) (ad_cons ed_int ad_nil)) ⟨ns, 0, rfl, rfl⟩) ad_nil)) ⟨_, _, rfl, Nat.le_trans (cells12 ns) (by decide), rfl⟩) ad_nil) ⟨_, rfl, s1, s2, by omega, rfl⟩) nd) ?_
  have m3 := fun n (h : n ≤ 3) => mend_len3 ns (n := n) h
  generalize wr (stBy (DL.cutD ns (some 6) (some 18)) (ns.getD 0 0)) = z at m3
  refine bd_cons (es := [.dat (.list (ns.map .int)), .dat (.int (ns.getD 1 0)), .dat (.str (mendN ns z (ns.getD 1 0 / 12 % 4).toNat)), .no]) ?_ (bd_left (sd_ret (ed_var 2)))
  refine (sd_for (items := rngD 0 (ns.getD 1 0 / 12 % 4).toNat) 3 (fun i => [.dat (.list (ns.map .int)), .dat (.int (ns.getD 1 0)), .dat (.str (mendN ns z i)), .no]) PassesOwn.never rfl (id_rng1 mr (ed_bin (ed_bin (ed_var 1) ed_int (by walk_at "bin")) ed_int (by walk_at "bin")) (by omega) (by omega)) nd rfl (fun i d e => ?_)).is ?_
  · unfold rngD at e
    rw [List.getElem?_map] at e
    have hi : i < (ns.getD 1 0 / 12 % 4).toNat := by
      cases q : (List.range (ns.getD 1 0 / 12 % 4).toNat)[i]? with
      | none =>
        rw [q] at e
        cases e
      | some z =>
        have := (List.getElem?_eq_some_iff.mp q).1
        rw [List.length_range] at this
        exact this
    rw [List.getElem?_range hi] at e
    cases e
    have l := m3 i (by omega)
    refine bd_wk (bd_cons (sd_set 2 (ed_call GM (hr.mono h4) (ad_cons (ed_var 2) (ad_cons (ed_call GC (hr.mono h1) (ad_cons (ed_var 0) (ad_cons (ed_bin ed_int (ed_var 3) (by walk_at "bin")) ad_nil)) ⟨ns, 2 + i, by rw [show (2 : Int) + ((0 : Int) + (i : Int)) = ((2 + i : Nat) : Int) by omega] <;> rfl, rfl⟩) ad_nil)) ⟨_, _, rfl, by omega, rfl⟩) nd)
      bd_nil) (.same _ (.same _ (.same _ (.no _ .nil))))
  · unfold rngD
    rw [List.length_map, List.length_range] <;> rfl
end
end K4
/-! DL18: what a table has not; numbers in messages. -/
namespace DL
open PySem PySem.Spec PyProof.Rows L2
theorem find_no {P : Params} {z : Str} : ∀ {l : List DictEntry} {ks : List Str}, l.map He.keyOf = He.keysIn P ks → z ∉ ks → l.find? (·.key.isStr z) = none ∧ l.any (·.refKey) = false
  | [], _, _, _ => ⟨rfl, rfl⟩
  | e :: r, [], h, _ => by cases h
  | e :: r, k :: ks, h, hz => by
    have h1 : He.keyOf e :: r.map He.keyOf = some (k, PyData.keyHash P k) :: He.keysIn P ks := h
    injection h1 with h2 h3
    have hk : ¬ k = z := fun q => hz (by rw [q]; exact List.mem_cons_self)
    obtain ⟨i1, i2⟩ := find_no h3 fun q => hz (List.mem_cons_of_mem _ q)
    unfold He.keyOf at h2
    split at h2
    · rename_i x t q
      have h4 := (Prod.mk.inj (Option.some.inj h2)).1
      have e1 : e.key.isStr z = false := by
        rw [q, h4]
        exact beq_eq_false_iff_ne.mpr hk
      have e2 : e.refKey = false := by
        unfold DictEntry.refKey
        rw [q] <;> rfl
      refine ⟨?_, ?_⟩
      · rw [List.find?_cons, e1]
        exact i1
      · rw [List.any_cons, e2, i2] <;> rfl
    · cases h2
theorem ns_none {P : Params} {K : PySem.W.Frag} {a : Addr} {ks : List Str} {z : Str} (h : He.dicW K a = some (He.keysIn P ks)) (hz : z ∉ ks) : PySem.W.nsIn K a z = some none := by
  unfold He.dicW at h
  cases q : K.lookup a with
  | none =>
    rw [q] at h
    cases h
  | some o =>
    obtain ⟨oc, od, dt, osl⟩ := o
    rw [q] at h
    cases oc with
    | type c =>
      cases od with
      | none =>
        cases dt with
        | dict es n =>
          have h1 : (match decide (c = "dict") && (osl.isEmpty && !(a == sysModules)) with
            | true => some (es.toList.map He.keyOf)
            | false => none) = some (He.keysIn P ks) := h
          cases y : decide (c = "dict") && (osl.isEmpty && !(a == sysModules)) with
          | false =>
            rw [y] at h1
            cases h1
          | true =>
            rw [y] at h1
            obtain ⟨i1, i2⟩ := find_no (Option.some.inj h1) hz
            unfold PySem.W.nsIn
            rw [q]
            show (match es.toList.find? (·.key.isStr z) with
              | some e => some (some e.val)
              | none => if es.toList.any (·.refKey) then none else some none) = some none
            rw [i1]
            show (if es.toList.any (·.refKey) = true then none else some none) = some none
            rw [i2] <;> rfl
        | _ => cases h
      | some b => cases dt <;> cases h
    | _ => cases od <;> cases dt <;> cases h
theorem tab_keys {fa : List He.Fa} {fn : List He.DefD} {ts : List He.Tab} {w : World} {K : PySem.W.Frag} (c : He.SaysT fa fn ts w K) (i : Nat) {t : He.Tab} (h : ts[i]? = some t := by rfl) : He.dicW K (t.1 K) = some (He.keysIn w.params t.2) := by
  have e : ts.map (fun t => He.dicW K (t.1 K)) = ts.map fun t => some (He.keysIn w.params t.2) := congrArg (fun z : He.AlT => z.2) c
  have e2 : (ts.map fun t => He.dicW K (t.1 K))[i]? = (ts.map fun t => some (He.keysIn w.params t.2))[i]? := by rw [e]
  rw [List.getElem?_map, List.getElem?_map, h] at e2
  exact Option.some.inj e2
theorem log_small {n : Nat} (h : n < 10 ^ 10) : (n : Int).natAbs.log2 < 1920 := by
  rw [Int.natAbs_natCast]
  by_cases h0 : n = 0
  · subst h0
    decide
  · exact (Nat.log2_lt h0).mpr (Nat.lt_of_lt_of_le h (Nat.le_trans (by decide : 10 ^ 10 ≤ 2 ^ 64) (Nat.pow_le_pow_right (by decide) (by decide))))
theorem num_len {n : Nat} (h : n < 10 ^ 10) : (Str.ofString (toString (n : Int))).length ≤ 10 := PySem.W.KT.len_num (by omega) (by omega)
end DL
namespace K4
open PySem PySem.Spec PyProof.Rows L2 DL LM RM
local macro_rules | `(tactic| walk_at "side") => `(tactic| first | assumption | decide | omega | (simp; done) | (simp; omega))
local macro_rules | `(tactic| walk_at "bin") => `(tactic| first | exact bin_add | exact bin_sub | exact bin_mul (by walk_at "side") | exact bin_fdiv (by walk_at "side") | exact bin_mod (by walk_at "side") | exact bin_catm (by walk_at "side") | exact bin_cat (by walk_at "side") | exact bin_addS (by walk_at "side"))
local macro_rules | `(tactic| walk_at "cmp") => `(tactic| first | exact cmp_lt | exact cmp_le | exact cmp_gt | exact cmp_ge | exact cmp_eqI | exact cmp_neI | exact cmp_eqS | exact cmp_neS | exact cmp_eqB | exact cmp_neB | exact cmp_isN | exact cmp_notN)
local macro_rules | `(tactic| walk_at "slc") => `(tactic| first | exact slc_lm | exact slc_l | exact slc_s (by walk_at "side"))
local macro_rules | `(tactic| walk_at "len") => `(tactic| first | exact len_lm | exact len_l rfl | exact len_t rfl | exact len_s (by walk_at "side"))
local macro_rules | `(tactic| walk_at "room") => `(tactic| exact Room.mono (by assumption) (by decide))

section
variable {P : Program} {w : World} {K : PySem.W.Frag} {mg : Str → Option Value} {base : Heap} {f : Addr} {fd : FuncData} {tb : List Addr} {k : Nat} {U : Addr}
variable {X : Cx} {W : WX'} {ds : List Sl} {a : Expr} {pos p1 p2 p3 p4 : Pos} {x z y : Str} {i j : Nat}
/-- a message of one number -/
theorem ed_msg {n : Nat} (ha : PEd X tb a ds (.int n)) (hn : n ≤ 9000000) (hz : z.length ≤ 100) (hy : y.length ≤ 100) : ∃ m : Str, PEd X tb (.JoinedStr [.Constant (.str z) i p1, .FormattedValue a (-1) none p2, .Constant (.str y) j p3] pos) ds (.str m) := by
  have l := num_len (n := n) (by omega)
  have e0 : Str.empty.length = 0 := rfl
  exact ⟨_, ed_fs (.cons ed_str (by rw [app_len]; omega) (.cons (ed_fmtI ha (log_small (by omega))) (by rw [app_len, app_len]; omega) (.cons ed_str (by rw [app_len, app_len, app_len]; omega) (.nil _))))⟩
theorem ed_msg1 {n : Nat} (ha : PEd X tb a ds (.int n)) (hn : n ≤ 9000000) (hz : z.length ≤ 100) : ∃ m : Str, PEd X tb (.JoinedStr [.Constant (.str z) i p1, .FormattedValue a (-1) none p2] pos) ds (.str m) := by
  have l := num_len (n := n) (by omega)
  have e0 : Str.empty.length = 0 := rfl
  exact ⟨_, ed_fs (.cons ed_str (by rw [app_len]; omega) (.cons (ed_fmtI ha (log_small (by omega))) (by rw [app_len, app_len]; omega) (.nil _)))⟩
/-- the class Unread, wherever it is named -/
structure UnC (K : PySem.W.Frag) (mg : Str → Option Value) (U : Addr) : Prop where
  q : PySem.W.excIn K U [.type "ValueError", .type "Exception", .type "BaseException", .type "object"] "ValueError.__new__" = true
  g : mg "Unread" = some (.ref U)
  k : PySem.W.keepIn K (.ref U) = true
  s : PySem.W.subIn K (.ref U) (.type "BaseException") = some true
  t : PySem.W.typeIn K (.ref U) = some (.type "type")
theorem UnC.c {X : Cx} {U : Addr} (T : UnC X.K X.mg U) : ExC X "Unread" U := ⟨T.q, T.g, T.k, T.s, T.t⟩
variable {q1 q2 q3 : Pos} {C : Addr}
theorem sd_raise2 {n : Nat} (T : ExC X x C) (hc : X.calm = true) (tk : Takes X W) (ha : PEd X tb a ds (.int n)) (hn : n ≤ 9000000) (hz : z.length ≤ 100) (hy : y.length ≤ 100) (hg : Gl X x := by rfl) (hs : starEach [.JoinedStr [.Constant (.str z) i p1, .FormattedValue a (-1) none p2, .Constant (.str y) j p3] pos] X.env = (false, eval (.JoinedStr [.Constant (.str z) i p1, .FormattedValue a (-1) none p2, .Constant (.str y) j p3] pos) X.env) :: starEach [] X.env := by rfl) (hdb : (x == ("__debug__" : Str)) = false := by decide) :
    PSd X tb W (.Raise (some (.Call (.Name x q1) [.JoinedStr [.Constant (.str z) i p1, .FormattedValue a (-1) none p2, .Constant (.str y) j p3] pos] [] q2)) none q3) ds (.ex (.ref C)) :=
  let ⟨_, h⟩ := ed_msg ha hn hz hy; sd_raise T hc tk h hg hs hdb
theorem sd_raise1 {n : Nat} (T : ExC X x C) (hc : X.calm = true) (tk : Takes X W) (ha : PEd X tb a ds (.int n)) (hn : n ≤ 9000000) (hz : z.length ≤ 100) (hg : Gl X x := by rfl) (hs : starEach [.JoinedStr [.Constant (.str z) i p1, .FormattedValue a (-1) none p2] pos] X.env = (false, eval (.JoinedStr [.Constant (.str z) i p1, .FormattedValue a (-1) none p2] pos) X.env) :: starEach [] X.env := by rfl) (hdb : (x == ("__debug__" : Str)) = false := by decide) :
    PSd X tb W (.Raise (some (.Call (.Name x q1) [.JoinedStr [.Constant (.str z) i p1, .FormattedValue a (-1) none p2] pos] [] q2)) none q3) ds (.ex (.ref C)) :=
  let ⟨_, h⟩ := ed_msg1 ha hn hz; sd_raise T hc tk h hg hs hdb
def xNm (U : Addr) (ds : List PyData) (c : Value) : Prop := ∃ (z : Str) (st : Nat), ds = [.str z, .int st] ∧ z.length ≤ 8000000 ∧ st ≤ z.length ∧ ¬ (1 ≤ runL (z.cps.toList.drop st) ∧ runL (z.cps.toList.drop st) ≤ 8) ∧ c = .ref U
theorem hx_readNm {kn : Nat} (G : FnG P w K mg base tb "is_name" ["thing"] kn rIsNm) (h1 : kn ≤ k) (T : UnC K mg U) : HX P w K mg base tb k "read_name" sReadNm nReadNm f fd (xNm U) := by
  rintro ds c ⟨z, st, rfl, hz, hst, hrun, rfl⟩ A outer s H E hr
  have nd := scReadNm.nd
  have zl := str_len z
  generalize hn : runL (z.cps.toList.drop st) = n at hrun
  have nl : n ≤ z.cps.toList.length - st := by
    have := runL_le (z.cps.toList.drop st)
    rw [List.length_drop, hn] at this
    exact this
  have sz : ∀ l : List Nat, l.length ≤ z.cps.toList.length → szD (.str (ofL l)) := fun l hl => by
    show (ofL l).length ≤ 16000000
    rw [ofL_len]
    omega
  refine bd_cons (sd_set 2 (ed_var 1) nd) ?_
  refine bd_cons (es := [.dat (.str z), .dat (.int st), .dat (.int (st + n : Nat))]) ?_ ?_
  · refine sd_while n (fun i => [.dat (.str z), .dat (.int st), .dat (.int (st + i : Nat))]) (passes_of rfl) rfl (fun i hi => ⟨?_, ?_⟩) ?_
    · rw [← hn] at hi
      refine td_val (ed_call G (hr.mono h1) (ad_cons (ed_slc (ed_var 0) (od_some (ed_var 2)) (od_some (ed_bin (ed_var 2) ed_int (by walk_at "bin"))) (slc_s (by omega))) ad_nil) ⟨_, rfl, ?_, ?_⟩)
      · rw [cut_1]
        refine sz _ ?_
        rw [List.length_take, List.length_drop]
        omega
      · rw [cut_1]
        exact (congrArg PyData.bool (run_on hi)).symm
    · exact (bd_cons (sd_augAdd 2 ed_int rfl nd) bd_nil).is rfl
    · refine td_val (ed_call G (hr.mono h1) (ad_cons (ed_slc (ed_var 0) (od_some (ed_var 2)) (od_some (ed_bin (ed_var 2) ed_int (by walk_at "bin"))) (slc_s (by omega))) ad_nil) ⟨_, rfl, ?_, ?_⟩)
      · rw [cut_1]
        refine sz _ ?_
        rw [List.length_take, List.length_drop]
        omega
      · rw [cut_1, ← hn]
        exact (congrArg PyData.bool (run_off _ _)).symm
  have ec : cutS z (some (st : Int)) (some ((st + n : Nat) : Int)) = ofL ((z.cps.toList.drop st).take n) := by
    rw [cut_nn, show st + n - st = n by omega]
  refine (bd_if (k := true) (td_not (k := false) (td_val (ed_call G (hr.mono h1) (ad_cons (ed_slc (ed_var 0) (od_some (ed_var 1)) (od_some (ed_var 2)) (slc_s (by omega))) ad_nil) ⟨_, rfl, ?_, ?_⟩))) (fun h => ?_) rfl fun h => nomatch h)
  · rw [ec]
    refine sz _ ?_
    rw [List.length_take, List.length_drop]
    omega
  · rw [ec]
    have := run_isNm (z.cps.toList.drop st)
    rw [hn] at this
    rw [isNmD, this]
    refine (congrArg PyData.bool ?_).symm
    rw [← Bool.decide_and]
    exact decide_eq_false hrun
  · exact bd_left (sd_raise1 T.c rfl (takes_of rfl rfl rfl rfl) (ed_var 1) (by omega) (by decide +kernel))
def xAt (U : Addr) (room : Nat) (ds : List PyData) (c : Value) : Prop := ∃ (z : Str) (st : Nat), ds = [.str z, .int st, .int room] ∧ z.length ≤ 8000000 ∧ st ≤ z.length ∧ parse room (z.cps.toList.drop st) = none ∧ c = .ref U
def xJo (U : Addr) (room : Nat) (ds : List PyData) (c : Value) : Prop := ∃ (z : Str) (st : Nat), ds = [.str z, .int st, .int room] ∧ z.length ≤ 8000000 ∧ st ≤ z.length ∧ (z.cps.toList.drop st).take 1 = [40] ∧ parse room (z.cps.toList.drop st) = none ∧ c = .ref U
theorem hx_readAt0 (T : UnC K mg U) : HX P w K mg base tb k "read_at" sReadAt nReadAt f fd (xAt U 0) := by
  rintro ds c ⟨z, st, rfl, hz, hst, hp, rfl⟩ A outer s H E hr
  exact (bd_if (k := true) ((td_cmpD (ed_var 2) ed_int (by walk_at "cmp")).is (decide_eq_true rfl)) (fun h => bd_left (sd_raise2 T.c rfl (takes_of rfl rfl rfl rfl) (ed_var 1) (by omega) (by decide +kernel) (by decide +kernel))) rfl fun h => nomatch h)
theorem hx_readAt {room kj kn : Nat} (GJ : FnX P w K mg base tb "read_joined" ["text", "start", "room"] kj (rJo (room + 1)) (xJo U (room + 1))) (GN : FnX P w K mg base tb "read_name" ["text", "start"] kn rNm (xNm U)) (h1 : kj ≤ k) (h2 : kn ≤ k) :
    HX P w K mg base tb k "read_at" sReadAt nReadAt f fd (xAt U (room + 1)) := by
  rintro ds c ⟨z, st, rfl, hz, hst, hp, rfl⟩ A outer s' H E hr
  have nd := scReadAt.nd
  refine (bd_if (k := false) ((td_cmpD (ed_var 2) ed_int (by walk_at "cmp")).is (decide_eq_false (by omega))) (fun h => nomatch h) rfl fun h => ?_)
  refine (bd_cons (sd_set 3 ((ed_slc (ed_var 0) (od_some (ed_var 1)) (od_some (ed_bin (ed_var 1) ed_int (by walk_at "bin"))) (slc_s (by omega))).is (congrArg PyData.str (cut_1 z st))) nd) ?_)
  refine (bd_if (td_cmpD (ed_var 3) ed_str (by walk_at "cmp")) (fun h => ?_) rfl fun h => ?_)
  · have h := ofL_is.mp (show ofL _ = ofL [40] from of_decide_eq_true h)
    exact (bd_left (sd_retX (xd_call GJ (hr.mono h1) (takes_of rfl rfl rfl rfl) (ad_cons (ed_var 0) (ad_cons (ed_var 1) (ad_cons (ed_var 2) ad_nil))) ⟨z, st, rfl, hz, hst, h, hp, rfl⟩)))
  have n1 : ¬ (z.cps.toList.drop st).take 1 = [40] := fun e => of_decide_eq_false h (show ofL _ = ofL [40] from ofL_is.mpr e)
  have n2 : ¬ (z.cps.toList.drop st).take 1 = [35] := fun e => by
    rw [parse_fls_eq e] at hp
    cases hp
  refine (bd_if (k := false) ((td_cmpD (ed_var 3) ed_str (by walk_at "cmp")).is (decide_eq_false fun e => n2 (ofL_is.mp (show ofL _ = ofL [35] from e)))) (fun h => nomatch h) rfl fun h => ?_)
  rw [parse_nm_eq n1 n2] at hp
  exact (bd_left (sd_retX (xd_call GN (hr.mono h2) (takes_of rfl rfl rfl rfl) (ad_cons (ed_var 0) (ad_cons (ed_var 1) ad_nil)) ⟨z, st, rfl, hz, hst, (fun e => by rw [if_pos e] at hp; cases hp), rfl⟩)))
/-- the module's table WORDS: what is there, what is not -/
structure Words (w : World) (K : PySem.W.Frag) (mg : Str → Option Value) : Prop where
  ex : ∃ (A : Addr) (es : Array DictEntry) (n : Nat), mg "WORDS" = some (.ref A) ∧ KDict K w A es n ∧ (∀ o : Op, ∃ u, PySem.W.nsIn K A (ofL [32, Op.sgn o, 32]) = some (some u) ∧ RelV (.str o.word) u) ∧ ∀ z : Str, z ∉ ops3 → PySem.W.nsIn K A z = some none
theorem Words.toY (T : Words w K mg) : Wordy w K mg := let ⟨A, es, n, h1, h2, h3, _⟩ := T.ex; ⟨A, es, n, h1, h2, h3⟩
theorem hx_readJo {room ka : Nat} (G : FnX P w K mg base tb "read_at" ["text", "start", "room"] ka (rAt room) (xAt U room)) (T : Words w K mg) (TU : UnC K mg U) (mJ : ∃ t, mg "JOINT_LENGTH" = some (.int 3 t)) (h1 : ka ≤ k) :
    HX P w K mg base tb k "read_joined" sReadJo nReadJo f fd (xJo U (room + 1)) := by
  obtain ⟨A0, es, n0, hS, hK, hV, hN⟩ := T.ex
  rintro ds c ⟨z, st, rfl, hz, hst, hb, hp, rfl⟩ A outer s' H E hr
  have nd := scReadJo.nd
  have zl := str_len z
  rw [parse_br_eq hb] at hp
  have st1 : st + 1 ≤ z.length := by
    have := congrArg List.length hb
    rw [List.length_take, List.length_drop, List.length_singleton] at this
    omega
  cases e1 : parse room (z.cps.toList.drop (st + 1)) with
  | none => exact bd_left (sd_asgX (xd_call G (hr.mono h1) (takes_of rfl rfl rfl rfl) (ad_cons (ed_var 0) (ad_cons (ed_bin (ed_var 1) ed_int (by walk_at "bin")) (ad_cons (ed_bin (ed_var 2) ed_int (by walk_at "bin")) ad_nil))) ⟨z, st + 1, by rw [e_room] <;> rfl, hz, st1, e1, rfl⟩))
  | some p =>
  obtain ⟨a, na⟩ := p
  rw [e1, Option.bind_some] at hp
  have la := (parse_le room _ a na e1).1
  rw [List.length_drop] at la
  refine (bd_cons (sd_unpack 3 4 (d1 := enc a) (d2 := .int (st + 1 + na : Nat)) (ed_callX G (hr.mono h1) (ad_cons (ed_var 0) (ad_cons (ed_bin (ed_var 1) ed_int (by walk_at "bin")) (ad_cons (ed_bin (ed_var 2) ed_int (by walk_at "bin")) ad_nil))) ⟨z, st + 1, na, a, by rw [e_room] <;> rfl, hz, e1, rfl⟩) rfl nd) ?_)
  cases e2 : opOf ((z.cps.toList.drop (st + 1 + na)).take 3) with
  | none =>
    have nin : ofL ((z.cps.toList.drop (st + 1 + na)).take 3) ∉ ops3 := of_decide_eq_false (by rw [op_in, e2] <;> rfl)
    refine (bd_cons (sd_set 5 (ed_kdGetM (d := .none) (v := .non) hK hS (hN _ nin) rfl (fun _ => .non) ((ed_slc (ed_var 0) (od_some (ed_var 4)) (od_some (ed_bin (ed_var 4) (ed_gInt mJ) (by walk_at "bin"))) (slc_s (by omega))).is (congrArg PyData.str (cut_3 z (st + 1 + na))))) nd) ?_)
    exact (bd_if (k := true) ((td_cmpD (ed_var 5) ed_non (by walk_at "cmp")).is rfl) (fun h => bd_left (sd_raise1 TU.c rfl (takes_of rfl rfl rfl rfl) (ed_var 4) (by omega) (by decide +kernel))) rfl fun h => nomatch h)
  | some o =>
  have ew := opOf_len e2
  have l3 := congrArg List.length ew
  rw [List.length_take, List.length_drop] at l3
  have l3 : min 3 (z.cps.toList.length - (st + 1 + na)) = 3 := l3
  rw [e2, Option.bind_some] at hp
  obtain ⟨u, v1, v2⟩ := hV o
  refine (bd_cons (sd_set 5 (ed_kdGetM (d := .str o.word) hK hS v1 v2 (fun _ => .str _) ((ed_slc (ed_var 0) (od_some (ed_var 4)) (od_some (ed_bin (ed_var 4) (ed_gInt mJ) (by walk_at "bin"))) (slc_s (by omega))).is (congrArg PyData.str ((cut_3 z (st + 1 + na)).trans (congrArg ofL ew))))) nd) ?_)
  refine (bd_if (k := false) ((td_cmpD (ed_var 5) ed_non (by walk_at "cmp")).is rfl) (fun h => nomatch h) rfl fun h => ?_)
  cases e3 : parse room (z.cps.toList.drop (st + 1 + na + 3)) with
  | none => exact bd_left (sd_asgX (xd_call G (hr.mono h1) (takes_of rfl rfl rfl rfl) (ad_cons (ed_var 0) (ad_cons (ed_bin (ed_var 4) (ed_gInt mJ) (by walk_at "bin")) (ad_cons (ed_bin (ed_var 2) ed_int (by walk_at "bin")) ad_nil))) ⟨z, st + 1 + na + 3, by rw [e_room] <;> rfl, hz, by omega, e3, rfl⟩))
  | some q =>
  obtain ⟨b, nb⟩ := q
  have lb := (parse_le room _ b nb e3).1
  rw [List.length_drop] at lb
  have hp2 : (if (z.cps.toList.drop (st + 1 + na + 3 + nb)).take 1 = [41] then some (S.bin o a b, na + nb + 5) else none) = none := by
    rw [e3] at hp
    exact hp
  have n4 : ¬ (z.cps.toList.drop (st + 1 + na + 3 + nb)).take 1 = [41] := fun e => by
    rw [if_pos e] at hp2
    cases hp2
  refine (bd_cons (sd_unpack 6 7 (d1 := enc b) (d2 := .int (st + 1 + na + 3 + nb : Nat)) (ed_callX G (hr.mono h1) (ad_cons (ed_var 0) (ad_cons (ed_bin (ed_var 4) (ed_gInt mJ) (by walk_at "bin")) (ad_cons (ed_bin (ed_var 2) ed_int (by walk_at "bin")) ad_nil))) ⟨z, st + 1 + na + 3, nb, b, by rw [e_room] <;> rfl, hz, e3, rfl⟩) rfl nd) ?_)
  exact (bd_if (k := true) ((td_cmpD ((ed_slc (ed_var 0) (od_some (ed_var 7)) (od_some (ed_bin (ed_var 7) ed_int (by walk_at "bin"))) (slc_s (by omega))).is (congrArg PyData.str (cut_1 z (st + 1 + na + 3 + nb)))) ed_str cmp_neS).is (by
    have q : decide (ofL ((z.cps.toList.drop (st + 1 + na + 3 + nb)).take 1) = (")" : Str)) = false := decide_eq_false (fun e => n4 (ofL_is.mp (show ofL _ = ofL [41] from e)))
    rw [q] <;> rfl)) (fun h => bd_left (sd_raise1 TU.c rfl (takes_of rfl rfl rfl rfl) (ed_var 7) (by omega) (by decide +kernel))) rfl fun h => nomatch h)
def xRead (U : Addr) (ds : List PyData) (c : Value) : Prop := ∃ z : Str, ds = [.str z] ∧ z.length ≤ 8000000 ∧ (parse 30 z.cps.toList = none ∨ ∃ (s : S) (n : Nat), parse 30 z.cps.toList = some (s, n) ∧ n ≠ z.length) ∧ c = .ref U
theorem hx_read {ka : Nat} (G : FnX P w K mg base tb "read_at" ["text", "start", "room"] ka (rAt 30) (xAt U 30)) (TU : UnC K mg U) (ml : mg "len" = none) (mD : ∃ t, mg "DEEPEST" = some (.int 30 t)) (h1 : ka ≤ k) : HX P w K mg base tb k "read" sRead nRead f fd (xRead U) := by
  rintro ds c ⟨z, rfl, hz, hh, rfl⟩ A outer s' H E hr
  have nd := scRead.nd
  have zl := str_len z
  rcases hh with hp | ⟨s, n, hp, hn⟩
  · exact bd_left (sd_asgX (xd_call G (hr.mono h1) (takes_of rfl rfl rfl rfl) (ad_cons (ed_var 0) (ad_cons ed_int (ad_cons (ed_gInt mD) ad_nil))) ⟨z, 0, rfl, hz, Nat.zero_le _, hp, rfl⟩))
  · have l := (parse_le 30 _ s n hp).1
    refine (bd_cons (sd_unpack 1 2 (d1 := enc s) (d2 := .int (0 + n : Nat)) (ed_callX G (hr.mono h1) (ad_cons (ed_var 0) (ad_cons ed_int (ad_cons (ed_gInt mD) ad_nil))) ⟨z, 0, n, s, rfl, hz, hp, rfl⟩) rfl nd) ?_)
    exact (bd_if (k := true) ((td_cmpD (ed_var 2) (ed_len ml (ed_var 0) (len_s (by omega))) (by walk_at "cmp")).is (decide_eq_true (by omega))) (fun h => bd_left (sd_raise2 TU.c rfl (takes_of rfl rfl rfl rfl) (ed_var 2) (by omega) (by decide +kernel) (by decide +kernel))) rfl fun h => nomatch h)
/-- read_at, each room -/
theorem at_all {fa fj fn : Addr} {da dj dn : FuncData} (FA : FnP K "read_at" sReadAt fa da) (FJ : FnP K "read_joined" sReadJo fj dj) (FN : FnP K "read_name" sReadNm fn dn) (ma : mg "read_at" = some (.ref fa)) (mj : mg "read_joined" = some (.ref fj)) (mn : mg "read_name" = some (.ref fn))
    (ba : Binds K da ["text", "start", "room"] []) (bj : Binds K dj ["text", "start", "room"] []) (bn : Binds K dn ["text", "start"] []) (GI : FnG P w K mg base tb "is_name" ["thing"] 1 rIsNm) (T : Words w K mg) (TU : UnC K mg U) (mJ : ∃ t, mg "JOINT_LENGTH" = some (.int 3 t)) :
    ∀ n : Nat, FnX P w K mg base tb "read_at" ["text", "start", "room"] (2 * n + 3) (rAt n) (xAt U n)
  | 0 => ⟨fa, da, (fnx_ok (k := 2) FA scReadAt (by decide) (fun ds d h => by
      obtain ⟨_, _, _, _, _, _, h, _⟩ := h
      cases h) (hx_readAt0 TU)), ma, FA.kp, ba⟩
  | n + 1 => by
    have ih := at_all FA FJ FN ma mj mn ba bj bn GI T TU mJ n
    have GJ : FnX P w K mg base tb "read_joined" ["text", "start", "room"] (2 * n + 3 + 1) (rJo (n + 1)) (xJo U (n + 1)) := ⟨fj, dj, ok_readJo FJ ih T.toY mJ (Nat.le_refl _) (hx_readJo ih T TU mJ (Nat.le_refl _)), mj, FJ.kp, bj⟩
    have GN : FnX P w K mg base tb "read_name" ["text", "start"] 2 rNm (xNm U) := ⟨fn, dn, ok_readNm FN GI (Nat.le_refl _) (hx_readNm GI (Nat.le_refl _) TU), mn, FN.kp, bn⟩
    exact ⟨fa, da, ok_readAt FA GJ GN (Nat.le_refl _) (by omega) (hx_readAt GJ GN (Nat.le_refl _) (by omega)), ma, FA.kp, ba⟩
end
end K4
/-! DL19: try: return e, except C as n: return r. -/
namespace DL
open PySem PySem.Spec PyProof.Rows L2
section
variable {X : Cx} {tb : List Addr} {W : WX'} {ds es : List Sl} {d : PyData} {e r : Expr} {rp rp2 pos pos' np p pT pv : Pos} {x n y : Str} {C : Addr} {c : Value} {i : Nat}
def tbTry (X : Cx) (e : Expr) (W : WX') : TS := fun D σ H => ∀ (pn : List (Addr × Obj)) (xe : Value → Shared → Prop), Takes (X.tr pn xe) W → PassesOwn (model X.prog X.w) X.A X.env xe → ∃ t, PE (X.tr pn xe) e t ∧ t σ H D.rt
def tsTry (X : Cx) (r : Expr) (a : Addr) (cls : Value) (dd : Option Addr) : TS := fun D σ H => ∀ (oe : Obj) (pn : List (Addr × Obj)), Zc cls dd oe → (∃ vs, oe.data = .fields vs) → ∃ t, PE (X.suite a ((a, oe) :: pn)) r t ∧ t σ H D.rt
theorem ps_tryRet (tk : Takes X W) (hs : X.stack = X.env :: X.outer) (hf : X.env.frame = some X.env.locals) (hN : X.N.Nodup) (hi : X.N[i]? = some n) (hln : X.env.kindOf n = some .local) (hc : Names X x c) :
    PS X (.Try [.Return (some e) rp] [.ExceptHandler (some (.Name x np)) (some n) [.Return (some r) rp2] pos'] [] [] pos) (fun D σ H => tbTry X e (wAs X.K c i (tsTry X r) W D) D σ H) :=
  ps_try_as hs hf hN hi hln hc tk (fun W' pn xe tk' pa => ⟨fun pins s σ H D I h => by
    obtain ⟨t, p1, q⟩ := h pn xe tk' pa
    exact (pss_one (ps_ret p1)).run pins s σ H D I q⟩) fun a oe cls dd pn hz hv => ⟨fun pins s σ H D I h => by
    obtain ⟨t, p1, q⟩ := h oe pn hz hv
    exact (pss_one (ps_ret p1)).run pins s σ H D I q⟩
/-- it hands back -/
theorem sd_try_ok (i : Nat) (tk : Takes X W) (hN : X.N.Nodup) (hc : Names X x c) (h : ∀ (pn : List (Addr × Obj)) (xe : Value → Shared → Prop), PEd (X.tr pn xe) tb e ds d) (hi : X.N[i]? = some n := by rfl) (hln : X.env.kindOf n = some .local := by rfl) (hs : X.stack = X.env :: X.outer := by rfl) (hf : X.env.frame = some X.env.locals := by rfl) :
    PSd X tb W (.Try [.Return (some e) rp] [.ExceptHandler (some (.Name x np)) (some n) [.Return (some r) rp2] pos'] [] [] pos) ds (.rt d) :=
  ⟨_, ps_tryRet tk hs hf hN hi hln hc, fun Hd0 H0 Hd H σ D S z => fun pn xe _ _ => by
    obtain ⟨t, p1, q⟩ := h pn xe
    exact ⟨t, p1, q Hd H σ S.env _ fun v Hd' H' g dv => z v Hd' H' (S.gr.trans g) (S.env.up g).tb dv⟩⟩
/-- it raises, and is caught -/
theorem sd_try_ex (i : Nat) {ce : Value} (tk : Takes X W) (hN : X.N.Nodup) (hc : Names X x c) (h : ∀ (W' : WX') (pn : List (Addr × Obj)) (xe : Value → Shared → Prop), Takes (X.tr pn xe) W' → PXd (X.tr pn xe) tb W' e ds ce) (hm : PySem.W.exmOne X.K ce c = some true)
    (hr : ∀ (a : Addr) (oe : Obj) (pn : List (Addr × Obj)), Zc ce none oe → (∃ vs, oe.data = .fields vs) → PEd (X.suite a ((a, oe) :: pn)) tb r (ds.set i (.val (.ref a))) d) (hi : X.N[i]? = some n := by rfl) (hln : X.env.kindOf n = some .local := by rfl) (hs : X.stack = X.env :: X.outer := by rfl) (hf : X.env.frame = some X.env.locals := by rfl) :
    PSd X tb W (.Try [.Return (some e) rp] [.ExceptHandler (some (.Name x np)) (some n) [.Return (some r) rp2] pos'] [] [] pos) ds (.rt d) :=
  ⟨_, ps_tryRet tk hs hf hN hi hln hc, fun Hd0 H0 Hd H σ D S z => fun pn xe tk' _ => by
    obtain ⟨t, p1, q⟩ := h _ pn xe tk'
    refine ⟨t, p1, q Hd H σ S.env _ fun Hd1 H1 g ht => ⟨true, hm, fun _ a ha => fun oe pn2 hz hv => ?_, fun z => nomatch z⟩⟩
    obtain ⟨t2, p2, q2⟩ := hr a oe pn2 hz hv
    refine ⟨t2, p2, q2 Hd1 H1 _ ((S.env.up g).set (s := .val (.ref a)) rfl fun _ z => nomatch z) _ fun v Hd2 H2 g2 dv => z v Hd2 H2 ((S.gr.trans g).trans g2) (((S.env.up g).up g2).tb) dv⟩⟩
/-- isinstance(e, T): e the exception that the suite holds -/
theorem ed_isE {a D : Addr} {oe : Obj} {pn : List (Addr × Obj)} {b : Bool} {v : V} {cv : Value} {T : Str} (i : Nat) (E : ExcC X.K D) (hz : Zc (.ref D) none oe) (hf : ∃ vs, oe.data = .fields vs) (hk : PySem.W.kitOne X.K (.ref D) cv = some b) (hv : ∀ u, RelV v u → u = cv)
    (hT : ∃ t, PE (X.suite a ((a, oe) :: pn)) (.Name T pT) t ∧ t = tC v) (hm : X.mg "isinstance" = none) (hd : ds[i]? = some (.val (.ref a)) := by rfl) (hN : X.N[i]? = some x := by rfl) (hvis : visB X.env.scope x = true := by rfl) (h1 : (x == ("__debug__" : Str)) = false := by decide) (h2 : (x == ("__classdict__" : Str)) = false := by decide)
    (hg : Gl X "isinstance" := by rfl) (hi : bootBuiltins "isinstance" = some (.builtin "isinstance") := by decide +kernel)
    (hs : starEach [.Name x pv, .Name T pT] X.env = (false, eval (.Name x pv) X.env) :: starEach [.Name T pT] X.env := by rfl) (hs2 : starEach [.Name T pT] X.env = (false, eval (.Name T pT) X.env) :: starEach [] X.env := by rfl) (hpl : (backTo pos (starEach [.Name T pT] X.env)).any (·.1) = false := by rfl) :
    PEd (X.suite a ((a, oe) :: pn)) tb (.Call (.Name "isinstance" p) [.Name x pv, .Name T pT] [] pos) ds (.bool b) := by
  obtain ⟨t, pT', rfl⟩ := hT
  refine ⟨_, pe_callB (X := X.suite a ((a, oe) :: pn)) (call_isE E hz hf) hg hm hi (pa_cons (pe_var (X := X.suite a ((a, oe) :: pn)) hN (visB_ok hvis) h1 h2) (pa_cons pT' pa_nil hs2) hs) (by decide) (by decide) hs hpl, fun Hd H σ E' Q z => ?_⟩
  obtain ⟨o, e1, e2⟩ := E'.sl i _ hd
  cases o with
  | none => exact e2.elim
  | some w =>
    have ew : w = .ref a := e2
    subst ew
    exact ⟨_, e1, v, cv, b, rfl, hv, hk, z _ Hd H (Gr.refl E'.dh) (.bl b)⟩
end
end DL
namespace K4
open PySem PySem.Spec PyProof.Rows L2 DL LM RM
local macro_rules | `(tactic| walk_at "side") => `(tactic| first | assumption | decide | omega | (simp; done) | (simp; omega))
local macro_rules | `(tactic| walk_at "bin") => `(tactic| first | exact bin_add | exact bin_sub | exact bin_mul (by walk_at "side") | exact bin_fdiv (by walk_at "side") | exact bin_mod (by walk_at "side") | exact bin_catm (by walk_at "side") | exact bin_cat (by walk_at "side") | exact bin_addS (by walk_at "side"))
local macro_rules | `(tactic| walk_at "cmp") => `(tactic| first | exact cmp_lt | exact cmp_le | exact cmp_gt | exact cmp_ge | exact cmp_eqI | exact cmp_neI | exact cmp_eqS | exact cmp_neS | exact cmp_eqB | exact cmp_neB | exact cmp_isN | exact cmp_notN)
local macro_rules | `(tactic| walk_at "slc") => `(tactic| first | exact slc_lm | exact slc_l | exact slc_s (by walk_at "side"))
local macro_rules | `(tactic| walk_at "len") => `(tactic| first | exact len_lm | exact len_l rfl | exact len_t rfl | exact len_s (by walk_at "side"))
local macro_rules | `(tactic| walk_at "room") => `(tactic| exact Room.mono (by assumption) (by decide))

abbrev sTold : Stmt := topS 28
abbrev sLaw : Stmt := topS 29
abbrev nTold : List Str := ["_law_text", "e"]
theorem scTold : FnScope nTold ["_law_text"] (defScope sTold) := ⟨rfl, rfl, rfl, by decide +kernel, rfl, by decide +kernel, by decide +kernel⟩
abbrev nLaw : List Str := ["_law_script", "_law_text", "_law_due", "_law_turn", "_law_found"]
theorem scLaw : FnScope nLaw ["_law_script"] (defScope sLaw) := ⟨rfl, rfl, rfl, by decide +kernel, rfl, by decide +kernel, by decide +kernel⟩
def refD : PyData := .list [.bool true, .bool false, .bool false, .bool true]
def toldOf (z : Str) : PyData := match parse 30 z.cps.toList with
  | some (s, n) => if n = z.length then .tuple [enc s] else refD
  | none => refD
section
variable {P : Program} {w : World} {K : PySem.W.Frag} {mg : Str → Option Value} {base : Heap} {f : Addr} {fd : FuncData} {tb : List Addr} {k : Nat} {U : Addr} {Rx : List PyData → Value → Prop}
/-- the classes that the law asks for -/
structure Asks (K : PySem.W.Frag) (mg : Str → Option Value) (U : Addr) : Prop where
  e : ExcC K U
  gU : mg "Unread" = some (.ref U)
  gS : ∃ A, mg "ShowError" = some (.ref A) ∧ PySem.W.exmOne K (.ref U) (.ref A) = some true
  kU : PySem.W.kitOne K (.ref U) (.ref U) = some true
  gT : ∃ A, mg "TooLarge" = some (.ref A) ∧ PySem.W.kitOne K (.ref U) (.ref A) = some false
  gN : ∃ A, mg "NoWorld" = some (.ref A) ∧ PySem.W.kitOne K (.ref U) (.ref A) = some false
  kV : PySem.W.kitOne K (.ref U) (.type "ValueError") = some true
  mV : mg "ValueError" = none
  mi : mg "isinstance" = none
def rTold (ds : List PyData) (d : PyData) : Prop := ∃ z : Str, ds = [.str z] ∧ z.length ≤ 8000000 ∧ d = toldOf z
theorem ok_told {kr : Nat} (F : FnP K "_law_told" sTold f fd) (GR : FnX P w K mg base tb "read" ["text"] kr rRead (xRead U)) (T : Asks K mg U) (h1 : kr ≤ k) :
    FnOk P w K mg base (L2.CX P w) (k + 1) f fd ["_law_text"] (spX K tb 1 rTold (fun _ _ => False)) := by
  obtain ⟨A1, gS, mS⟩ := T.gS
  obtain ⟨A2, gT, kT⟩ := T.gT
  obtain ⟨A3, gN, kN⟩ := T.gN
  refine fnx_ok F scTold (by decide) ?_ (fun _ _ h => h.elim)
  rintro ds d ⟨z, rfl, hz, rfl⟩ A outer s' H E hr
  have nd := scTold.nd
  have bad : (parse 30 z.cps.toList = none ∨ ∃ (s : S) (n : Nat), parse 30 z.cps.toList = some (s, n) ∧ n ≠ z.length) → PBd (cxOf (L2.CX P w) P w K mg base nTold "_law_told" (defScope sTold) f fd.code A outer s' H E) tb (fun c d _ H => E c d H) (defBody sTold) (sd nTold [.str z]) (.rt refD) := fun hb =>
    bd_left (sd_try_ex 1 (takes_of rfl rfl rfl rfl) nd ⟨rfl, by decide, .inl gS⟩ (fun W' pn xe tk => xd_tup1 (xd_callS GR (hr.mono h1) tk (ad_cons (ed_var 0) ad_nil) ⟨z, rfl, hz, hb, rfl⟩)) mS (fun a oe pn hz hf =>
      ed_lst (ad_cons (ed_isE (v := .ref U) 1 T.e hz hf T.kU (fun _ h => h) ⟨_, pe_glob (v := .ref U) rfl T.gU rfl (by decide), rfl⟩ T.mi)
        (ad_cons (ed_isE (v := .ref A2) 1 T.e hz hf kT (fun _ h => h) ⟨_, pe_glob (v := .ref A2) rfl gT rfl (by decide), rfl⟩ T.mi)
        (ad_cons (ed_isE (v := .ref A3) 1 T.e hz hf kN (fun _ h => h) ⟨_, pe_glob (v := .ref A3) rfl gN rfl (by decide), rfl⟩ T.mi)
        (ad_cons (ed_isE (v := .ty "ValueError") 1 T.e hz hf T.kV (fun _ h => h) ⟨_, pe_bltn (v := .ty "ValueError") rfl T.mV (by decide +kernel) rfl (by decide) (by decide), rfl⟩ T.mi) ad_nil)))) (by decide)))
  unfold toldOf
  cases e : parse 30 z.cps.toList with
  | none => exact bad (.inl e)
  | some p =>
    obtain ⟨s, n⟩ := p
    show PBd _ _ _ _ _ (.rt (if n = z.length then .tuple [enc s] else refD))
    by_cases hn : n = z.length
    · rw [if_pos hn]
      subst hn
      exact bd_left (sd_try_ok 1 (takes_of rfl rfl rfl rfl) nd ⟨rfl, by decide, .inl gS⟩ (fun pn xe => ed_tup (ad_cons (ed_callX GR (hr.mono h1) (ad_cons (ed_var 0) ad_nil) ⟨z, s, rfl, hz, e, rfl⟩) ad_nil) (by simp)))
    · rw [if_neg hn]
      exact bad (.inr ⟨s, n, e, hn⟩)
end
end K4
namespace K4
open PySem PySem.Spec PyProof.Rows L2 DL LM RM
local macro_rules | `(tactic| walk_at "side") => `(tactic| first | assumption | decide | omega | (simp; done) | (simp; omega))
local macro_rules | `(tactic| walk_at "bin") => `(tactic| first | exact bin_add | exact bin_sub | exact bin_mul (by walk_at "side") | exact bin_fdiv (by walk_at "side") | exact bin_mod (by walk_at "side") | exact bin_catm (by walk_at "side") | exact bin_cat (by walk_at "side") | exact bin_addS (by walk_at "side"))
local macro_rules | `(tactic| walk_at "cmp") => `(tactic| first | exact cmp_lt | exact cmp_le | exact cmp_gt | exact cmp_ge | exact cmp_eqI | exact cmp_neI | exact cmp_eqS | exact cmp_neS | exact cmp_eqB | exact cmp_neB | exact cmp_isN | exact cmp_notN)
local macro_rules | `(tactic| walk_at "slc") => `(tactic| first | exact slc_lm | exact slc_l | exact slc_s (by walk_at "side"))
local macro_rules | `(tactic| walk_at "len") => `(tactic| first | exact len_lm | exact len_l rfl | exact len_t rfl | exact len_s (by walk_at "side"))
local macro_rules | `(tactic| walk_at "room") => `(tactic| exact Room.mono (by assumption) (by decide))

section
variable {P : Program} {w : World} {K : PySem.W.Frag} {mg : Str → Option Value} {base : Heap} {f : Addr} {fd : FuncData} {tb : List Addr} {k : Nat} {U : Addr} {Rx : List PyData → Value → Prop}
theorem eqv_self : ∀ s : S, PyData.eqv (enc s) (enc s) = true
  | .nm w => by
    show (PyData.eqv (.str "name") (.str "name") && (PyData.eqv (.str w) (.str w) && true)) = true
    rw [show PyData.eqv (.str w) (.str w) = true from beq_self_eq_true w, show PyData.eqv (.str "name") (.str "name") = true by decide +kernel] <;> rfl
  | .fls => by decide +kernel
  | .bin o a b => by
    show (PyData.eqv (.str o.word) (.str o.word) && (PyData.eqv (enc a) (enc a) && (PyData.eqv (enc b) (enc b) && true))) = true
    rw [eqv_self a, eqv_self b, show PyData.eqv (.str o.word) (.str o.word) = true from beq_self_eq_true o.word] <;> rfl
def due0 (z : Str) : PyData := lrOf (parse 30 (z.cps.toList.drop 0)) 0
def dueOf (z : Str) : PyData := match parse 30 z.cps.toList with
  | some (s, n) => if n = z.length then .tuple [enc s, .int (0 + n : Nat)] else .tuple []
  | none => .tuple []
def lastT : PyData := .tuple [.tuple [.str "then", .tuple [.str "name", .str "a"], .tuple [.str "or", .tuple [.str "false"], .tuple [.str "name", .str "bc"]]]]
theorem last_told : toldOf "(a > (# | bc))" = lastT := by
  have e : parse 30 ("(a > (# | bc))" : Str).cps.toList = some (.bin .thn (.nm "a") (.bin .or .fls (.nm "bc")), 14) := by decide +kernel
  have l : ("(a > (# | bc))" : Str).length = 14 := by decide +kernel
  unfold toldOf
  rw [e, l] <;> rfl
theorem cases_of (z : Str) : (∃ (s : S) (n : Nat), parse 30 z.cps.toList = some (s, n) ∧ n = z.length ∧ dueOf z = .tuple [enc s, .int (0 + n : Nat)] ∧ toldOf z = .tuple [enc s] ∧ Ok s ∧ dep s ≤ 30) ∨ (dueOf z = .tuple [] ∧ toldOf z = refD) := by
  unfold dueOf toldOf
  cases e : parse 30 z.cps.toList with
  | none => exact .inr ⟨rfl, rfl⟩
  | some p =>
    obtain ⟨s, n⟩ := p
    obtain ⟨h1, h2⟩ := parse_ok 30 _ s n e
    by_cases hn : n = z.length
    · exact .inl ⟨s, n, rfl, hn, if_pos hn, if_pos hn, h1, h2⟩
    · exact .inr ⟨if_neg hn, if_neg hn⟩
theorem t1_shaped {s : S} {n : Nat} (h1 : Ok s) (h2 : dep s ≤ 30) : SeqAt.shaped (.tuple [enc s, .int (0 + n : Nat)]) = true := by
  have h3 := enc_lay s h1
  have h4 := enc_depth s
  unfold SeqAt.shaped
  have e1 : PyData.canLay0 (.tuple [enc s, .int (0 + n : Nat)]) = true := by
    simp only [PyData.canLay0, PyData.canLayAll0, h3, Bool.and_true]
  have e2 : PyData.depth (.tuple [enc s, .int (0 + n : Nat)]) ≤ 64 := by
    simp only [PyData.depth, PyData.depthAll]
    omega
  rw [e1, decide_eq_true e2] <;> rfl
def rLaw (ds : List PyData) (d : PyData) : Prop := ∃ ns : List Int, ds = [.list (ns.map .int)] ∧ d = .bool true
theorem ok_law {kt kl ko : Nat} (F : FnP K "law" sLaw f fd) (GT : FnG P w K mg base tb "_law_text_by" ["_law_script"] kt rTextBy) (GL : FnG P w K mg base tb "_law_read_at" ["_law_text", "_law_at", "_law_room"] kl (rLr 30)) (GO : FnX P w K mg base tb "_law_told" ["_law_text"] ko rTold Rx)
    (ml : mg "len" = none) (mi : mg "isinstance" = none) (mt : mg "tuple" = none) (mr : mg "range" = none) (h1 : kt ≤ k) (h2 : kl ≤ k) (h3 : ko ≤ k) : FnOk P w K mg base CX0 (k + 1) f fd ["_law_script"] (spD K tb 1 rLaw) := by
  refine fn_ok F scLaw (by decide) ?_
  rintro ds d ⟨ns, rfl, rfl⟩ A outer s' H E hr
  have nd := scLaw.nd
  have hz := textBy_len ns
  refine bd_cons (sd_set 1 (ed_call GT (hr.mono h1) (ad_cons (ed_var 0) ad_nil) ⟨ns, rfl, rfl⟩) nd) ?_
  generalize textBy ns = z at hz
  refine bd_cons (es := [.dat (.list (ns.map .int)), .dat (.str z), .dat (lrOf (parse 30 z.cps.toList) 0), .no, .no]) (sd_set 2 (ed_call GL (hr.mono h2) (ad_cons (ed_var 1) (ad_cons ed_int (ad_cons ed_int ad_nil))) ⟨z, 0, rfl, by omega, by decide, rfl⟩) nd) ?_
  refine bd_cons (es := [.dat (.list (ns.map .int)), .dat (.str z), .dat (dueOf z), .no, .no]) ?_ ?_
  · have sh := lr_shaped (room := 30) (r := z.cps.toList) (by decide) 0
    unfold dueOf
    cases e : parse 30 z.cps.toList with
    | none => exact sd_if (k := false) (PWd.pt (wd_andf ((td_cmpD (ed_var 2) (ed_tup ad_nil (by decide)) (cmp_neD hr (by show SeqAt.shaped (.tuple []) = true; decide +kernel) (by decide +kernel))).is (by show (!PyData.eqv (.tuple []) (.tuple [])) = false; rfl)))) (fun h => nomatch h) fun h => bd_nil.is rfl
    | some p =>
      obtain ⟨s, n⟩ := p
      rw [e] at sh
      have it : ItemD (cxOf CX0 P w K mg base nLaw "law" (defScope sLaw) f fd.code A outer s' H E).nox tb (.tuple [enc s, .int (0 + n : Nat)]) (.int 1) (.int (0 + n : Nat)) := item_t (atI_nat (j := 1) rfl)
      refine sd_if (PWd.pt (wd_andt ((td_cmpD (ed_var 2) (ed_tup ad_nil (by decide)) (cmp_neD hr sh (by decide +kernel))).is (congrArg (!·) (lr_nil (some (s, n)) 0))) (wd_and1 (td_cmpD (ed_item (ed_var 2) ed_int it) (ed_len ml (ed_var 1) (len_s (by omega))) cmp_neI)))) (fun h => ?_) fun h => ?_
      · have hn : n ≠ z.length := fun q => by
          rw [decide_eq_true (show ((0 + n : Nat) : Int) = (z.length : Int) by omega)] at h
          cases h
        exact (bd_cons (sd_set 2 (ed_tup ad_nil (by decide)) nd) bd_nil).is (by show _ = Out.nx [_, _, .dat (if n = z.length then _ else _), _, _]; rw [if_neg hn] <;> rfl)
      · have hn : n = z.length := by
          by_cases q : ((0 + n : Nat) : Int) = (z.length : Int)
          · omega
          · rw [decide_eq_false q] at h
            cases h
        exact bd_nil.is (by show _ = Out.nx [_, _, .dat (if n = z.length then _ else _), _, _]; rw [if_pos hn] <;> rfl)
  refine bd_cons (es := [.dat (.list (ns.map .int)), .dat (.str z), .dat (dueOf z), .no, .no]) ?_ (bd_left (sd_ret ed_bl))
  refine (sd_for (items := rngD 0 2) 3 (fun i => [.dat (.list (ns.map .int)), .dat (.str z), .dat (dueOf z), .no, .no]) PassesOwn.never rfl (id_rng1 mr ed_int (by decide) (by decide)) nd rfl (fun i d e => ?_)).is rfl
  refine bd_wk (fs := [.dat (.list (ns.map .int)), .dat (.str z), .dat (dueOf z), .no, .no]) (es := [.dat (.list (ns.map .int)), .dat (.str z), .dat (dueOf z), .dat d, .dat (toldOf z)]) ?_ (.same _ (.same _ (.same _ (.no _ (.no _ .nil)))))
  refine bd_cons (sd_set 4 (ed_callX GO (hr.mono h3) (ad_cons (ed_var 1) ad_nil) ⟨z, rfl, by omega, rfl⟩) nd) ?_
  refine bd_cons (es := [.dat (.list (ns.map .int)), .dat (.str z), .dat (dueOf z), .dat d, .dat (toldOf z)]) ?_ ?_
  · rcases cases_of z with ⟨s, n, hp, hn, hd, ht, o1, o2⟩ | ⟨hd, ht⟩
    · have it0 : ItemD (cxOf CX0 P w K mg base nLaw "law" (defScope sLaw) f fd.code A outer s' H E).nox tb (.tuple [enc s, .int (0 + n : Nat)]) (.int 0) (enc s) := item_t (atI_nat (j := 0) rfl)
      have it1 : ItemD (cxOf CX0 P w K mg base nLaw "law" (defScope sLaw) f fd.code A outer s' H E).nox tb (.tuple [enc s]) (.int 0) (enc s) := item_t (atI_nat (j := 0) rfl)
      have se := enc_shaped o1 (Nat.le_trans o2 (by decide : 30 ≤ 64))
      rw [hd, ht]
      exact sd_if (k := false) ((td_cmpD (ed_var 2) (ed_tup ad_nil (by decide)) (cmp_eqD hr (t1_shaped o1 o2) (by decide +kernel))).is (eqv_tnil _)) (fun h => nomatch h) fun h =>
        (bd_cons (sd_if (k := false) (PWd.pt (wd_orf (td_not (k := true) (td_val (ed_isi (T := "tuple") (d := .tuple [enc s]) (k := true) (by show kitB "tuple" "tuple" = some true; decide +kernel) mi mt (ed_var 4)))) (wd_or1 ((td_cmpD (ed_item (ed_var 4) ed_int it1) (ed_item (ed_var 2) ed_int it0) (cmp_neD hr se se)).is (by rw [eqv_self] <;> rfl))))) (fun h => nomatch h) fun h => bd_nil) bd_nil)
    · rw [hd, ht]
      exact sd_if (k := true) ((td_cmpD (ed_var 2) (ed_tup ad_nil (by decide)) (cmp_eqD hr (by decide +kernel) (by decide +kernel))).is (by rfl)) (fun h =>
        (bd_cons (sd_if (k := false) ((td_cmpD (ed_var 4) ((ed_lst (ad_cons ed_bl (ad_cons ed_bl (ad_cons ed_bl (ad_cons ed_bl ad_nil)))) (by decide)).is (g := refD) rfl) (cmp_neD hr (by decide +kernel) (by decide +kernel))).is (by decide +kernel)) (fun h => nomatch h) fun h => bd_nil) bd_nil)) fun h => nomatch h
  refine (bd_cons (sd_if (k := false) ((td_cmpD ((ed_callX GO (hr.mono h3) (ad_cons ed_str ad_nil) ⟨"(a > (# | bc))", rfl, by decide +kernel, rfl⟩).is last_told)
    ((ed_tup (ad_cons (ed_tup (ad_cons ed_str (ad_cons (ed_tup (ad_cons ed_str (ad_cons ed_str ad_nil)) (by decide)) (ad_cons (ed_tup (ad_cons ed_str (ad_cons (ed_tup (ad_cons ed_str ad_nil) (by decide)) (ad_cons (ed_tup (ad_cons ed_str (ad_cons ed_str ad_nil)) (by decide)) ad_nil))) (by decide)) ad_nil))) (by decide)) ad_nil) (by decide)).is (g := lastT) rfl)
    (cmp_neD hr (by decide +kernel) (by decide +kernel))).is (by decide +kernel)) (fun h => nomatch h) fun h => bd_nil) bd_nil)
end
end K4
namespace K4
open PySem PySem.Spec PyProof.Rows L2
def dD (x : Str) (i : Nat) : He.DefD := ⟨(x, none), x, x, defArgs (topS i), defBody (topS i), defScope (topS i), [], []⟩
def fn : List He.DefD := [dD "is_name" 8, dD "read" 12, dD "read_at" 13, dD "read_joined" 14, dD "read_name" 15, dD "_law_cell_at" 17, dD "_law_name_by" 18, dD "_law_joined" 19, dD "_law_step" 20, dD "_law_statement_by" 21, dD "_law_written" 22, dD "_law_read_at" 23, dD "_law_mended" 24, dD "_law_odd" 25, dD "_law_deep" 26, dD "_law_text_by" 27, dD "_law_told" 28, dD "law" 29]
def fa : List He.Fa := [.glo "is_name", .glo "read", .glo "read_at", .glo "read_joined", .glo "read_name", .glo "_law_cell_at", .glo "_law_name_by", .glo "_law_joined", .glo "_law_step", .glo "_law_statement_by", .glo "_law_written", .glo "_law_read_at", .glo "_law_mended", .glo "_law_odd", .glo "_law_deep", .glo "_law_text_by", .glo "_law_told", .glo "law",
  .glo "Unread", .glo "ShowError", .glo "TooLarge", .glo "NoWorld", .glo "WORDS", .int "LONGEST_NAME" 8, .int "DEEPEST" 30, .int "JOINT_LENGTH" 3, .exc "Unread", .exm "Unread" "ShowError" true, .free "len", .free "isinstance", .free "str", .free "tuple", .free "all", .free "range", .free "ValueError"]
def ts : List He.Tab := [(fun K => He.ga K "WORDS", [" & ", " | ", " > "])]
def tf : List He.Defn := [("is_name", none)]
def exc8 (K : PySem.W.Frag) (D : Addr) : Bool := He.eqO (PySem.W.findIn K (.ref D) "__getattribute__") (some (some (.builtin "BaseException.__getattribute__"))) && (He.eqO (PySem.W.findIn K (.ref D) "__getattr__") (some none) && (PySem.W.hasDictIn K D && (He.eqO (PySem.W.findIn K (.ref D) "__class__") (some (some (.builtin "object.__class__"))) &&
  (He.eqO (PySem.W.specialIn K (.builtin "object.__class__") "__get__") (some (some (.builtin "getset_descriptor.__get__"))) && (decide (PySem.W.takesIn K (.builtin "object.__class__") = some true) && decide (PySem.W.mroIn K D (.type "object") = some true))))))
def kit4 (K : PySem.W.Frag) : Bool := decide (PySem.W.kitOne K (.ref (He.ga K "Unread")) (.ref (He.ga K "Unread")) = some true) && (decide (PySem.W.kitOne K (.ref (He.ga K "Unread")) (.ref (He.ga K "TooLarge")) = some false) && (decide (PySem.W.kitOne K (.ref (He.ga K "Unread")) (.ref (He.ga K "NoWorld")) = some false) && decide (PySem.W.kitOne K (.ref (He.ga K "Unread")) (.type "ValueError") = some true)))
def ex (K : PySem.W.Frag) : Bool := He.valsB K (He.ga K "WORDS") [(" & ", .str "and"), (" | ", .str "or"), (" > ", .str "then")] && (exc8 K (He.ga K "Unread") && kit4 K)
abbrev R : PySem.W.OpenRow := PySem.W.OpenLaw.row PySem.Challenge.rw_showtree_k04_texts_refused
abbrev hk : PySem.W.Hook := He.hookX 6 fa fn ts tf ex
def ob (s : PySem.W.SharedT) : He.AlX := He.obsX 6 fa fn ts tf ex (HandSHeadRun.getT s)
theorem ob_eq (s : PySem.W.SharedT) : ob s = hk.obs s.abs := He.obsX_eq (HandSHeadRun.getT_eq s)

def names : List Str := ["ShowError", "Unread", "TooLarge", "NoWorld", "LONGEST_NAME", "DEEPEST", "is_name", "WORDS", "JOINT_LENGTH", "read", "read_at", "read_joined", "read_name", "_law_cell_at", "_law_name_by", "_law_joined", "_law_step", "_law_statement_by", "_law_written", "_law_read_at", "_law_mended", "_law_odd", "_law_deep", "_law_text_by", "_law_told"]
theorem run (w : World) : HandSHeadRun.RunEq R (PySem.W.view R.prog [29]) hk ob 2000 names w :=
  PySem.W.byRow2 "special-get-raises" (P := fun w => HandSHeadRun.RunEq R (PySem.W.view R.prog [29]) hk ob 2000 names w) (fun w => by
    intro os
    kernel_rfl) (fun w => by
    intro os
    kernel_rfl) w
end K4
namespace K4
open PySem PySem.Spec PyProof.Rows L2 DL LM RM
section
variable {P : Program} {w : World} {K : PySem.W.Frag} {mg : Str → Option Value} {base h : Heap} {tb : List Addr}
theorem b1 {x p1 : Str} {st : Stmt} {f : Addr} {fd : FuncData} (F : FnP K x st f fd) (h : ∀ (kV doc pm : Value) (an : Option Addr) (cdv ct : Value) (u : Value), bindArgs (PySem.W.fnOf x x (defArgs st) (defBody st) (defScope st) .none kV doc pm an cdv ct) ⟨[u], []⟩ = pure ([p1].zip [u])) : Binds K fd [p1] [] :=
  F.bindsN fun a b c d e g us hl => match us, hl with | [u], _ => h a b c d e g u
theorem b2 {x p1 p2 : Str} {st : Stmt} {f : Addr} {fd : FuncData} (F : FnP K x st f fd) (h : ∀ (kV doc pm : Value) (an : Option Addr) (cdv ct : Value) (u v : Value), bindArgs (PySem.W.fnOf x x (defArgs st) (defBody st) (defScope st) .none kV doc pm an cdv ct) ⟨[u, v], []⟩ = pure ([p1, p2].zip [u, v])) : Binds K fd [p1, p2] [] :=
  F.bindsN fun a b c d e g us hl => match us, hl with | [u, v], _ => h a b c d e g u v
theorem b3 {x p1 p2 p3 : Str} {st : Stmt} {f : Addr} {fd : FuncData} (F : FnP K x st f fd) (h : ∀ (kV doc pm : Value) (an : Option Addr) (cdv ct : Value) (u v z : Value), bindArgs (PySem.W.fnOf x x (defArgs st) (defBody st) (defScope st) .none kV doc pm an cdv ct) ⟨[u, v, z], []⟩ = pure ([p1, p2, p3].zip [u, v, z])) : Binds K fd [p1, p2, p3] [] :=
  F.bindsN fun a b c d e g us hl => match us, hl with | [u, v, z], _ => h a b c d e g u v z
/-- a def's code object -/
theorem code_at {p : Str × Option Str} {x q : Str} {ps : Arguments} {b : List Stmt} {sc : Scope} {dvs : List V} {kws : List (Str × V)} {fd : FuncData} (F : FunD K x q ps b sc dvs kws (He.fAd K p) fd) : fd.code = .ref (He.cT K p).1 := by
  obtain ⟨oc, od, dV, kV, doc, pm, an, cdv, ct, osl, rfl, lk, hcd, _, _⟩ := F.ex
  obtain ⟨c, e⟩ := He.codeIn_ref hcd
  have e2 : (PySem.W.fnOf x q ps b sc dV kV doc pm an cdv ct).code = .ref c := e
  have e3 := He.codeOf_eq lk e2
  show (PySem.W.fnOf x q ps b sc dV kV doc pm an cdv ct).code = .ref (He.codeOf K p)
  rw [e2, e3]
theorem excC_of {D : Addr} (h : exc8 K D = true) (hs : PySem.W.subIn K (.ref D) (.type "BaseException") = some true) : ExcC K D := by
  obtain ⟨h1, h⟩ := He.ba h
  obtain ⟨h2, h⟩ := He.ba h
  obtain ⟨h3, h⟩ := He.ba h
  obtain ⟨h4, h⟩ := He.ba h
  obtain ⟨h5, h⟩ := He.ba h
  obtain ⟨h6, h7⟩ := He.ba h
  exact ⟨He.eqO_ok h1, He.eqO_ok h2, hs, h3, He.eqO_ok h4, He.eqO_ok h5, of_decide_eq_true h6, of_decide_eq_true h7⟩
theorem facts {fl : Addr} (X : K.In h) (G : h.Ns mainGlobals mg) (hfl : mg ("law" : Str) = some (.ref fl)) (c : He.SaysX fa fn ts tf ex w h K) :
    ∃ fd : FuncData, (∀ (s : Shared) (v : Value), BindsTo s fd ⟨[v], []⟩ [("_law_script", v)]) ∧ ∀ base : Heap, K.In base → base.Ns mainGlobals mg → LamX.TabB base mg (He.cT K ("is_name", none)).1 (He.cT K ("is_name", none)).2 → FnOk P w K mg base CX0 66 fl fd ["_law_script"] (spD K [(He.cT K ("is_name", none)).2] 1 rLaw) := by
  have d := c.t.d
  obtain ⟨d0, F0⟩ := d.def_ 0 (d := dD "is_name" 8) rfl
  obtain ⟨d1, F1⟩ := d.def_ 1 (d := dD "read" 12) rfl
  obtain ⟨d2, F2⟩ := d.def_ 2 (d := dD "read_at" 13) rfl
  obtain ⟨d3, F3⟩ := d.def_ 3 (d := dD "read_joined" 14) rfl
  obtain ⟨d4, F4⟩ := d.def_ 4 (d := dD "read_name" 15) rfl
  obtain ⟨d5, F5⟩ := d.def_ 5 (d := dD "_law_cell_at" 17) rfl
  obtain ⟨d6, F6⟩ := d.def_ 6 (d := dD "_law_name_by" 18) rfl
  obtain ⟨d7, F7⟩ := d.def_ 7 (d := dD "_law_joined" 19) rfl
  obtain ⟨d8, F8⟩ := d.def_ 8 (d := dD "_law_step" 20) rfl
  obtain ⟨d9, F9⟩ := d.def_ 9 (d := dD "_law_statement_by" 21) rfl
  obtain ⟨d10, F10⟩ := d.def_ 10 (d := dD "_law_written" 22) rfl
  obtain ⟨d11, F11⟩ := d.def_ 11 (d := dD "_law_read_at" 23) rfl
  obtain ⟨d12, F12⟩ := d.def_ 12 (d := dD "_law_mended" 24) rfl
  obtain ⟨d13, F13⟩ := d.def_ 13 (d := dD "_law_odd" 25) rfl
  obtain ⟨d14, F14⟩ := d.def_ 14 (d := dD "_law_deep" 26) rfl
  obtain ⟨d15, F15⟩ := d.def_ 15 (d := dD "_law_text_by" 27) rfl
  obtain ⟨d16, F16⟩ := d.def_ 16 (d := dD "_law_told" 28) rfl
  obtain ⟨d17, F17⟩ := d.def_ 17 (d := dD "law" 29) rfl
  have e := hfl.symm.trans (He.glo_ok X G (d.fact 17 (f := .glo "law") rfl))
  cases e
  have g0 := He.glo_ok X G (d.fact 0 (f := .glo "is_name") rfl)
  have g1 := He.glo_ok X G (d.fact 1 (f := .glo "read") rfl)
  have g2 := He.glo_ok X G (d.fact 2 (f := .glo "read_at") rfl)
  have g3 := He.glo_ok X G (d.fact 3 (f := .glo "read_joined") rfl)
  have g4 := He.glo_ok X G (d.fact 4 (f := .glo "read_name") rfl)
  have g5 := He.glo_ok X G (d.fact 5 (f := .glo "_law_cell_at") rfl)
  have g6 := He.glo_ok X G (d.fact 6 (f := .glo "_law_name_by") rfl)
  have g7 := He.glo_ok X G (d.fact 7 (f := .glo "_law_joined") rfl)
  have g8 := He.glo_ok X G (d.fact 8 (f := .glo "_law_step") rfl)
  have g9 := He.glo_ok X G (d.fact 9 (f := .glo "_law_statement_by") rfl)
  have g10 := He.glo_ok X G (d.fact 10 (f := .glo "_law_written") rfl)
  have g11 := He.glo_ok X G (d.fact 11 (f := .glo "_law_read_at") rfl)
  have g12 := He.glo_ok X G (d.fact 12 (f := .glo "_law_mended") rfl)
  have g13 := He.glo_ok X G (d.fact 13 (f := .glo "_law_odd") rfl)
  have g14 := He.glo_ok X G (d.fact 14 (f := .glo "_law_deep") rfl)
  have g15 := He.glo_ok X G (d.fact 15 (f := .glo "_law_text_by") rfl)
  have g16 := He.glo_ok X G (d.fact 16 (f := .glo "_law_told") rfl)
  have P0 : FnP K "is_name" sIsNm _ d0 := F0
  have P1 : FnP K "read" sRead _ d1 := F1
  have P2 : FnP K "read_at" sReadAt _ d2 := F2
  have P3 : FnP K "read_joined" sReadJo _ d3 := F3
  have P4 : FnP K "read_name" sReadNm _ d4 := F4
  have P5 : FnP K "_law_cell_at" sCell _ d5 := F5
  have P6 : FnP K "_law_name_by" sName _ d6 := F6
  have P7 : FnP K "_law_joined" sJoined _ d7 := F7
  have P8 : FnP K "_law_step" sStep _ d8 := F8
  have P9 : FnP K "_law_statement_by" sStBy _ d9 := F9
  have P10 : FnP K "_law_written" sLWritten _ d10 := F10
  have P11 : FnP K "_law_read_at" sLRead _ d11 := F11
  have P12 : FnP K "_law_mended" sMend _ d12 := F12
  have P13 : FnP K "_law_odd" sOdd _ d13 := F13
  have P14 : FnP K "_law_deep" sDeep _ d14 := F14
  have P15 : FnP K "_law_text_by" sTextBy _ d15 := F15
  have P16 : FnP K "_law_told" sTold _ d16 := F16
  have P17 : FnP K "law" sLaw _ d17 := F17
  have ml := He.free_ok X G (d.fact 28 (f := .free "len") rfl)
  have mi := He.free_ok X G (d.fact 29 (f := .free "isinstance") rfl)
  have ms := He.free_ok X G (d.fact 30 (f := .free "str") rfl)
  have mt := He.free_ok X G (d.fact 31 (f := .free "tuple") rfl)
  have ma := He.free_ok X G (d.fact 32 (f := .free "all") rfl)
  have mr := He.free_ok X G (d.fact 33 (f := .free "range") rfl)
  have mV := He.free_ok X G (d.fact 34 (f := .free "ValueError") rfl)
  have mL := He.int_ok X G (d.fact 23 (f := .int "LONGEST_NAME" 8) rfl)
  have mD := He.int_ok X G (d.fact 24 (f := .int "DEEPEST" 30) rfl)
  have mJ := He.int_ok X G (d.fact 25 (f := .int "JOINT_LENGTH" 3) rfl)
  have gU := He.glo_ok X G (d.fact 18 (f := .glo "Unread") rfl)
  have gS := He.glo_ok X G (d.fact 19 (f := .glo "ShowError") rfl)
  have gT := He.glo_ok X G (d.fact 20 (f := .glo "TooLarge") rfl)
  have gN := He.glo_ok X G (d.fact 21 (f := .glo "NoWorld") rfl)
  have gW := He.glo_ok X G (d.fact 22 (f := .glo "WORDS") rfl)
  obtain ⟨u1, u2, u3, u4⟩ := He.exc_ok (d.fact 26 (f := .exc "Unread") rfl)
  have mS := He.exm_ok (d.fact 27 (f := .exm "Unread" "ShowError" true) rfl)
  obtain ⟨x1, x2⟩ := He.ba (show (He.valsB K (He.ga K "WORDS") [(" & ", .str "and"), (" | ", .str "or"), (" > ", .str "then")] && (exc8 K (He.ga K "Unread") && kit4 K)) = true from c.more)
  obtain ⟨x3, x4⟩ := He.ba x2
  obtain ⟨k1, x4⟩ := He.ba x4
  obtain ⟨k2, x4⟩ := He.ba x4
  obtain ⟨k3, k4⟩ := He.ba x4
  obtain ⟨es2, n2, KW⟩ := c.t.tab 0 (t := (fun K => He.ga K "WORDS", [" & ", " | ", " > "])) rfl
  have TU : UnC K mg (He.ga K "Unread") := ⟨u1, gU, u2, u3, u4⟩
  have TA : Asks K mg (He.ga K "Unread") := ⟨excC_of x3 u3, gU, ⟨_, gS, mS⟩, of_decide_eq_true k1, ⟨_, gT, of_decide_eq_true k2⟩, ⟨_, gN, of_decide_eq_true k3⟩, of_decide_eq_true k4, mV, mi⟩
  have TW : Words w K mg := ⟨He.ga K "WORDS", es2, n2, gW, KW, fun o => by
    cases o with
    | and => exact He.valsB_ok x1 (q := (" & ", .str "and")) (.head _)
    | or => exact He.valsB_ok x1 (q := (" | ", .str "or")) (.tail _ (.head _))
    | thn => exact He.valsB_ok x1 (q := (" > ", .str "then")) (.tail _ (.tail _ (.head _))), fun z hz => ns_none (tab_keys c.t 0 (t := (fun K => He.ga K "WORDS", [" & ", " | ", " > "])) rfl) hz⟩
  have b := FunD.bindsA (ps := ["_law_script"]) P17 fun _ _ _ _ _ _ us hl => match us, hl with | [_], _ => rfl
  refine ⟨d17, fun s v => b s [v] rfl, fun base _ _ TB => ?_⟩
  have TB2 : GxR.TabB base mg (He.cT K ("is_name", none)).1 (He.cT K ("is_name", none)).2 := ⟨TB.1, TB.2, TB.3⟩
  have GI : FnG P w K mg base [(He.cT K ("is_name", none)).2] "is_name" ["thing"] 1 rIsNm := ⟨_, _, ok_isNm P0 (List.mem_singleton.mpr rfl) TB2 (code_at (p := ("is_name", none)) F0) ml mi ms ma mL, g0, P0.kp, b1 P0 fun _ _ _ _ _ _ _ => rfl⟩
  have GN : FnG P w K mg base [(He.cT K ("is_name", none)).2] "_law_name_by" ["_law_seed", "_law_k"] 1 rName := ⟨_, _, ok_name P6 mr, g6, P6.kp, b2 P6 fun _ _ _ _ _ _ _ _ => rfl⟩
  have GJ : FnG P w K mg base [(He.cT K ("is_name", none)).2] "_law_joined" ["_law_way", "_law_one", "_law_other"] 1 rJoined := ⟨_, _, ok_joined P7, g7, P7.kp, b3 P7 fun _ _ _ _ _ _ _ _ _ => rfl⟩
  have GS : FnG P w K mg base [(He.cT K ("is_name", none)).2] "_law_step" ["_law_pile", "_law_cell", "_law_seed"] 2 rStep := ⟨_, _, ok_step P8 GN GJ ml (by decide) (by decide), g8, P8.kp, b3 P8 fun _ _ _ _ _ _ _ _ _ => rfl⟩
  have GB : FnG P w K mg base [(He.cT K ("is_name", none)).2] "_law_statement_by" ["_law_cells", "_law_seed"] 3 rStBy := ⟨_, _, ok_stBy P9 GN GS ml (by decide) (by decide), g9, P9.kp, b2 P9 fun _ _ _ _ _ _ _ _ => rfl⟩
  have GC : FnG P w K mg base [(He.cT K ("is_name", none)).2] "_law_cell_at" ["_law_script", "_law_k"] 1 rCell := ⟨_, _, ok_cell P5 ml, g5, P5.kp, b2 P5 fun _ _ _ _ _ _ _ _ => rfl⟩
  have GL := lwr_all (P := P) (w := w) (base := base) (tb := [(He.cT K ("is_name", none)).2]) P10 g10 P10.kp (b1 P10 fun _ _ _ _ _ _ _ => rfl) 12
  have GLR := lr_all (P := P) (w := w) (base := base) (tb := [(He.cT K ("is_name", none)).2]) P11 g11 (b3 P11 fun _ _ _ _ _ _ _ _ _ => rfl) ml 30
  have GM : FnG P w K mg base [(He.cT K ("is_name", none)).2] "_law_mended" ["_law_text", "_law_cell"] 1 rMend := ⟨_, _, ok_mend P12 ml, g12, P12.kp, b2 P12 fun _ _ _ _ _ _ _ _ => rfl⟩
  have GO : FnG P w K mg base [(He.cT K ("is_name", none)).2] "_law_odd" ["_law_cell"] 1 rOdd := ⟨_, _, ok_odd P13, g13, P13.kp, b1 P13 fun _ _ _ _ _ _ _ => rfl⟩
  have GD : FnG P w K mg base [(He.cT K ("is_name", none)).2] "_law_deep" ["_law_cell"] 1 rDeep := ⟨_, _, ok_deep P14 mr, g14, P14.kp, b1 P14 fun _ _ _ _ _ _ _ => rfl⟩
  have GT : FnG P w K mg base [(He.cT K ("is_name", none)).2] "_law_text_by" ["_law_script"] 14 rTextBy := ⟨_, _, ok_textBy P15 GC GB GL GM GO GD mr (by decide) (by decide) (by decide) (by decide) (by decide) (by decide), g15, P15.kp, b1 P15 fun _ _ _ _ _ _ _ => rfl⟩
  have GAt := at_all P2 P3 P4 g2 g3 g4 (b3 P2 fun _ _ _ _ _ _ _ _ _ => rfl) (b3 P3 fun _ _ _ _ _ _ _ _ _ => rfl) (b2 P4 fun _ _ _ _ _ _ _ _ => rfl) GI TW TU mJ 30
  have GR : FnX P w K mg base [(He.cT K ("is_name", none)).2] "read" ["text"] 64 rRead (xRead (He.ga K "Unread")) := ⟨_, _, ok_read P1 GAt ml mD (by decide) (hx_read GAt TU ml mD (by decide)), g1, P1.kp, b1 P1 fun _ _ _ _ _ _ _ => rfl⟩
  have GTo : FnX P w K mg base [(He.cT K ("is_name", none)).2] "_law_told" ["_law_text"] 65 rTold (fun _ _ => False) := ⟨_, _, ok_told P16 GR TA (by decide), g16, P16.kp, b1 P16 fun _ _ _ _ _ _ _ => rfl⟩
  exact ok_law (k := 65) P17 GT GLR GTo ml mi mt mr (by decide) (by decide) (by decide)
end
end K4
open PySem PySem.W PySem.Calls PyProof.Rows
theorem PySem.Challenge.cw_showtree_k04_texts_refused_holds : PySem.Challenge.rw_showtree_k04_texts_refused.Holds := by
  w_on; o_law
  refine HandSHeadRun.head_any (r := OpenLaw.row PySem.Challenge.rw_showtree_k04_texts_refused) (q := view (OpenLaw.row PySem.Challenge.rw_showtree_k04_texts_refused).prog [29]) (H := K4.hk) (ob := K4.ob) (M := 2000) (loose := K4.names) (d := HandSHeadRun.topDef (OpenLaw.row PySem.Challenge.rw_showtree_k04_texts_refused).prog 29) (kwd := []) K4.ob_eq
    (by kernel_rfl) (fun s => by kernel_rfl) K4.run (by kernel_rfl) (by kernel_rfl) (by kernel_rfl) (by rfl) (by first | assumption | decide +kernel) (by decide +kernel) ⟨rfl, rfl, rfl, rfl, rfl, by decide +kernel⟩ ?hw ?hc
  case hw => w_witness2
  case hc =>
    refine LamX.walk_ofTsE (l := PySem.Challenge.rw_showtree_k04_texts_refused) (n := 63) (k := 66) (x := "_law_script") (CX := fun _ => L2.CX0) rfl (by decide) (by kernel_rfl) ⟨rfl, by decide, by decide⟩ ?F (fun _ _ _ _ _ z => z)
    intro w mg fa h Y G hmg0
    obtain ⟨K, KX, c⟩ := Y
    have hmg : mg ("law" : PySem.Str) = some (.ref fa) := by
      have e : (HandSHeadRun.topDef (OpenLaw.row PySem.Challenge.rw_showtree_k04_texts_refused).prog 29).name = ("law" : PySem.Str) := by kernel_rfl
      rw [← e]
      exact hmg0
    obtain ⟨fd, hb, hF⟩ := K4.facts (P := (PySem.Challenge.rw_showtree_k04_texts_refused).prog) (w := w) KX G hmg c
    refine ⟨K, KX, fd, [He.cT K ("is_name", none)], DL.spD K [(He.cT K ("is_name", none)).2] 1 K4.rLaw, fun p hp => ?_, fun p hp => ?_, fun p hp => ?_, hb, fun H a ns _ _ hH hS => ?_, fun base X2 G2 TB => hF base X2 G2 (TB _ (List.mem_singleton.mpr rfl))⟩
    · rw [List.mem_singleton.mp hp]
      exact c.empty ("is_name", none) (List.mem_singleton.mpr rfl)
    · rw [List.mem_singleton.mp hp]
      exact c.out ("is_name", none) (List.mem_singleton.mpr rfl)
    · rw [List.mem_singleton.mp hp]
      exact PySem.W.codeHd_of_K KX (c.hd ("is_name", none) (List.mem_singleton.mpr rfl))
    · exact DL.sp_entry (fun p hp => by
        rw [List.mem_singleton.mp hp]
        exact hH _ (List.mem_singleton.mpr rfl)) hS ⟨ns, rfl, rfl⟩
